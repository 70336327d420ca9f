package answer_test

import (
	"bytes"
	"math"
	"math/rand"
	"slices"
	"strconv"
	"strings"
	"testing"

	"wherry/answer"
	"wherry/api"
)

func reply(code int, lines ...string) api.Reply { return api.Reply{Code: code, Lines: lines} }

func same(a, b api.Reply) bool { return a.Code == b.Code && slices.Equal(a.Lines, b.Lines) }

func many(n int) []string { return slices.Repeat([]string{"x"}, n) }

func goodReplies() []api.Reply {
	l := []api.Reply{
		reply(250, "ok"), reply(200, ""), reply(559, "no"), reply(250, "a", "b"), reply(250, "", "", ""), reply(354, " -", "- "), reply(500, many(20)...), reply(421, strings.Repeat("~", 200)), reply(259, strings.Repeat(" ", 200), "250 ok"), reply(250, "250-x", "250 y"),
	}
	for code := range 1000 {
		if code >= 200 && code <= 559 && code/10%10 <= 5 {
			l = append(l, reply(code, "t", "u"))
		}
	}
	return l
}

func badReplies() []api.Reply {
	l := []api.Reply{
		{}, reply(250), reply(250, many(21)...), reply(250, strings.Repeat("x", 201)), reply(250, "ok", strings.Repeat("x", 201)), reply(250, "a\r\n"), reply(250, "\x1f"), reply(250, "ok", "\x7f"), reply(250, "\xff"), reply(250, "ä"), reply(-250, "ok"), reply(1250, "ok"), reply(math.MaxInt, "ok"), reply(math.MinInt, "ok"), reply(0, "ok"),
	}
	for code := -5; code < 1000; code++ {
		if code < 200 || code > 559 || code/10%10 > 5 {
			l = append(l, reply(code, "t"))
		}
	}
	return l
}

func TestCheckAndBytes(t *testing.T) {
	for _, r := range goodReplies() {
		want := ""
		for i, s := range r.Lines {
			mark := "-"
			if i == len(r.Lines)-1 {
				mark = " "
			}
			want += strconv.Itoa(r.Code) + mark + s + "\r\n"
		}
		if e := answer.Check(r); e != api.OK {
			t.Error(r, e)
		}
		if b, e := answer.Bytes(r); e != api.OK || string(b) != want {
			t.Errorf("%v %q %v", r, b, e)
		}
	}
	for _, r := range badReplies() {
		if e := answer.Check(r); e != api.ErrForm {
			t.Error(r, e)
		}
		if b, e := answer.Bytes(r); e != api.ErrForm || len(b) != 0 {
			t.Errorf("%v %q %v", r, b, e)
		}
	}
}

func TestRead(t *testing.T) {
	for _, s := range []string{
		"", "250 ok", "250 ok\r", "250 ok\n", "\r\n", "250\r\n", "25 ok\r\n", "2500 ok\r\n", "+50 ok\r\n", "2x0 ok\r\n", "25: ok\r\n", "24: ok\r\n", "1:0 ok\r\n", "25/ ok\r\n", "250_ok\r\n", "250ok\r\n", "250-ok\r\n", "250-ok\r\n251 ok\r\n", "250-ok\r\n250\r\n", "250-ok\r\n\r\n250 ok\r\n", "250-ok\r\nx", "199 ok\r\n", "560 ok\r\n", "260 ok\r\n", "000 ok\r\n", "999 ok\r\n",
		" 250 ok\r\n", "250 o\nk\r\n", "250 o\rk\r\n", "250 \x00\r\n", "250-\x7f\r\n250 ok\r\n", "250 " + strings.Repeat("x", 201) + "\r\n", "250-" + strings.Repeat("x", 201) + "\r\n250 ok\r\n", strings.Repeat("250-x\r\n", 20) + "250 x\r\n", strings.Repeat("250-x\r\n", 500), "250 ok\n\r\n",
	} {
		if r, n, e := answer.Read([]byte(s)); e != api.ErrBytes || n != 0 || !same(r, api.Reply{}) {
			t.Errorf("%q %v %d %v", s, r, n, e)
		}
	}
	for _, c := range []struct {
		s    string
		n    int
		want api.Reply
	}{
		{"250 ok\r\n", 8, reply(250, "ok")}, {"250 ok\r\n250 more\r\n", 8, reply(250, "ok")}, {"250 ok\r\n\xff\x00", 8, reply(250, "ok")}, {"250 \r\n", 6, reply(250, "")}, {"250-\r\n250 \r\n\r\n", 12, reply(250, "", "")}, {"250--\r\n250  -\r\n", 15, reply(250, "-", " -")},
		{strings.Repeat("250-x\r\n", 19) + "250 x\r\n", 140, reply(250, many(20)...)},
	} {
		if r, n, e := answer.Read([]byte(c.s)); e != api.OK || n != c.n || !same(r, c.want) {
			t.Errorf("%q %v %d %v", c.s, r, n, e)
		}
	}
	b := []byte("250 ok\r\n")
	if _, n, e := answer.Read(b[:7]); n != 0 || e != api.ErrBytes {
		t.Error("memory beyond the length was read")
	}
}

func TestGood(t *testing.T) {
	for code := -10; code < 1200; code++ {
		if got := answer.Good(code); got != (code >= 200 && code <= 399) {
			t.Error(code, got)
		}
	}
	if answer.Good(math.MaxInt) || answer.Good(math.MinInt) {
		t.Error("far numbers")
	}
}

// TestInverse is promise P13.2.
func TestInverse(t *testing.T) {
	rnd := rand.New(rand.NewSource(1))
	for _, r := range goodReplies() {
		b, _ := answer.Bytes(r)
		got, n, e := answer.Read(append(bytes.Clone(b), "250 more\r\n"[:rnd.Intn(11)]...))
		if e != api.OK || n != len(b) || !same(got, r) {
			t.Fatal(r, got, n, e)
		}
		for cut := range len(b) {
			if _, n, e := answer.Read(b[:cut]); e != api.ErrBytes || n != 0 {
				t.Fatal(r, cut, n, e)
			}
		}
	}
}

// TestNoPrefix is promise P13.2.
func TestNoPrefix(t *testing.T) {
	var all [][]byte
	for _, r := range goodReplies() {
		b, _ := answer.Bytes(r)
		all = append(all, b)
	}
	for i, a := range all {
		for k, b := range all {
			if i != k && !bytes.Equal(a, b) && bytes.HasPrefix(b, a) {
				t.Errorf("%q is a prefix of %q", a, b)
			}
		}
	}
}
