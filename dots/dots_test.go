package dots_test

import (
	"bytes"
	"math/rand"
	"strings"
	"testing"

	"wherry/api"
	"wherry/dots"
)

func isBody(s string) bool {
	return !strings.ContainsAny(strings.ReplaceAll(s, "\r\n", ""), "\r\n") && (s == "" || strings.HasSuffix(s, "\r\n"))
}

func slowStuff(s string) string {
	s = strings.ReplaceAll("\r\n"+s, "\r\n.", "\r\n..")
	return s[2:] + ".\r\n"
}

// slowStrip gives the offset behind the dot, or 0 if there is none.
func slowStrip(s string) (body string, next int, e api.Errno) {
	at := strings.Index("\r\n"+s, "\r\n.\r\n")
	if at < 0 {
		return "", 0, api.ErrNone
	}
	if !isBody(s[:at]) {
		return "", 0, api.ErrForm
	}
	return strings.ReplaceAll("\r\n"+s[:at], "\r\n.", "\r\n")[2:], at + 3, api.OK
}

func slowLines(s string) []string {
	l := strings.Split(s, "\r\n")
	return l[:len(l)-1]
}

func texts() []string {
	l := []string{
		"", "\r\n", "a\r\n", ".\r\n", "..\r\n", ".a\r\n", "a.\r\n", "a\r\n.\r\nb\r\n", "\r\n\r\n", "a\r\n\r\nb\r\n", "\x00\xff\r\n", "\t\r\n",
		"a", ".", "\r", "\n", "\n\r", "a\r", "a\n", "a\r\nb", "a\rb\r\n", "a\nb\r\n", "\r\r\n", "\r\n\n", "\n\r\n", "\r\n\r", "a\r\n.", "..\r\n.\r\n", ".\r\n.\r\n", "a\r\n.\r\nb", "a\n.\r\n", "a\r.\r\n", "a\r\n.\r", "a\r\n.\n", ".\r", "x.\r\n", "x\r\n.\r\n.\r\n", "\r\r\n.\r\n", "\n\r\n.\r\n", "a\rb\r\n.\r\nc", "a\nb\r\n.\r\n.\r\n", " .\r\n", ". \r\n", "...\r\n.\r\n", ".a\r\n..b\r\n.\r\nrest", "a\r\n..\r\n.x\r\n.\r\n",
	}
	rnd := rand.New(rand.NewSource(1))
	for range 8000 {
		var s strings.Builder
		for range rnd.Intn(12) {
			s.WriteString([]string{"\r\n", "\r\n", "\r\n.", ".", "a", "\r", "\n", ".\r\n", "b\r\n", "\r\n.\r\n"}[rnd.Intn(10-rnd.Intn(9))])
		}
		l = append(l, s.String())
	}
	return l
}

func TestCheckAndStuff(t *testing.T) {
	for _, s := range texts() {
		want := api.OK
		if !isBody(s) {
			want = api.ErrForm
		}
		b := []byte(s)
		if e := dots.Check(b); e != want {
			t.Fatalf("%q %v", s, e)
		}
		got, e := dots.Stuff(b)
		if e != want || e == api.OK && string(got) != slowStuff(s) || e != api.OK && len(got) != 0 {
			t.Fatalf("%q %q %v", s, got, e)
		}
		if string(b) != s {
			t.Fatal("the argument was changed")
		}
	}
}

func TestStuffKnown(t *testing.T) {
	for s, want := range map[string]string{"": ".\r\n", ".\r\n": "..\r\n.\r\n", "a\r\n..b\r\n c.\r\n": "a\r\n...b\r\n c.\r\n.\r\n", "\r\n": "\r\n.\r\n"} {
		if got, e := dots.Stuff([]byte(s)); string(got) != want || e != api.OK {
			t.Errorf("%q %q %v", s, got, e)
		}
	}
}

func TestStrip(t *testing.T) {
	for _, s := range texts() {
		wantBody, wantNext, want := slowStrip(s)
		b := []byte(s)
		body, next, e := dots.Strip(b)
		if string(body) != wantBody || next != wantNext || e != want {
			t.Fatalf("%q %q %d %v", s, body, next, e)
		}
		for i := range body {
			body[i] ^= 255
		}
		if string(b) != s {
			t.Fatal("the result shares memory with the argument")
		}
	}
	for _, c := range []struct {
		s, body string
		next    int
		e       api.Errno
	}{
		{".\r\n", "", 3, 0}, {".\r\n.\r\n", "", 3, 0}, {"..\r\n.\r\n", ".\r\n", 7, 0}, {".a\r\n.\r\n", "a\r\n", 7, 0}, {"a\r\n.\r\nQUIT\r\n", "a\r\n", 6, 0}, {"a.\r\n", "", 0, api.ErrNone}, {"", "", 0, api.ErrNone}, {"a\r\n.\r", "", 0, api.ErrNone}, {"a\n.\r\n", "", 0, api.ErrNone}, {"a\n\r\n.\r\n", "", 0, api.ErrForm}, {"\n.\r\n.\r\n", "", 0, api.ErrForm},
	} {
		if body, next, e := dots.Strip([]byte(c.s)); string(body) != c.body || next != c.next || e != c.e {
			t.Errorf("%q %q %d %v", c.s, body, next, e)
		}
	}
	b := []byte("a\r\n.\r\n")
	if _, _, e := dots.Strip(b[:5]); e != api.ErrNone {
		t.Error("memory beyond the length was read")
	}
}

func TestLines(t *testing.T) {
	for _, s := range texts() {
		b := []byte(s)
		got, want := dots.Lines(b), slowLines(s)
		if len(got) != len(want) {
			t.Fatalf("%q %q", s, got)
		}
		for i := range got {
			if string(got[i]) != want[i] {
				t.Fatalf("%q %q", s, got)
			}
		}
		// No line shares memory with another one, nor with the argument.
		for i := range got {
			all := got[i][:cap(got[i])]
			for k := range all {
				all[k] = 'Z'
			}
			for k := i + 1; k < len(got); k++ {
				if string(got[k]) != want[k] {
					t.Fatalf("%q: lines share memory", s)
				}
			}
		}
		if string(b) != s {
			t.Fatal("the result shares memory with the argument")
		}
	}
}

// TestRoomIsLeft has bodies with unused capacity, which must stay as it is, and changes the results.
func TestRoomIsLeft(t *testing.T) {
	for _, s := range []string{"", "a\r\n", ".a\r\nb\r\n", "a\r\n.\r\n"} {
		room := append([]byte(s), "unused capacity"...)
		b := room[:len(s)]
		for _, call := range []func(b []byte) []byte{
			func(b []byte) []byte { r, _ := dots.Stuff(b); return r },
			func(b []byte) []byte { r, _, _ := dots.Strip(b); return r },
		} {
			got := call(b)
			for i := range got[:cap(got)] {
				got[:cap(got)][i] = 'Z'
			}
			if string(room) != s+"unused capacity" {
				t.Errorf("%q became %q", s, room)
			}
		}
	}
}

// TestInverse is promise P14.2.
func TestInverse(t *testing.T) {
	n := 0
	for _, s := range texts() {
		if !isBody(s) {
			continue
		}
		n++
		stuffed, e := dots.Stuff([]byte(s))
		body, next, e2 := dots.Strip(append(bytes.Clone(stuffed), "more.\r\n.\r\n"...))
		if e != api.OK || e2 != api.OK || string(body) != s || next != len(stuffed) {
			t.Fatalf("%q %q %q %d", s, stuffed, body, next)
		}
	}
	if n < 500 {
		t.Error(n)
	}
}
