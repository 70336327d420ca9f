package spool_test

import (
	"bytes"
	"fmt"
	"math"
	"math/rand"
	"slices"
	"testing"

	"wherry/api"
	"wherry/spool"
)

var (
	ab   = api.Path{Local: "a", Domain: "b"}
	null = api.Path{Null: true}
)

func mail(id, origin int) api.Rec {
	return api.Rec{Kind: api.RecMail, Id: id, Origin: origin, Mail: api.Mail{From: ab, To: []api.Path{ab, {Local: "c", Domain: "d"}}, Body: []byte("x\r\n"), Quiet: true, Helo: "h", At: 7}}
}

func pack(number int, ids ...int) api.Rec {
	return api.Rec{Kind: api.RecPack, Number: number, Ids: ids}
}

func sent(number int) api.Rec { return api.Rec{Kind: api.RecSent, Number: number} }

func bounce(id int) api.Rec { return api.Rec{Kind: api.RecBounce, Id: id} }

func chunk(number, offset int, data string) api.Rec {
	return api.Rec{Kind: api.RecChunk, Number: number, Offset: offset, Data: []byte(data)}
}

func done(number int) api.Rec { return api.Rec{Kind: api.RecDone, Number: number} }

// show writes a value so that nil and empty slices are alike.
func show(v any) string { return fmt.Sprintf("%+v", v) }

func fold(t *testing.T, l ...api.Rec) api.Spool {
	t.Helper()
	s, n := spool.Fold(l)
	if n != len(l) {
		t.Fatalf("only %d of %d records were added", n, len(l))
	}
	return s
}

func states(s api.Spool) []int {
	var l []int
	for _, x := range s.Items {
		l = append(l, x.State, x.Pack)
	}
	return l
}

func TestNew(t *testing.T) {
	if s := spool.New(); show(s) != show(api.Spool{Of: -1}) {
		t.Error(s)
	}
	if s, n := spool.Fold(nil); n != 0 || show(s) != show(api.Spool{Of: -1}) {
		t.Error(s, n)
	}
}

func TestEffects(t *testing.T) {
	s := fold(t, mail(1, 1), mail(2, 0))
	if show(s.Items) != show([]api.Item{{Id: 1, Mail: mail(1, 1).Mail, State: api.Waiting}, {Id: 2, Mail: mail(1, 1).Mail, State: api.Gone}}) || s.Of != -1 {
		t.Error(show(s))
	}
	s = fold(t, mail(1, 1), pack(1, 1), sent(1))
	if !slices.Equal(states(s), []int{api.Gone, 1}) || s.Packs != 1 || !slices.Equal(s.Sent, []int{1}) {
		t.Error(show(s))
	}
	s = fold(t, mail(1, 1), mail(2, 1), mail(3, 1), mail(4, 1), mail(5, 1), pack(1, 2, 4), bounce(3), pack(2, 1, 5), sent(2))
	if !slices.Equal(states(s), []int{api.Gone, 2, api.Packed, 1, api.Bounced, 0, api.Packed, 1, api.Gone, 2}) || s.Packs != 2 || !slices.Equal(s.Sent, []int{2}) {
		t.Error(show(s))
	}
	s = fold(t, mail(1, 1), mail(2, 1), mail(3, 1), pack(1, 1), pack(2, 2), pack(3, 3), sent(3), sent(1), sent(2))
	if !slices.Equal(s.Sent, []int{3, 1, 2}) {
		t.Error(show(s))
	}
	for k, c := range []struct {
		l    []api.Rec
		of   int
		part string
		done []int
	}{
		{[]api.Rec{chunk(7, 0, "ab")}, 7, "ab", nil}, {[]api.Rec{chunk(7, 0, "ab"), chunk(7, 2, "c"), chunk(7, 3, "d")}, 7, "abcd", nil}, {[]api.Rec{chunk(7, 0, "ab"), chunk(7, 0, "c")}, 7, "c", nil}, {[]api.Rec{chunk(7, 0, "ab"), chunk(8, 0, "c"), chunk(8, 1, "d")}, 8, "cd", nil},
		{[]api.Rec{chunk(7, 0, "ab"), done(7)}, -1, "", []int{7}}, {[]api.Rec{chunk(7, 0, "ab"), done(9), done(2), done(5)}, 7, "ab", []int{2, 5, 9}}, {[]api.Rec{done(65535), done(1), chunk(65534, 0, "x"), done(2)}, 65534, "x", []int{1, 2, 65535}},
	} {
		s := fold(t, c.l...)
		if s.Of != c.of || string(s.Part) != c.part || !slices.Equal(s.Done, c.done) {
			t.Error(k, show(s))
		}
	}
}

// base is a spool with one item of each state, a part of bundle 7, and bundles done.
func base() []api.Rec {
	return []api.Rec{mail(1, 1), mail(2, 1), mail(3, 1), mail(4, 0), mail(5, 1), mail(6, 1), mail(7, 1), pack(1, 2), pack(2, 3), sent(2), bounce(5), chunk(7, 0, "abc"), done(4), done(6)}
}

func with(r api.Rec, change func(r *api.Rec)) api.Rec {
	r.Mail.To = slices.Clone(r.Mail.To)
	change(&r)
	return r
}

func goodRecs() []api.Rec {
	m := mail(8, 1)
	return []api.Rec{
		m, mail(8, 0),
		with(m, func(r *api.Rec) { r.Mail.From = null }), with(m, func(r *api.Rec) { r.Mail.To = slices.Repeat([]api.Path{ab}, 8) }), with(m, func(r *api.Rec) { r.Mail.To = []api.Path{ab} }), with(m, func(r *api.Rec) { r.Mail.Body = nil }), with(m, func(r *api.Rec) { r.Mail.Body = append(bytes.Repeat([]byte("x"), 9000), "\r\n"...) }), with(m, func(r *api.Rec) { r.Mail.At = 0 }), with(m, func(r *api.Rec) { r.Mail.At = 1 << 40 }), with(m, func(r *api.Rec) { r.Mail.Quiet, r.Mail.Helo = false, "" }), with(m, func(r *api.Rec) { r.Mail.Helo = "no domain" }),
		pack(3, 1), pack(3, 1, 6), pack(3, 1, 6, 7), sent(1), bounce(1), bounce(6),
		chunk(7, 3, "d"), chunk(7, 0, "d"), chunk(8, 0, "d"), chunk(1, 0, "d"), chunk(65535, 0, "d"), chunk(7, 3, string(make([]byte, 48))), done(7), done(1), done(5), done(65535),
	}
}

func badRecs() []api.Rec {
	m := mail(8, 1)
	l := []api.Rec{
		{}, {Kind: 7}, {Kind: -1}, {Kind: math.MaxInt},
		mail(7, 1), mail(9, 1), mail(0, 1), mail(8, 2), mail(8, -1),
		with(m, func(r *api.Rec) { r.Mail.From = api.Path{} }), with(m, func(r *api.Rec) { r.Mail.From.Null = true }), with(m, func(r *api.Rec) { r.Mail.To = nil }), with(m, func(r *api.Rec) { r.Mail.To[1] = null }), with(m, func(r *api.Rec) { r.Mail.To[0] = api.Path{} }), with(m, func(r *api.Rec) { r.Mail.To = slices.Repeat([]api.Path{ab}, 9) }), with(m, func(r *api.Rec) { r.Mail.Body = []byte("x") }), with(m, func(r *api.Rec) { r.Mail.Body = []byte("\n") }), with(m, func(r *api.Rec) { r.Mail.At = -1 }), with(m, func(r *api.Rec) { r.Mail.At = 1<<40 + 1 }), with(m, func(r *api.Rec) { r.Mail = api.Mail{} }),
		pack(2, 1), pack(4, 1), pack(0, 1), pack(-1, 1), pack(3), pack(3, 1, 1), pack(3, 6, 1), pack(3, 2), pack(3, 3), pack(3, 4), pack(3, 5), pack(3, 1, 2), pack(3, 1, 4, 6), pack(3, 8), pack(3, 0), pack(3, -1), pack(3, 1, 8), pack(3, 0, 1),
		sent(0), sent(-1), sent(2), sent(3), bounce(0), bounce(2), bounce(3), bounce(4), bounce(5), bounce(8), bounce(-1), bounce(math.MaxInt),
		chunk(7, 2, "d"), chunk(7, 4, "d"), chunk(7, 1, "d"), chunk(7, -1, "d"), chunk(8, 3, "d"), chunk(4, 0, "d"), chunk(6, 0, "d"), chunk(6, 3, "d"), chunk(0, 0, "d"), chunk(-1, 0, "d"), chunk(65536, 0, "d"), chunk(7, 3, ""), chunk(7, 0, ""), chunk(7, 3, string(make([]byte, 49))), chunk(7, 0, string(make([]byte, 49))), chunk(7, math.MaxInt, "d"), chunk(7, math.MinInt, "d"),
		done(4), done(6), done(0), done(-1), done(65536), done(math.MaxInt),
	}
	// Each field that is not mentioned for a kind.
	changes := []func(r *api.Rec){
		func(r *api.Rec) { r.Id++ }, func(r *api.Rec) { r.Ids = append(slices.Clone(r.Ids), 7) }, func(r *api.Rec) { r.Origin++ }, func(r *api.Rec) { r.Number++ }, func(r *api.Rec) { r.Offset++ }, func(r *api.Rec) { r.Data = []byte{0} },
		func(r *api.Rec) { r.Mail.From = null }, func(r *api.Rec) { r.Mail.From.Local = "x" }, func(r *api.Rec) { r.Mail.From.Domain = "x" }, func(r *api.Rec) { r.Mail.To = make([]api.Path, 1) }, func(r *api.Rec) { r.Mail.Body = []byte("\r\n") }, func(r *api.Rec) { r.Mail.Quiet = true }, func(r *api.Rec) { r.Mail.Helo = "h" }, func(r *api.Rec) { r.Mail.At = 1 },
	}
	mine := map[int][]int{api.RecMail: {0, 2, 6, 7, 8, 9, 10, 11, 12, 13}, api.RecPack: {1, 3}, api.RecSent: {3}, api.RecBounce: {0}, api.RecChunk: {3, 4, 5}, api.RecDone: {3}}
	for _, r := range []api.Rec{m, pack(3, 1, 6), sent(1), bounce(1), chunk(7, 3, "d"), done(7)} {
		for i, change := range changes {
			if !slices.Contains(mine[r.Kind], i) {
				l = append(l, with(r, change))
			}
		}
	}
	return l
}

func TestAddValid(t *testing.T) {
	s := fold(t, base()...)
	before := show(s)
	for k, r := range goodRecs() {
		got, e := spool.Add(s, r)
		if e != api.OK || show(got) != show(fold(t, append(base(), r)...)) || show(got) == before {
			t.Error(k, show(got), e)
		}
		if show(s) != before {
			t.Fatal(k, "the argument was changed")
		}
	}
	for k, r := range badRecs() {
		got, e := spool.Add(s, r)
		if e != api.ErrForm || show(got) != show(api.Spool{}) {
			t.Error(k, show(r), show(got), e)
		}
		if got, n := spool.Fold(append(base(), r, done(9))); n != len(base()) || show(got) != before {
			t.Error(k, show(r), show(got), n)
		}
	}
}

func TestGreatestCounts(t *testing.T) {
	var l []api.Rec
	for i := range 60 {
		l = append(l, mail(i+1, 1))
	}
	s := fold(t, l...)
	if _, e := spool.Add(s, mail(61, 1)); e != api.ErrForm {
		t.Error(e)
	}
	if _, e := spool.Add(s, pack(1, 1, 2, 3, 60)); e != api.OK {
		t.Error(e)
	}
	if _, e := spool.Add(s, pack(1, 1, 2, 3, 4, 5)); e != api.ErrForm {
		t.Error(e)
	}
	l = nil
	for at := 0; at+40 <= 4960; at += 40 {
		l = append(l, chunk(1, at, string(make([]byte, 40))))
	}
	s = fold(t, l...)
	for _, c := range []struct {
		n int
		e api.Errno
	}{{39, 0}, {40, 0}, {41, api.ErrForm}} {
		if _, e := spool.Add(s, chunk(1, 4960, string(make([]byte, c.n)))); e != c.e {
			t.Error(c.n, e)
		}
	}
}

// TestAnyState has states that no records represent; the calls end all the same.
func TestAnyState(t *testing.T) {
	for _, s := range []api.Spool{{}, {Items: []api.Item{{Id: 9, State: api.Waiting}, {}}, Packs: math.MaxInt, Sent: []int{-1}, Part: []byte{1}, Of: 99, Done: []int{9, 3, 3}}, {Items: make([]api.Item, 100), Packs: -5, Of: -7}} {
		for _, r := range append(goodRecs(), badRecs()...) {
			spool.Add(s, r)
		}
	}
}

// slowLean takes out one record after the other.
func slowLean(l []api.Rec) []api.Rec {
	s, n := spool.Fold(l)
	l = slices.Clone(l[:n])
	for i := range l {
		if l[i].Kind != api.RecChunk {
			continue
		}
		gone := slices.Contains(s.Done, l[i].Number)
		for _, r := range l[i+1:] {
			gone = gone || r.Kind == api.RecChunk && r.Offset == 0
		}
		if gone {
			l[i].Kind = -1
		}
	}
	return slices.DeleteFunc(l, func(r api.Rec) bool { return r.Kind == -1 })
}

func TestLean(t *testing.T) {
	for k, c := range []struct{ l, want []api.Rec }{
		{nil, nil}, {base(), base()},
		{[]api.Rec{chunk(1, 0, "a"), chunk(1, 1, "b"), done(1)}, []api.Rec{done(1)}}, {[]api.Rec{chunk(1, 0, "a"), chunk(1, 1, "b"), done(2)}, []api.Rec{chunk(1, 0, "a"), chunk(1, 1, "b"), done(2)}},
		{[]api.Rec{chunk(1, 0, "a"), chunk(1, 1, "b"), chunk(1, 0, "c"), chunk(1, 1, "d")}, []api.Rec{chunk(1, 0, "c"), chunk(1, 1, "d")}}, {[]api.Rec{chunk(1, 0, "a"), mail(1, 1), chunk(2, 0, "b"), bounce(1), chunk(2, 1, "c"), done(3)}, []api.Rec{mail(1, 1), chunk(2, 0, "b"), bounce(1), chunk(2, 1, "c"), done(3)}},
		{[]api.Rec{chunk(1, 0, "a"), chunk(2, 0, "b"), done(2)}, []api.Rec{done(2)}},
		{[]api.Rec{mail(1, 1), chunk(1, 0, "a"), chunk(1, 5, "b"), done(1)}, []api.Rec{mail(1, 1), chunk(1, 0, "a")}}, {[]api.Rec{chunk(1, 0, "a"), {}, chunk(2, 0, "b")}, []api.Rec{chunk(1, 0, "a")}},
	} {
		before := show(c.l)
		if got := spool.Lean(c.l); show(got) != show(c.want) || show(c.l) != before {
			t.Error(k, show(got))
		}
	}
}

// someRecs gives records of which most are valid one after the other.
func someRecs(rnd *rand.Rand) []api.Rec {
	var l []api.Rec
	s := spool.New()
	for range rnd.Intn(40) {
		var r api.Rec
		switch rnd.Intn(7) {
		case 0, 1:
			r = mail(len(s.Items)+1, rnd.Intn(2))
		case 2:
			var ids []int
			for _, x := range s.Items {
				if x.State == api.Waiting && rnd.Intn(2) == 0 && len(ids) < 4 {
					ids = append(ids, x.Id)
				}
			}
			r = pack(s.Packs+1, ids...)
		case 3:
			r = sent(1 + rnd.Intn(4))
		case 4:
			r = bounce(1 + rnd.Intn(9))
		case 5:
			if r = chunk(max(1, s.Of), len(s.Part), "some data"[:1+rnd.Intn(9)]); rnd.Intn(3) == 0 {
				r = chunk(1+rnd.Intn(5), 0, "other")
			}
		case 6:
			r = done(1 + rnd.Intn(6))
		}
		if next, e := spool.Add(s, r); e == api.OK {
			s = next
			l = append(l, r)
		} else if rnd.Intn(40) == 0 {
			l = append(l, r)
		}
	}
	return l
}

// TestFoldIsAdds is promise P19.1: Fold adds one record after the other.
func TestFoldIsAdds(t *testing.T) {
	rnd := rand.New(rand.NewSource(1))
	for range 400 {
		l := someRecs(rnd)
		s, n := spool.New(), 0
		for _, r := range l {
			next, e := spool.Add(s, r)
			if e != api.OK {
				break
			}
			s = next
			n++
		}
		before := show(l)
		got, count := spool.Fold(l)
		if show(got) != show(s) || count != n || show(l) != before {
			t.Fatal(show(l), show(got), count)
		}
	}
}

// TestLeanRepresentsTheSame is promise P19.2.
func TestLeanRepresentsTheSame(t *testing.T) {
	rnd := rand.New(rand.NewSource(2))
	shorter := 0
	for range 400 {
		l := someRecs(rnd)
		s, n := spool.Fold(l)
		lean := spool.Lean(l)
		got, count := spool.Fold(lean)
		if show(got) != show(s) || count != len(lean) || show(lean) != show(slowLean(l)) || show(spool.Lean(lean)) != show(lean) {
			t.Fatal(show(l), show(lean))
		}
		if len(lean) < n {
			shorter++
		}
	}
	if shorter < 50 {
		t.Error(shorter)
	}
}

func TestOwnMemory(t *testing.T) {
	spoil := func(s api.Spool) {
		for _, x := range s.Items {
			if len(x.Mail.Body) > 0 {
				x.Mail.Body[0] ^= 255
			}
			x.Mail.To[0].Local = "spoilt"
		}
		for i := range s.Items {
			s.Items[i].State = 99
		}
		for _, l := range [][]int{s.Sent, s.Done} {
			for i := range l[:cap(l)] {
				l[:cap(l)][i] = 99
			}
		}
		for i := range s.Part[:cap(s.Part)] {
			s.Part[:cap(s.Part)][i] ^= 255
		}
	}
	l := base()
	before := show(l)
	s := fold(t, l...)
	wanted := show(s)
	for _, r := range goodRecs() {
		kept := show(r)
		next, _ := spool.Add(s, r)
		again, _ := spool.Add(s, r)
		told := show(again)
		spoil(next)
		if show(s) != wanted || show(again) != told || show(r) != kept {
			t.Fatal("the result of Add shares memory")
		}
	}
	lean := spool.Lean(l)
	for _, r := range lean {
		if len(r.Mail.Body) > 0 {
			r.Mail.Body[0], r.Mail.To[0].Local = 0, "spoilt"
		}
		if len(r.Data) > 0 {
			r.Data[0] = 0
		}
		if len(r.Ids) > 0 {
			r.Ids[0] = 99
		}
	}
	spoil(s)
	if show(l) != before {
		t.Error("a result shares memory with the argument")
	}
}
