package match_test

import (
	"bytes"
	"math"
	"math/rand"
	"slices"
	"testing"

	"wherry/api"
	"wherry/match"
)

func lit(b byte) api.Tok          { return api.Tok{Byte: b} }
func back(n, dist int) api.Tok    { return api.Tok{Len: n, Dist: dist} }
func noise(seed, n int) []byte    { return fill(seed, n, 256) }
func fill(seed, n, of int) []byte { return draw(rand.New(rand.NewSource(int64(seed))), n, of) }

func draw(rnd *rand.Rand, n, of int) []byte {
	b := make([]byte, n)
	for i := range b {
		b[i] = byte(rnd.Intn(of))
	}
	return b
}

// slowBest tries every distance.
func slowBest(b []byte, at int) (length, dist int) {
	for d := 1; d <= min(at, 2048); d++ {
		n := 0
		for n < 258 && at+n < len(b) && b[at+n] == b[at+n-d] {
			n++
		}
		if n > length {
			length, dist = n, d
		}
	}
	if length < 3 {
		return 0, 0
	}
	return length, dist
}

func slowTokens(b []byte) []api.Tok {
	var l []api.Tok
	for at := 0; at < len(b); {
		if n, d := slowBest(b, at); n > 0 {
			l = append(l, back(n, d))
			at += n
		} else {
			l = append(l, lit(b[at]))
			at++
		}
	}
	return l
}

func texts() [][]byte {
	rnd := rand.New(rand.NewSource(5))
	far := noise(1, 2200)
	l := [][]byte{
		nil, {0}, []byte("ab"), []byte("aaaa"), []byte("abcabc"), []byte("abcab"), []byte("xabcyabczabc"), []byte("abcdabceabcd"), make([]byte, 4096), noise(2, 4096),
		bytes.Repeat([]byte{7}, 259), bytes.Repeat([]byte{7}, 260), bytes.Repeat([]byte{7}, 261), bytes.Repeat([]byte{7}, 262), bytes.Repeat([]byte{7}, 520),
		slices.Concat(far[:2048], far[:9]), slices.Concat(far[:2049], far[:9]), slices.Concat(far[:2047], far[:9]), slices.Concat(far[:300], []byte{1}, far[:300]),
		slices.Concat(far[:10], far[:5], far[100:110], far[:9]), slices.Concat(far[:2046], far[:3]), slices.Concat(far[:2048], far[:3]), slices.Concat(far[:2050], far[:3]),
	}
	for k := range 60 {
		l = append(l, draw(rnd, rnd.Intn(400), 2+k%5))
	}
	return append(l, draw(rnd, 4096, 2), draw(rnd, 4096, 4))
}

func TestTokens(t *testing.T) {
	for k, c := range []struct {
		s    string
		want []api.Tok
	}{
		{"", nil}, {"a", []api.Tok{lit('a')}}, {"aaaaa", []api.Tok{lit('a'), back(4, 1)}}, {"aaa", []api.Tok{lit('a'), lit('a'), lit('a')}},
		{"abcabcab", []api.Tok{lit('a'), lit('b'), lit('c'), back(5, 3)}},
		{"abc1abc2abc", []api.Tok{lit('a'), lit('b'), lit('c'), lit('1'), back(3, 4), lit('2'), back(3, 4)}},
		{"abcd1abc2abcd", []api.Tok{lit('a'), lit('b'), lit('c'), lit('d'), lit('1'), back(3, 5), lit('2'), back(4, 9)}},
	} {
		if got, e := match.Tokens([]byte(c.s)); e != api.OK || !slices.Equal(got, c.want) {
			t.Error(k, got, e)
		}
	}
	for k, b := range texts() {
		before := bytes.Clone(b)
		got, e := match.Tokens(b)
		if e != api.OK || !slices.Equal(got, slowTokens(b)) {
			t.Fatal(k, got, e)
		}
		if !bytes.Equal(b, before) {
			t.Fatal(k, "the argument was changed")
		}
	}
	if l, e := match.Tokens(make([]byte, api.MaxText+1)); e != api.ErrLen || len(l) != 0 {
		t.Error(len(l), e)
	}
}

func TestTokensReadNothingBehind(t *testing.T) {
	b := []byte("abcdabcd")
	if l, e := match.Tokens(b[:7]); e != api.OK || !slices.Equal(l, []api.Tok{lit('a'), lit('b'), lit('c'), lit('d'), back(3, 4)}) {
		t.Error(l, e)
	}
	if l, e := match.Tokens(b[:6]); e != api.OK || len(l) != 6 {
		t.Error(l, e)
	}
}

func TestBest(t *testing.T) {
	for k, c := range []struct {
		s                string
		at, length, dist int
	}{
		{"aaaaa", 1, 4, 1}, {"aaaaa", 2, 3, 1}, {"aaaaa", 3, 0, 0}, {"aaaaa", 0, 0, 0}, {"aaaaa", 5, 0, 0}, {"aaaaa", -1, 0, 0}, {"aaaaa", math.MaxInt, 0, 0}, {"aaaaa", math.MinInt, 0, 0},
		{"", 0, 0, 0}, {"abc1abc2abc", 8, 3, 4}, {"abcd1abc2abcd", 9, 4, 9}, {"abcd1abcd2abc", 10, 3, 5},
	} {
		if n, d := match.Best([]byte(c.s), c.at); n != c.length || d != c.dist {
			t.Error(k, n, d)
		}
	}
	for k, b := range texts() {
		step := 1 + len(b)/200
		for at := 0; at < len(b); at += step {
			n, d := match.Best(b, at)
			wantN, wantD := slowBest(b, at)
			if n != wantN || d != wantD {
				t.Fatal(k, at, n, d, wantN, wantD)
			}
		}
	}
	if n, d := match.Best(make([]byte, api.MaxText), 9); n != 258 || d != 1 {
		t.Error(n, d)
	}
	if n, d := match.Best(make([]byte, api.MaxText+1), 9); n != 0 || d != 0 {
		t.Error(n, d)
	}
}

func TestCheckAndExpand(t *testing.T) {
	a := lit('a')
	long := slices.Concat([]api.Tok{a}, slices.Repeat([]api.Tok{back(258, 1)}, 15)) // 3871 bytes
	far := slices.Repeat([]api.Tok{a}, 2049)
	for k, c := range []struct {
		l    []api.Tok
		e    api.Errno
		want string
	}{
		{nil, 0, ""}, {[]api.Tok{a, back(4, 1)}, 0, "aaaaa"}, {[]api.Tok{a, lit('b'), lit('c'), back(7, 2), back(3, 9)}, 0, "abcbcbcbcbbcb"},
		{[]api.Tok{lit(0), back(258, 1)}, 0, string(make([]byte, 259))},
		{[]api.Tok{a, a, back(3, 2)}, 0, "aaaaa"}, {[]api.Tok{a, a, back(3, 3)}, api.ErrArg, ""}, {[]api.Tok{back(3, 1)}, api.ErrArg, ""},
		{[]api.Tok{a, back(2, 1)}, api.ErrArg, ""}, {[]api.Tok{a, back(259, 1)}, api.ErrArg, ""}, {[]api.Tok{a, back(1, 1)}, api.ErrArg, ""}, {[]api.Tok{a, back(-3, 1)}, api.ErrArg, ""},
		{[]api.Tok{a, back(3, 0)}, api.ErrArg, ""}, {[]api.Tok{a, back(3, -1)}, api.ErrArg, ""}, {[]api.Tok{a, back(0, 1)}, api.ErrArg, ""}, {[]api.Tok{a, back(0, -1)}, api.ErrArg, ""},
		{[]api.Tok{a, {Byte: 1, Len: 3, Dist: 1}}, api.ErrArg, ""}, {[]api.Tok{a, back(math.MaxInt, 1)}, api.ErrArg, ""}, {[]api.Tok{a, back(3, math.MaxInt)}, api.ErrArg, ""},
		{slices.Concat(far, []api.Tok{back(3, 2048)}), 0, string(bytes.Repeat([]byte{'a'}, 2052))}, {slices.Concat(far, []api.Tok{back(3, 2049)}), api.ErrArg, ""},
		{slices.Concat(long, []api.Tok{back(225, 1)}), 0, string(bytes.Repeat([]byte{'a'}, 4096))}, {slices.Concat(long, []api.Tok{back(226, 1)}), api.ErrLen, ""},
		{slices.Concat(long, []api.Tok{back(225, 1), a}), api.ErrLen, ""}, {slices.Concat(long, []api.Tok{back(258, 1), back(2, 1)}), api.ErrArg, ""}, {slices.Concat(long, []api.Tok{back(258, 1), back(258, 2048)}), api.ErrLen, ""},
		{slices.Repeat([]api.Tok{a}, 4096), 0, string(bytes.Repeat([]byte{'a'}, 4096))}, {slices.Repeat([]api.Tok{a}, 4097), api.ErrLen, ""},
	} {
		before := slices.Clone(c.l)
		if e := match.Check(c.l); e != c.e {
			t.Error(k, e)
		}
		if b, e := match.Expand(c.l); e != c.e || string(b) != c.want {
			t.Error(k, string(b), e)
		}
		if !slices.Equal(before, c.l) {
			t.Error(k, "the argument was changed")
		}
	}
}

func TestResultsAreNew(t *testing.T) {
	l := []api.Tok{lit('a'), lit('b'), back(6, 2)}
	a, _ := match.Expand(l)
	b, _ := match.Expand(l)
	for i := range a[:cap(a)] {
		a[:cap(a)][i] = 'Z'
	}
	if string(b) != "abababab" {
		t.Error(string(b))
	}
	x, _ := match.Tokens(b)
	y, _ := match.Tokens(b)
	for i := range x {
		x[i] = lit('Z')
	}
	if !slices.Equal(y, l) || string(b) != "abababab" {
		t.Error(y)
	}
}

// TestTokensRepresentTheirBytes is promise P4.2.
func TestTokensRepresentTheirBytes(t *testing.T) {
	for k, b := range texts() {
		l, e := match.Tokens(b)
		if e != api.OK || match.Check(l) != api.OK {
			t.Fatal(k, e)
		}
		if got, e := match.Expand(l); e != api.OK || !bytes.Equal(got, b) {
			t.Fatal(k, e)
		}
	}
}
