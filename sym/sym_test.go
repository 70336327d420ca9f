package sym_test

import (
	"math"
	"slices"
	"testing"

	"wherry/api"
	"wherry/sym"
)

// The tables of RFC 1951, section 3.2.5.
var (
	lenLeast  = []int{3, 4, 5, 6, 7, 8, 9, 10, 11, 13, 15, 17, 19, 23, 27, 31, 35, 43, 51, 59, 67, 83, 99, 115, 131, 163, 195, 227, 258}
	lenMore   = []int{0, 0, 0, 0, 0, 0, 0, 0, 1, 1, 1, 1, 2, 2, 2, 2, 3, 3, 3, 3, 4, 4, 4, 4, 5, 5, 5, 5, 0}
	distLeast = []int{1, 2, 3, 4, 5, 7, 9, 13, 17, 25, 33, 49, 65, 97, 129, 193, 257, 385, 513, 769, 1025, 1537, 2049, 3073, 4097, 6145, 8193, 12289, 16385, 24577}
	distMore  = []int{0, 0, 0, 0, 1, 1, 2, 2, 3, 3, 4, 4, 5, 5, 6, 6, 7, 7, 8, 8, 9, 9, 10, 10, 11, 11, 12, 12, 13, 13}
)

// last gives the index of the last element that is not greater than n.
func last(l []int, n int) int {
	i := 0
	for k, x := range l {
		if x <= n {
			i = k
		}
	}
	return i
}

func TestLen(t *testing.T) {
	for n := 3; n <= 258; n++ {
		i := last(lenLeast, n)
		s, more, v, e := sym.Len(n)
		if s != 257+i || more != lenMore[i] || v != n-lenLeast[i] || e != api.OK {
			t.Error(n, s, more, v, e)
		}
	}
	if s, more, v, e := sym.Len(11); s != 265 || more != 1 || v != 0 || e != api.OK {
		t.Error(s, more, v, e)
	}
	if s, more, v, e := sym.Len(257); s != 284 || more != 5 || v != 30 || e != api.OK {
		t.Error(s, more, v, e)
	}
	for _, n := range []int{2, 0, -1, 259, 260, math.MaxInt, math.MinInt} {
		if s, more, v, e := sym.Len(n); s != 0 || more != 0 || v != 0 || e != api.ErrArg {
			t.Error(n, s, more, v, e)
		}
	}
}

func TestDist(t *testing.T) {
	for n := 1; n <= 32768; n++ {
		i := last(distLeast, n)
		s, more, v, e := sym.Dist(n)
		if s != i || more != distMore[i] || v != n-distLeast[i] || e != api.OK {
			t.Error(n, s, more, v, e)
		}
	}
	if s, more, v, e := sym.Dist(5); s != 4 || more != 1 || v != 0 || e != api.OK {
		t.Error(s, more, v, e)
	}
	for _, n := range []int{0, -1, 32769, 1 << 17, math.MaxInt, math.MinInt} {
		if s, more, v, e := sym.Dist(n); s != 0 || more != 0 || v != 0 || e != api.ErrArg {
			t.Error(n, s, more, v, e)
		}
	}
}

func TestLenOf(t *testing.T) {
	for i := range lenLeast {
		if least, more, e := sym.LenOf(257 + i); least != lenLeast[i] || more != lenMore[i] || e != api.OK {
			t.Error(257+i, least, more, e)
		}
	}
	for _, s := range []int{256, 0, -1, 286, 287, math.MaxInt, math.MinInt} {
		if least, more, e := sym.LenOf(s); least != 0 || more != 0 || e != api.ErrArg {
			t.Error(s, least, more, e)
		}
	}
}

func TestDistOf(t *testing.T) {
	for i := range distLeast {
		if least, more, e := sym.DistOf(i); least != distLeast[i] || more != distMore[i] || e != api.OK {
			t.Error(i, least, more, e)
		}
	}
	for _, s := range []int{-1, 30, 31, math.MaxInt, math.MinInt} {
		if least, more, e := sym.DistOf(s); least != 0 || more != 0 || e != api.ErrArg {
			t.Error(s, least, more, e)
		}
	}
}

func TestFixed(t *testing.T) {
	lits, dists := sym.Fixed()
	want := slices.Concat(slices.Repeat([]int{8}, 144), slices.Repeat([]int{9}, 112), slices.Repeat([]int{7}, 24), slices.Repeat([]int{8}, 8))
	if !slices.Equal(lits, want) || !slices.Equal(dists, slices.Repeat([]int{5}, 32)) {
		t.Error(lits, dists)
	}
	lits[0], dists[0] = 99, 99
	if again, dists := sym.Fixed(); again[0] != 8 || dists[0] != 5 {
		t.Error("results share memory")
	}
}

func TestWeights(t *testing.T) {
	lits, dists, e := sym.Weights(nil)
	want := make([]int, 286)
	want[256] = 1
	if e != api.OK || !slices.Equal(lits, want) || !slices.Equal(dists, make([]int, 30)) {
		t.Error(lits, dists, e)
	}
	l := []api.Tok{{Byte: 'a'}, {Byte: 'b'}, {Byte: 'a'}, {Byte: 0}, {Byte: 255}, {Len: 3, Dist: 1}, {Len: 258, Dist: 5}, {Len: 257, Dist: 6}, {Len: 11, Dist: 500}, {Len: 12, Dist: 2}}
	lits, dists, e = sym.Weights(l)
	want['a'], want['b'], want[0], want[255] = 2, 1, 1, 1
	want[257], want[285], want[284], want[265] = 1, 1, 1, 2
	wantDists := make([]int, 30)
	wantDists[0], wantDists[1], wantDists[4], wantDists[17] = 1, 1, 2, 1
	if e != api.OK || !slices.Equal(lits, want) || !slices.Equal(dists, wantDists) {
		t.Error(lits, dists, e)
	}
	for k, c := range []struct {
		l []api.Tok
		e api.Errno
	}{
		{[]api.Tok{{Len: 3, Dist: 1}}, api.ErrArg}, {[]api.Tok{{Byte: 1}, {Len: 2, Dist: 1}}, api.ErrArg}, {[]api.Tok{{Byte: 1}, {Len: 259, Dist: 1}}, api.ErrArg}, {make([]api.Tok, 4097), api.ErrLen},
	} {
		if lits, dists, e := sym.Weights(c.l); e != c.e || len(lits) != 0 || len(dists) != 0 {
			t.Error(k, lits, dists, e)
		}
	}
	if lits, _, e := sym.Weights(make([]api.Tok, 4096)); e != api.OK || lits[0] != 4096 {
		t.Error(e)
	}
}

// TestOneSymbolEach is promise P5.2.
func TestOneSymbolEach(t *testing.T) {
	for n := 3; n <= 258; n++ {
		s, more, v, e := sym.Len(n)
		least, bits, e2 := sym.LenOf(s)
		if e != api.OK || e2 != api.OK || least+v != n || bits != more || v < 0 || v >= 1<<more {
			t.Error(n, s, more, v, least, bits)
		}
	}
	for n := 1; n <= 32768; n++ {
		s, more, v, e := sym.Dist(n)
		least, bits, e2 := sym.DistOf(s)
		if e != api.OK || e2 != api.OK || least+v != n || bits != more || v < 0 || v >= 1<<more {
			t.Error(n, s, more, v, least, bits)
		}
	}
}
