package canon_test

import (
	"math"
	"math/rand"
	"slices"
	"testing"

	"wherry/api"
	"wherry/canon"
)

// splits gives the lengths of a full code of n symbols: leaves of a tree, split at random.
func splits(rnd *rand.Rand, n int) []int {
	l := []int{0}
	for len(l) < n {
		i := rnd.Intn(len(l))
		if l[i] == 15 {
			continue
		}
		l[i]++
		l = append(l, l[i])
	}
	return l
}

// scatter puts symbols without a code between the others.
func scatter(rnd *rand.Rand, l []int, n int) []int {
	for len(l) < n {
		l = slices.Insert(l, rnd.Intn(len(l)+1), 0)
	}
	return l
}

// slowCodes assigns the codes in the order of (length, symbol), by the words of the chapter.
func slowCodes(lengths []int) []int {
	codes := make([]int, len(lengths))
	code := 0
	for n := 1; n <= 15; n++ {
		code *= 2
		for s, m := range lengths {
			if m == n {
				codes[s] = code
				code++
			}
		}
	}
	return codes
}

// put writes the n bits of code into b from bit at on, the highest one first.
func put(b []byte, at, code, n int) int {
	for i := n - 1; i >= 0; i-- {
		b[at/8] |= byte(code>>i&1) << (at % 8)
		at++
	}
	return at
}

type verdict struct {
	l []int
	e api.Errno
	w int
}

func verdicts() []verdict {
	full := slices.Repeat([]int{8}, 256)
	deep := []int{1, 2, 3, 4, 5, 6, 7, 8, 9, 10, 11, 12, 13, 14, 15, 15}
	return []verdict{
		{nil, 0, 0}, {[]int{0}, 0, 0}, {[]int{0, 0, 0}, 0, 0}, {make([]int, 300), 0, 0},
		{make([]int, 301), api.ErrArg, 0}, {[]int{1}, 0, 1 << 14}, {[]int{0, 1, 0}, 0, 1 << 14}, {[]int{1, 1}, 0, 1 << 15}, {[]int{2, 1, 3, 3}, 0, 1 << 15},
		{full, 0, 1 << 15}, {append(slices.Clone(full), make([]int, 44)...), 0, 1 << 15}, {append(slices.Clone(full), make([]int, 45)...), api.ErrArg, 0},
		{deep, 0, 1 << 15}, {deep[:15], api.ErrCode, 1<<15 - 1}, {append([]int{15}, deep...), api.ErrCode, 1<<15 + 1},
		{[]int{2}, api.ErrCode, 1 << 13}, {[]int{0, 15}, api.ErrCode, 1}, {[]int{1, 2}, api.ErrCode, 3 << 13}, {[]int{1, 1, 1}, api.ErrCode, 3 << 14}, {[]int{2, 2}, api.ErrCode, 1 << 14},
		{[]int{16}, api.ErrArg, 0}, {[]int{-1}, api.ErrArg, 0}, {[]int{1, 1, 16}, api.ErrArg, 0}, {[]int{1, -1, 1}, api.ErrArg, 0}, {[]int{math.MaxInt}, api.ErrArg, 0}, {[]int{math.MinInt, 1, 1}, api.ErrArg, 0},
	}
}

func TestCheckAndWeigh(t *testing.T) {
	for k, c := range verdicts() {
		before := slices.Clone(c.l)
		if e := canon.Check(c.l); e != c.e {
			t.Error(k, e)
		}
		if w := canon.Weigh(c.l); w != c.w {
			t.Error(k, w)
		}
		codes, e := canon.Codes(c.l)
		if e != c.e || e != api.OK && len(codes) != 0 || e == api.OK && len(codes) != len(c.l) {
			t.Error(k, codes, e)
		}
		sym, next, e := canon.Read(c.l, []byte{0, 0}, -1)
		want := c.e
		if want == api.OK {
			want = api.ErrArg
		}
		if sym != 0 || next != 0 || e != want {
			t.Error(k, sym, next, e)
		}
		if !slices.Equal(before, c.l) {
			t.Error(k, "the argument was changed")
		}
	}
}

func TestCodes(t *testing.T) {
	for k, c := range []struct{ l, want []int }{
		{[]int{2, 1, 3, 3}, []int{2, 0, 6, 7}},
		{[]int{3, 3, 3, 3, 3, 2, 4, 4}, []int{2, 3, 4, 5, 6, 0, 14, 15}},
		{[]int{0, 1, 0}, []int{0, 0, 0}},
		{[]int{1, 0, 1}, []int{0, 0, 1}},
		{[]int{0, 0}, []int{0, 0}},
		{[]int{4, 4, 0, 3, 2, 1}, []int{14, 15, 0, 6, 2, 0}},
		{[]int{3, 3, 3, 3, 3, 3, 3, 3}, []int{0, 1, 2, 3, 4, 5, 6, 7}},
	} {
		if got, e := canon.Codes(c.l); e != api.OK || !slices.Equal(got, c.want) {
			t.Error(k, got, e)
		}
	}
	rnd := rand.New(rand.NewSource(1))
	for range 300 {
		n := 2 + rnd.Intn(280)
		l := scatter(rnd, splits(rnd, n), n+rnd.Intn(20))
		got, e := canon.Codes(l)
		if e != api.OK || !slices.Equal(got, slowCodes(l)) {
			t.Fatal(l, got, e)
		}
	}
}

func TestRead(t *testing.T) {
	code := []int{2, 1, 3, 3}
	for k, c := range []struct {
		l         []int
		b         []byte
		at        int
		sym, next int
		e         api.Errno
	}{
		{code, []byte{0}, 0, 1, 1, 0}, {code, []byte{0}, 7, 1, 8, 0}, {code, []byte{1}, 0, 0, 2, 0}, {code, []byte{3}, 0, 2, 3, 0}, {code, []byte{7}, 0, 3, 3, 0},
		{code, []byte{0x80}, 7, 0, 0, api.ErrBytes}, {code, []byte{0x80, 0}, 7, 0, 9, 0}, {code, []byte{0xc0}, 6, 0, 0, api.ErrBytes}, {code, []byte{0xc0, 1}, 6, 3, 9, 0}, {code, []byte{0xc0, 2}, 6, 2, 9, 0},
		{code, []byte{0}, 8, 0, 0, api.ErrBytes}, {code, []byte{0}, 9, 0, 0, api.ErrArg}, {code, []byte{0}, -1, 0, 0, api.ErrArg}, {code, nil, 0, 0, 0, api.ErrBytes}, {code, nil, 1, 0, 0, api.ErrArg},
		{code, []byte{0}, math.MaxInt, 0, 0, api.ErrArg}, {code, []byte{0}, math.MinInt, 0, 0, api.ErrArg},
		{[]int{0, 1}, []byte{2}, 0, 1, 1, 0}, {[]int{0, 1}, []byte{2}, 1, 0, 0, api.ErrBytes}, {[]int{0, 1}, []byte{255, 255, 255}, 0, 0, 0, api.ErrBytes},
		{[]int{0, 0}, []byte{0, 0, 0}, 0, 0, 0, api.ErrBytes}, {nil, []byte{0, 0, 0}, 3, 0, 0, api.ErrBytes}, {nil, nil, 0, 0, 0, api.ErrBytes}, {nil, nil, 1, 0, 0, api.ErrArg},
		{[]int{2, 2}, []byte{0}, 9, 0, 0, api.ErrCode}, {[]int{16}, []byte{0}, 9, 0, 0, api.ErrArg},
		{code, []byte{0xc0, 1}[:1], 6, 0, 0, api.ErrBytes},
	} {
		if sym, next, e := canon.Read(c.l, c.b, c.at); sym != c.sym || next != c.next || e != c.e {
			t.Error(k, sym, next, e)
		}
	}
	rnd := rand.New(rand.NewSource(2))
	for range 100 {
		n := 2 + rnd.Intn(290)
		l := scatter(rnd, splits(rnd, n), min(300, n+rnd.Intn(20)))
		codes := slowCodes(l)
		b := make([]byte, 900)
		start := rnd.Intn(9)
		at := start
		var syms []int
		for range 300 {
			s := rnd.Intn(len(l))
			if l[s] > 0 {
				syms = append(syms, s)
				at = put(b, at, codes[s], l[s])
			}
		}
		at = start
		for k, s := range syms {
			sym, next, e := canon.Read(l, b, at)
			if sym != s || next != at+l[s] || e != api.OK {
				t.Fatal(l, k, sym, next, e)
			}
			at = next
		}
	}
}

// TestNoPrefix is promise P2.2.
func TestNoPrefix(t *testing.T) {
	rnd := rand.New(rand.NewSource(3))
	for range 60 {
		l := splits(rnd, 2+rnd.Intn(80))
		codes, e := canon.Codes(l)
		if e != api.OK {
			t.Fatal(e)
		}
		for i := range l {
			if codes[i]>>l[i] != 0 {
				t.Fatal("a code has more bits than its length")
			}
			for j := range l {
				if i != j && l[i] <= l[j] && codes[j]>>(l[j]-l[i]) == codes[i] {
					t.Fatal(l, codes, i, j)
				}
			}
		}
	}
}

func TestCodesAreNew(t *testing.T) {
	l := []int{2, 1, 3, 3, 9, 9}[:4]
	a, _ := canon.Codes(l)
	b, _ := canon.Codes(l)
	for i := range a {
		a[i] = -5
	}
	if !slices.Equal(b, []int{2, 0, 6, 7}) || !slices.Equal(l[:6], []int{2, 1, 3, 3, 9, 9}) {
		t.Error(b, l[:6])
	}
}
