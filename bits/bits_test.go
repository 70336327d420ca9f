package bits_test

import (
	"bytes"
	"math"
	"math/rand"
	"testing"

	"wherry/api"
	"wherry/bits"
)

const most = 8 * api.MaxSmall

// unpack gives the bits of s, one an element.
func unpack(s api.Bits) []byte {
	var l []byte
	for i := 0; i < s.N; i++ {
		l = append(l, s.B[i/8]>>(i%8)&1)
	}
	return l
}

// pack is the inverse of unpack.
func pack(l []byte) api.Bits {
	s := api.Bits{B: make([]byte, (len(l)+7)/8), N: len(l)}
	for i, x := range l {
		s.B[i/8] |= x << (i % 8)
	}
	return s
}

func same(a, b api.Bits) bool { return a.N == b.N && bytes.Equal(a.B, b.B) }

func isZero(s api.Bits) bool { return s.N == 0 && len(s.B) == 0 }

// roomy gives b with unused capacity behind it that is filled with 0xEE.
func roomy(b []byte) []byte {
	r := append(append([]byte(nil), b...), bytes.Repeat([]byte{0xEE}, 9)...)
	return r[:len(b)]
}

func roomUntouched(b []byte) bool {
	for _, x := range b[len(b):cap(b)][:9] {
		if x != 0xEE {
			return false
		}
	}
	return true
}

func badStrings() []api.Bits {
	return []api.Bits{
		{N: -1}, {N: math.MinInt}, {N: math.MaxInt}, {N: 1}, {N: 8}, {B: []byte{0}},
		{B: []byte{0, 0}, N: 8}, {B: []byte{0}, N: 9}, {B: []byte{2}, N: 1}, {B: []byte{0x80}, N: 7},
		{B: []byte{0, 8}, N: 11}, {B: []byte{1}, N: -7},
		{B: make([]byte, api.MaxSmall+1), N: most + 1}, {B: make([]byte, api.MaxSmall+1), N: most + 8},
		{B: make([]byte, api.MaxSmall+1), N: most}, {B: make([]byte, api.MaxSmall-1), N: most},
	}
}

func TestCheck(t *testing.T) {
	for k, s := range badStrings() {
		if e := bits.Check(s); e != api.ErrArg {
			t.Errorf("bad string %d: %v", k, e)
		}
	}
	full := bytes.Repeat([]byte{255}, api.MaxSmall)
	for k, s := range []api.Bits{{}, {B: []byte{}, N: 0}, {B: []byte{1}, N: 1}, {B: []byte{0x7f}, N: 7}, {B: []byte{255}, N: 8}, {B: []byte{255, 1}, N: 9}, {B: full, N: most}, {B: append(bytes.Clone(full[1:]), 0x7f), N: most - 1}} {
		if e := bits.Check(s); e != api.OK {
			t.Errorf("good string %d: %v", k, e)
		}
	}
}

func TestPutExample(t *testing.T) {
	s, e := bits.Put(api.Bits{}, 5, 3)
	if e != api.OK || !same(s, api.Bits{B: []byte{5}, N: 3}) {
		t.Fatal(s, e)
	}
	s, e = bits.Put(s, 1, 2)
	if e != api.OK || !same(s, api.Bits{B: []byte{13}, N: 5}) {
		t.Fatal(s, e)
	}
}

func TestPutErrors(t *testing.T) {
	for k, s := range badStrings() {
		for _, n := range []int{0, 3, 25} {
			if r, e := bits.Put(s, 1, n); e != api.ErrArg || !isZero(r) {
				t.Error(k, n, r, e)
			}
		}
	}
	full := pack(make([]byte, most))
	near := pack(make([]byte, most-5))
	for k, c := range []struct {
		s    api.Bits
		v, n int
		e    api.Errno
	}{
		{api.Bits{}, 0, -1, api.ErrArg}, {api.Bits{}, 0, 25, api.ErrArg}, {api.Bits{}, 0, math.MaxInt, api.ErrArg}, {api.Bits{}, 0, math.MinInt, api.ErrArg},
		{api.Bits{}, -1, 5, api.ErrArg}, {api.Bits{}, -1, 0, api.ErrArg}, {api.Bits{}, 1, 0, api.ErrArg}, {api.Bits{}, 2, 1, api.ErrArg}, {api.Bits{}, 8, 3, api.ErrArg},
		{api.Bits{}, 1 << 24, 24, api.ErrArg}, {api.Bits{}, 1 << 32, 24, api.ErrArg}, {api.Bits{}, math.MaxInt, 24, api.ErrArg},
		{full, 2, 1, api.ErrArg}, {full, 0, 25, api.ErrArg}, {full, 0, 1, api.ErrLen}, {full, 0, 24, api.ErrLen}, {full, 0, 0, api.OK},
		{near, 31, 5, api.OK}, {near, 0, 6, api.ErrLen}, {near, 64, 6, api.ErrArg},
		{api.Bits{}, 1<<24 - 1, 24, api.OK}, {api.Bits{}, 0, 24, api.OK}, {api.Bits{}, 1, 1, api.OK},
	} {
		r, e := bits.Put(c.s, c.v, c.n)
		if e != c.e || e != api.OK && !isZero(r) || e == api.OK && r.N != c.s.N+c.n {
			t.Error(k, r.N, e)
		}
	}
}

func TestPutAppendsLowestFirst(t *testing.T) {
	rnd := rand.New(rand.NewSource(1))
	for range 2000 {
		l := make([]byte, rnd.Intn(40))
		for i := range l {
			l[i] = byte(rnd.Intn(2))
		}
		n := rnd.Intn(25)
		v := rnd.Intn(1 << n)
		s := pack(l)
		s.B = roomy(s.B)
		want := append([]byte(nil), l...)
		for i := range n {
			want = append(want, byte(v>>i&1))
		}
		r, e := bits.Put(s, v, n)
		if e != api.OK || !same(r, pack(want)) || bits.Check(r) != api.OK {
			t.Fatal(l, v, n, r, e)
		}
		if !roomUntouched(s.B) || !same(s, pack(l)) {
			t.Fatal("the argument was changed")
		}
		for i := range r.B {
			r.B[i] ^= 255
		}
		if !same(s, pack(l)) {
			t.Fatal("the result shares memory with the argument")
		}
	}
}

func TestGet(t *testing.T) {
	b := []byte{0xb4, 0x01, 0xff, 0x80, 0x5a}
	for k, c := range []struct {
		at, n, v int
		e        api.Errno
	}{
		{0, 0, 0, 0}, {0, 8, 0xb4, 0}, {2, 3, 5, 0}, {4, 6, 27, 0}, {0, 16, 0x1b4, 0}, {0, 24, 0xff01b4, 0}, {15, 24, 0xb501fe, 0}, {16, 24, 0x5a80ff, 0},
		{40, 0, 0, 0}, {39, 1, 0, 0}, {38, 1, 1, 0}, {31, 1, 1, 0}, {7, 24, 0x01fe03, 0},
		{40, 1, 0, api.ErrBytes}, {39, 2, 0, api.ErrBytes}, {17, 24, 0, api.ErrBytes}, {40, 24, 0, api.ErrBytes},
		{41, 0, 0, api.ErrArg}, {41, 1, 0, api.ErrArg}, {-1, 0, 0, api.ErrArg}, {-1, 1, 0, api.ErrArg}, {math.MaxInt, 24, 0, api.ErrArg}, {math.MinInt, 1, 0, api.ErrArg},
		{0, 25, 0, api.ErrArg}, {0, -1, 0, api.ErrArg}, {40, 25, 0, api.ErrArg}, {0, math.MaxInt, 0, api.ErrArg},
	} {
		want := c.at + c.n
		if c.e != api.OK {
			want = 0
		}
		if v, next, e := bits.Get(b, c.at, c.n); v != c.v || next != want || e != c.e {
			t.Error(k, v, next, e)
		}
	}
	if v, next, e := bits.Get(nil, 0, 0); v != 0 || next != 0 || e != api.OK {
		t.Error(v, next, e)
	}
	if _, _, e := bits.Get(nil, 0, 1); e != api.ErrBytes {
		t.Error(e)
	}
	// Memory beyond the length is not read.
	if _, _, e := bits.Get([]byte{1, 2, 3}[:1], 0, 9); e != api.ErrBytes {
		t.Error(e)
	}
}

func TestTurn(t *testing.T) {
	for k, c := range []struct {
		v, n, want int
		e          api.Errno
	}{
		{6, 3, 3, 0}, {1, 24, 1 << 23, 0}, {0, 0, 0, 0}, {0x5a5, 12, 0xa5a, 0}, {1<<24 - 1, 24, 1<<24 - 1, 0}, {1, 1, 1, 0}, {1, 9, 256, 0}, {2, 4, 4, 0},
		{8, 3, 0, api.ErrArg}, {1, 0, 0, api.ErrArg}, {-1, 4, 0, api.ErrArg}, {0, 25, 0, api.ErrArg}, {0, -1, 0, api.ErrArg}, {1 << 24, 24, 0, api.ErrArg}, {1 << 40, 24, 0, api.ErrArg}, {math.MinInt, math.MinInt, 0, api.ErrArg},
	} {
		if v, e := bits.Turn(c.v, c.n); v != c.want || e != c.e {
			t.Error(k, v, e)
		}
	}
}

func TestFill(t *testing.T) {
	for k, s := range badStrings() {
		if r, e := bits.Fill(s); e != api.ErrArg || !isZero(r) {
			t.Error(k, r, e)
		}
	}
	for n := range 40 {
		l := bytes.Repeat([]byte{1}, n)
		s := pack(l)
		r, e := bits.Fill(s)
		for len(l)%8 != 0 {
			l = append(l, 0)
		}
		if e != api.OK || !same(r, pack(l)) {
			t.Fatal(n, r, e)
		}
		for i := range r.B {
			r.B[i] ^= 255
		}
		if !bytes.Equal(unpack(s), bytes.Repeat([]byte{1}, n)) {
			t.Fatal(n, "the result shares memory with the argument")
		}
	}
	if r, e := bits.Fill(pack(make([]byte, most-3))); e != api.OK || r.N != most || len(r.B) != api.MaxSmall {
		t.Error(r.N, e)
	}
}

// TestGetReturnsWhatPutAppended is promise P1.2.
func TestGetReturnsWhatPutAppended(t *testing.T) {
	rnd := rand.New(rand.NewSource(2))
	for range 50 {
		var s api.Bits
		var vs, ns []int
		for range 60 {
			n := rnd.Intn(25)
			v := rnd.Intn(1 << n)
			r, e := bits.Put(s, v, n)
			if e != api.OK {
				t.Fatal(e)
			}
			s, vs, ns = r, append(vs, v), append(ns, n)
		}
		at := 0
		for k, n := range ns {
			v, next, e := bits.Get(s.B, at, n)
			if v != vs[k] || next != at+n || e != api.OK {
				t.Fatal(k, v, next, e)
			}
			at = next
		}
	}
}

// TestTurnTwice is promise P1.2.
func TestTurnTwice(t *testing.T) {
	rnd := rand.New(rand.NewSource(3))
	for n := range 25 {
		for range 50 {
			v := rnd.Intn(1 << n)
			once, e := bits.Turn(v, n)
			for i := range n {
				if once>>(n-1-i)&1 != v>>i&1 {
					t.Fatal(v, n, once)
				}
			}
			twice, e2 := bits.Turn(once, n)
			if twice != v || e != api.OK || e2 != api.OK {
				t.Fatal(v, n, once, twice)
			}
		}
	}
}
