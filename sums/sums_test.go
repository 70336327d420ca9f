package sums_test

import (
	"bytes"
	"hash/crc32"
	"math"
	"math/rand"
	"testing"

	"wherry/api"
	"wherry/sums"
)

// slowSum goes bit by bit, by the words of the chapter.
func slowSum(b []byte, width int, divisor int) int {
	r := make([]int, width)
	for i := range r {
		r[i] = 1
	}
	for _, x := range b {
		for k := range 8 {
			differs := r[0] != int(x>>k&1)
			r = append(r[1:], 0)
			for i := range r {
				if differs {
					r[i] ^= divisor >> i & 1
				}
			}
		}
	}
	v := 0
	for i := range r {
		v |= (1 - r[i]) << i
	}
	return v
}

func TestKnown(t *testing.T) {
	s := []byte("123456789")
	if v := sums.Short(s); v != 0x906e {
		t.Errorf("%x", v)
	}
	if v := sums.Long(s); v != 0xcbf43926 {
		t.Errorf("%x", v)
	}
	if v, e := sums.Carry(s, 8, 0xe0); v != slowSum(s, 8, 0xe0) || e != api.OK {
		t.Errorf("%x", v)
	}
	if sums.Short(nil) != 0 || sums.Long(nil) != 0 {
		t.Error("the sums of nothing")
	}
	if v, e := sums.Carry(nil, 5, 3); v != 0 || e != api.OK {
		t.Error(v, e)
	}
}

func TestLikeTheWords(t *testing.T) {
	rnd := rand.New(rand.NewSource(1))
	for range 400 {
		b := make([]byte, rnd.Intn(70))
		rnd.Read(b)
		before := bytes.Clone(b)
		if v := sums.Short(b); v != slowSum(b, 16, 0x8408) {
			t.Fatal(b, v)
		}
		if v := sums.Long(b); v != int(crc32.ChecksumIEEE(b)) || v != slowSum(b, 32, 0xedb88320) {
			t.Fatal(b, v)
		}
		width := 1 + rnd.Intn(32)
		divisor := rnd.Intn(1 << width)
		if v, e := sums.Carry(b, width, divisor); v != slowSum(b, width, divisor) || e != api.OK {
			t.Fatal(b, width, divisor, v, e)
		}
		if !bytes.Equal(b, before) {
			t.Fatal("the argument was changed")
		}
	}
	for width := 1; width <= 32; width++ {
		for _, divisor := range []int{0, 1, 1 << (width - 1), 1<<width - 1} {
			b := []byte("wherry\x00\xff")
			if v, e := sums.Carry(b, width, divisor); v != slowSum(b, width, divisor) || e != api.OK {
				t.Error(width, divisor, v, e)
			}
		}
	}
}

func TestCarryErrors(t *testing.T) {
	for k, c := range []struct{ width, divisor int }{
		{0, 0}, {-1, 0}, {33, 0}, {33, 5}, {64, 0}, {math.MaxInt, 0}, {math.MinInt, 0}, {1, 2}, {1, -1}, {16, 1 << 16}, {16, 0xedb88320}, {32, 1 << 32}, {32, -1}, {32, math.MaxInt}, {8, math.MinInt}, {8, 256},
	} {
		if v, e := sums.Carry([]byte("a"), c.width, c.divisor); v != 0 || e != api.ErrArg {
			t.Error(k, v, e)
		}
	}
}

// TestBursts is promise P8.2.
func TestBursts(t *testing.T) {
	rnd := rand.New(rand.NewSource(2))
	for range 3000 {
		a := make([]byte, 5+rnd.Intn(60))
		rnd.Read(a)
		for _, c := range []struct {
			width int
			call  func([]byte) int
		}{{16, sums.Short}, {32, sums.Long}} {
			b := bytes.Clone(a)
			at := rnd.Intn(8 * len(b))
			mask := rnd.Intn(1<<c.width) | 1
			for i := 0; i < c.width && at+i < 8*len(b); i++ {
				b[(at+i)/8] ^= byte(mask>>i&1) << ((at + i) % 8)
			}
			if bytes.Equal(a, b) || c.call(a) == c.call(b) {
				t.Fatal(a, at, mask, c.width)
			}
		}
	}
}
