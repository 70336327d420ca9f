// Package bits is layer 1, bit strings: see ../shared/doc/01-bits.md.
package bits

import "wherry/api"

// most is the greatest number of bits of a bit string.
const most = 8 * api.MaxSmall

// mostPut is the greatest number of bits that one call handles.
const mostPut = 24

// Check returns ErrArg if s is not a valid bit string.
func Check(s api.Bits) api.Errno {
	if s.N < 0 || s.N > most || len(s.B) != bytesFor(s.N) {
		return api.ErrArg
	}
	if used := s.N % 8; used != 0 && s.B[len(s.B)-1]>>used != 0 {
		return api.ErrArg
	}
	return api.OK
}

// Put returns s followed by the n bits of v, the lowest bit first.
func Put(s api.Bits, v, n int) (api.Bits, api.Errno) {
	if e := Check(s); e != api.OK {
		return api.Bits{}, e
	}
	if !fits(v, n) {
		return api.Bits{}, api.ErrArg
	}
	if s.N+n > most {
		return api.Bits{}, api.ErrLen
	}
	b := make([]byte, bytesFor(s.N+n))
	copy(b, s.B)
	// The first bits may share a byte with the last bits of s.
	rest := uint32(v) << (s.N % 8)
	for i := s.N / 8; i < len(b); i++ {
		b[i] |= byte(rest)
		rest >>= 8
	}
	return api.Bits{B: b, N: s.N + n}, api.OK
}

// Get returns the number whose bits, the lowest one first, are the n bits of b from bit at on, and the position after them.
func Get(b []byte, at, n int) (v, next int, e api.Errno) {
	if n < 0 || n > mostPut || at < 0 || at > 8*len(b) {
		return 0, 0, api.ErrArg
	}
	if at+n > 8*len(b) {
		return 0, 0, api.ErrBytes
	}
	var all uint32
	first := at / 8
	for i := first; i < bytesFor(at+n); i++ {
		all |= uint32(b[i]) << (8 * (i - first))
	}
	mask := uint32(1)<<n - 1
	return int(all >> (at % 8) & mask), at + n, api.OK
}

// Turn returns the n-bit number with the bits of v in reverse order.
func Turn(v, n int) (int, api.Errno) {
	if !fits(v, n) {
		return 0, api.ErrArg
	}
	turned := uint32(0)
	for rest := uint32(v); n > 0; n-- {
		turned = turned<<1 | rest&1
		rest >>= 1
	}
	return int(turned), api.OK
}

// Fill returns s followed by as many 0 bits as make whole bytes of it.
func Fill(s api.Bits) (api.Bits, api.Errno) {
	if e := Check(s); e != api.OK {
		return api.Bits{}, e
	}
	return api.Bits{B: append([]byte(nil), s.B...), N: 8 * len(s.B)}, api.OK
}

// bytesFor returns how many bytes n bits need.
func bytesFor(n int) int { return (n + 7) / 8 }

// fits reports whether v is a number of n bits, and n a number of bits that one call handles.
func fits(v, n int) bool {
	return n >= 0 && n <= mostPut && v >= 0 && v < 1<<n
}
