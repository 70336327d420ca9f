package frame_test

import (
	"bytes"
	"fmt"
	"math"
	"math/big"
	"math/rand"
	"testing"

	"wherry/api"
	"wherry/frame"
	"wherry/sums"
)

func hello(number, offset int) api.Frame {
	return api.Frame{Kind: api.FrameHello, Number: number, Offset: offset}
}

func ready(number, offset int) api.Frame {
	return api.Frame{Kind: api.FrameReady, Number: number, Offset: offset}
}

func chunk(number, offset, seq int, data string) api.Frame {
	return api.Frame{Kind: api.FrameChunk, Number: number, Offset: offset, Seq: seq, Data: []byte(data)}
}

func ack(number, seq int) api.Frame {
	return api.Frame{Kind: api.FrameAck, Number: number, Seq: seq}
}

func done(number int) api.Frame { return api.Frame{Kind: api.FrameDone, Number: number} }

func show(v any) string { return fmt.Sprintf("%+v", v) }

// sealed puts the checksum behind bytes.
func sealed(b ...byte) []byte {
	sum := sums.Short(b)
	return append(bytes.Clone(b), byte(sum%256), byte(sum/256))
}

func goodFrames() []api.Frame {
	full := string(bytes.Repeat([]byte("ab\x00\xff"), 12))
	l := []api.Frame{
		hello(1, 0), hello(65535, 5000), hello(258, 772), ready(1, 0), ready(65535, 5000), ready(256, 255), chunk(1, 0, 0, "x"), chunk(65535, 5000, 7, full), chunk(300, 48, 1, full[:47]), ack(1, 0), ack(65535, 7), ack(9, 3), done(1), done(65535), done(256),
	}
	for n := 1; n <= 48; n++ {
		l = append(l, chunk(n, n*100, n%8, full[:n]))
	}
	return l
}

func badFrames() []api.Frame {
	long := string(make([]byte, 49))
	l := []api.Frame{
		{}, {Number: 1}, {Kind: 6, Number: 1}, {Kind: -1, Number: 1}, {Kind: 257, Number: 1}, hello(1, -1), hello(1, 5001), ready(1, -1), ready(1, 5001), hello(1, 65536), chunk(1, -1, 0, "x"), chunk(1, 5001, 0, "x"), chunk(1, 0, -1, "x"), chunk(1, 0, 8, "x"), chunk(1, 0, 0, ""), chunk(1, 0, 0, long), ack(1, -1), ack(1, 8), ack(1, 256), chunk(1, math.MaxInt, 0, "x"), chunk(1, 0, math.MinInt, "x"),
	}
	for _, number := range []int{0, -1, 65536, 65537, math.MaxInt, math.MinInt} {
		l = append(l, hello(number, 0), ready(number, 0), chunk(number, 0, 0, "x"), ack(number, 0), done(number))
	}
	for _, f := range []api.Frame{hello(1, 9), ready(1, 9), ack(1, 3), done(1)} {
		g := f
		g.Data = []byte{0}
		l = append(l, g)
	}
	for _, f := range []api.Frame{hello(1, 9), ready(1, 9), done(1)} {
		g := f
		g.Seq = 1
		l = append(l, g)
	}
	for _, f := range []api.Frame{ack(1, 3), done(1)} {
		g := f
		g.Offset = 1
		l = append(l, g)
	}
	return l
}

func TestCheckAndBytes(t *testing.T) {
	for k, f := range goodFrames() {
		before := show(f)
		if e := frame.Check(f); e != api.OK {
			t.Error(k, e)
		}
		want := sealed(append([]byte{byte(f.Kind), byte(f.Number / 256), byte(f.Number % 256), byte(f.Offset / 256), byte(f.Offset % 256), byte(f.Seq), byte(len(f.Data))}, f.Data...)...)
		got, e := frame.Bytes(f)
		if e != api.OK || !bytes.Equal(got, want) || len(got) != 9+len(f.Data) {
			t.Error(k, got, e)
		}
		for i := range got {
			got[i] ^= 255
		}
		if show(f) != before {
			t.Error(k, "the result shares memory with the argument")
		}
	}
	for k, f := range badFrames() {
		if e := frame.Check(f); e != api.ErrArg {
			t.Error(k, show(f), e)
		}
		if b, e := frame.Bytes(f); e != api.ErrArg || len(b) != 0 {
			t.Error(k, show(f), b, e)
		}
	}
}

func TestBytesKnown(t *testing.T) {
	if got, e := frame.Bytes(chunk(0x0102, 0x1003, 5, "hi")); e != api.OK || !bytes.Equal(got[:9], []byte{3, 1, 2, 0x10, 3, 5, 2, 'h', 'i'}) || len(got) != 11 {
		t.Error(got, e)
	}
	// The checksum's least significant byte comes first.
	got, _ := frame.Bytes(done(7))
	if sum := sums.Short(got[:7]); int(got[7]) != sum&255 || int(got[8]) != sum>>8 {
		t.Error(got, sum)
	}
}

func TestReadErrors(t *testing.T) {
	swapped := sealed(5, 0, 7, 0, 0, 0, 0)
	swapped[7], swapped[8] = swapped[8], swapped[7]
	seven := []byte{3, 0, 1, 0, 0, 0}
	for k, c := range []struct {
		b []byte
		e api.Errno
	}{
		{sealed(5, 0, 7, 0, 0, 0, 0), 0}, {swapped, api.ErrSum}, {nil, api.ErrBytes}, {sealed(5, 0, 7, 0, 0, 0), api.ErrBytes}, {make([]byte, 8), api.ErrBytes}, {make([]byte, 58), api.ErrBytes}, {make([]byte, 9), api.ErrSum}, {make([]byte, 57), api.ErrSum}, {make([]byte, 9000), api.ErrBytes},
		{sealed(append(append(seven, 48), make([]byte, 48)...)...), 0}, {sealed(append(append(seven, 49), make([]byte, 49)...)...), api.ErrBytes}, {sealed(append(append(seven, 47), make([]byte, 48)...)...), api.ErrBytes}, {sealed(append(append(seven, 3), make([]byte, 2)...)...), api.ErrBytes}, {sealed(append(append(seven, 0), make([]byte, 2)...)...), api.ErrBytes},
		{sealed(3, 0, 1, 0, 0, 0, 0), api.ErrBytes}, {sealed(0, 0, 1, 0, 0, 0, 0), api.ErrBytes}, {sealed(6, 0, 1, 0, 0, 0, 0), api.ErrBytes}, {sealed(255, 0, 1, 0, 0, 0, 0), api.ErrBytes}, {sealed(5, 0, 0, 0, 0, 0, 0), api.ErrBytes}, {sealed(5, 0, 1, 0, 1, 0, 0), api.ErrBytes}, {sealed(5, 0, 1, 1, 0, 0, 0), api.ErrBytes}, {sealed(5, 0, 1, 0, 0, 1, 0), api.ErrBytes}, {sealed(5, 0, 1, 0, 0, 0, 1), api.ErrBytes}, {sealed(5, 0, 1, 0, 0, 0, 1, 9), api.ErrBytes},
		{sealed(4, 0, 1, 0, 0, 7, 0), 0}, {sealed(4, 0, 1, 0, 0, 8, 0), api.ErrBytes}, {sealed(4, 0, 1, 0, 0, 255, 0), api.ErrBytes}, {sealed(1, 0, 1, 0x13, 0x88, 0, 0), 0}, {sealed(1, 0, 1, 0x13, 0x89, 0, 0), api.ErrBytes}, {sealed(2, 0, 1, 0x13, 0x89, 0, 0), api.ErrBytes}, {sealed(3, 0, 1, 0x13, 0x89, 0, 1, 9), api.ErrBytes},
	} {
		f, e := frame.Read(c.b)
		if e != c.e || e != api.OK && show(f) != show(api.Frame{}) {
			t.Error(k, show(f), e)
		}
	}
	b := sealed(5, 0, 7, 0, 0, 0, 0)
	if _, e := frame.Read(b[:8]); e != api.ErrBytes {
		t.Error("memory beyond the length was read")
	}
}

// slowSpoil takes its remainders from unbounded integers.
func slowSpoil(b []byte, at, bits int) []byte {
	s := bytes.Clone(b)
	if len(s) == 0 {
		return s
	}
	m := new(big.Int).Mod(big.NewInt(int64(bits)), big.NewInt(65536)).Int64() | 1
	p := int(new(big.Int).Mod(big.NewInt(int64(at)), big.NewInt(int64(8*len(s)))).Int64())
	for i := 0; i <= 15; i++ {
		if m&(1<<i) != 0 && p+i < 8*len(s) {
			s[(p+i)/8] ^= byte(1 << ((p + i) % 8))
		}
	}
	return s
}

func TestSpoil(t *testing.T) {
	rnd := rand.New(rand.NewSource(1))
	far := []int{0, 1, -1, 2, -2, 65535, 65536, 65537, -65535, -65536, -65537, math.MaxInt, math.MinInt, math.MaxInt - 1, math.MinInt + 1, 71, 72, 73, -71, -72, -73}
	for range 3000 {
		b := make([]byte, rnd.Intn(60))
		rnd.Read(b)
		before := bytes.Clone(b)
		at, bits := rnd.Intn(1000)-500, rnd.Intn(1<<18)-1<<17
		if rnd.Intn(3) == 0 {
			at = far[rnd.Intn(len(far))]
		}
		if rnd.Intn(3) == 0 {
			bits = far[rnd.Intn(len(far))]
		}
		got := frame.Spoil(b, at, bits)
		if !bytes.Equal(got, slowSpoil(b, at, bits)) {
			t.Fatal(b, at, bits, got)
		}
		for i := range got {
			got[i] ^= 255
		}
		if !bytes.Equal(b, before) {
			t.Fatal("the argument was changed")
		}
	}
	for k, c := range []struct {
		at, bits int
		want     []byte
	}{
		{0, 0, []byte{1, 0, 0}}, {0, 1, []byte{1, 0, 0}}, {0, 2, []byte{3, 0, 0}}, {0, 65535, []byte{255, 255, 0}}, {0, 65536, []byte{1, 0, 0}}, {3, 5, []byte{0x28, 0, 0}}, {23, 65535, []byte{0, 0, 0x80}}, {24, 1, []byte{1, 0, 0}}, {-1, 3, []byte{0, 0, 0x80}}, {-24, -1, []byte{255, 255, 0}}, {7, 3, []byte{0x80, 1, 0}},
	} {
		if got := frame.Spoil(make([]byte, 3), c.at, c.bits); !bytes.Equal(got, c.want) {
			t.Error(k, got)
		}
	}
	if got := frame.Spoil(nil, 5, 5); len(got) != 0 {
		t.Error(got)
	}
}

// TestInverse is promise P20.2.
func TestInverse(t *testing.T) {
	for k, f := range goodFrames() {
		b, e := frame.Bytes(f)
		before := bytes.Clone(b)
		got, e2 := frame.Read(b)
		if e != api.OK || e2 != api.OK || show(got) != show(f) {
			t.Error(k, show(got), e, e2)
		}
		for i := range got.Data {
			got.Data[i] ^= 255
		}
		if !bytes.Equal(b, before) {
			t.Error("the result shares memory with the argument")
		}
	}
}

// TestSpoiltIsNoFrame is promise P20.2.
func TestSpoiltIsNoFrame(t *testing.T) {
	rnd := rand.New(rand.NewSource(2))
	for _, f := range goodFrames() {
		b, _ := frame.Bytes(f)
		for at := range 8 * len(b) {
			for range 20 {
				if got, e := frame.Read(frame.Spoil(b, at, rnd.Int())); e != api.ErrSum {
					t.Fatal(show(f), at, show(got), e)
				}
			}
		}
	}
}
