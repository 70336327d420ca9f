package sender_test

import (
	"bytes"
	"fmt"
	"math"
	"math/rand"
	"testing"

	"wherry/api"
	"wherry/sender"
)

func show(v any) string { return fmt.Sprintf("%+v", v) }

func data(n int) []byte {
	b := make([]byte, n)
	for i := range b {
		b[i] = byte(i*7 + i/48)
	}
	return b
}

func send(n int, ready bool, base, next, wait int, over bool) api.Send {
	return api.Send{Number: 9, Data: data(n), Ready: ready, Base: base, Next: next, Wait: wait, Over: over}
}

func hello(n int) api.Frame { return api.Frame{Kind: api.FrameHello, Number: 9, Offset: n} }

func ready(offset int) api.Frame { return api.Frame{Kind: api.FrameReady, Number: 9, Offset: offset} }

func ack(seq int) api.Frame { return api.Frame{Kind: api.FrameAck, Number: 9, Seq: seq} }

func done() api.Frame { return api.Frame{Kind: api.FrameDone, Number: 9} }

func pieceOf(d []byte, i int) api.Frame {
	return api.Frame{Kind: api.FrameChunk, Number: 9, Offset: i * 48, Seq: i % 8, Data: d[i*48 : min(len(d), i*48+48)]}
}

func piecesOf(n, from, to int) []api.Frame {
	var l []api.Frame
	for i := from; i < to; i++ {
		l = append(l, pieceOf(data(n), i))
	}
	return l
}

func TestNew(t *testing.T) {
	for k, c := range []struct {
		number, n int
		e         api.Errno
	}{
		{1, 1, 0}, {65535, 5000, 0}, {0, 1, api.ErrArg}, {-1, 1, api.ErrArg}, {65536, 1, api.ErrArg}, {math.MaxInt, 1, api.ErrArg}, {1, 0, api.ErrArg}, {1, 5001, api.ErrArg},
	} {
		d := data(c.n)
		want := api.Send{}
		if c.e == api.OK {
			want = api.Send{Number: c.number, Data: data(c.n)}
		}
		s, e := sender.New(c.number, d)
		for i := range d {
			d[i] ^= 255
		}
		if e != c.e || show(s) != show(want) {
			t.Error(k, show(s), e)
		}
	}
}

func badSends() []api.Send {
	number := func(n int) api.Send {
		s := send(100, true, 0, 0, 0, false)
		s.Number = n
		return s
	}
	return []api.Send{
		{}, number(0), number(-1), number(65536), number(math.MaxInt), send(0, false, 0, 0, 0, false), send(5001, false, 0, 0, 0, false), send(0, false, 0, 0, 0, true),
		send(100, true, -1, 0, 0, false), send(100, true, 4, 4, 0, false), send(100, true, 4, 3, 0, false), send(100, true, math.MaxInt, math.MaxInt, 0, false), send(100, true, math.MaxInt-7, math.MaxInt, 0, false), send(100, true, math.MinInt, 0, 0, false), send(100, true, 1, 0, 0, false), send(100, true, 0, 4, 0, false), send(100, true, 0, -1, 0, false), send(1000, true, 0, 8, 0, false), send(1000, true, 2, 10, 0, false), send(100, true, 0, math.MaxInt, 0, false),
		send(100, true, 0, 0, -1, false), send(100, true, 0, 0, 4, false), send(100, false, 0, 0, 4, false), send(100, true, 0, 0, math.MaxInt, true), send(100, false, 1, 1, 0, false), send(100, false, 0, 1, 0, false), send(100, false, 1, 1, 0, true),
	}
}

func goodSends() []api.Send {
	return []api.Send{
		send(1, false, 0, 0, 0, false), send(5000, false, 0, 0, 3, false), send(100, false, 0, 0, 2, true), send(100, true, 0, 0, 0, false), send(100, true, 0, 3, 1, false), send(100, true, 3, 3, 3, false), send(100, true, 2, 3, 0, true), send(1000, true, 0, 7, 0, false), send(1000, true, 2, 9, 0, false), send(5000, true, 98, 105, 0, false), send(5000, true, 105, 105, 0, false), send(48, true, 1, 1, 0, false), send(49, true, 2, 2, 0, false), send(100, true, 3, 3, 0, true), send(1000, true, 5, 8, 0, false), send(1000, true, 5, 8, 2, true),
	}
}

func TestCheckAndPieces(t *testing.T) {
	for k, s := range badSends() {
		if e := sender.Check(s); e != api.ErrArg {
			t.Error(k, e)
		}
		if n := sender.Pieces(s); n != 0 {
			t.Error(k, n)
		}
		if got, out, e := sender.Tick(s); e != api.ErrArg || len(out) != 0 || show(got) != show(api.Send{}) {
			t.Error(k, show(got), out, e)
		}
		if got, e := sender.Hear(s, api.Frame{}); e != api.ErrArg || show(got) != show(api.Send{}) {
			t.Error(k, show(got), e)
		}
	}
	for k, s := range goodSends() {
		if e := sender.Check(s); e != api.OK {
			t.Error(k, e)
		}
		want := len(s.Data) / 48
		if len(s.Data)%48 != 0 {
			want++
		}
		if n := sender.Pieces(s); n != want {
			t.Error(k, n)
		}
	}
	for n, want := range map[int]int{1: 1, 47: 1, 48: 1, 49: 2, 96: 2, 97: 3, 5000: 105} {
		if got := sender.Pieces(send(n, false, 0, 0, 0, false)); got != want {
			t.Error(n, got)
		}
	}
}

func TestTick(t *testing.T) {
	for k, c := range []struct {
		s, want api.Send
		out     []api.Frame
	}{
		{send(100, false, 0, 0, 0, false), send(100, false, 0, 0, 3, false), []api.Frame{hello(100)}}, {send(100, false, 0, 0, 3, false), send(100, false, 0, 0, 2, false), nil}, {send(100, false, 0, 0, 1, false), send(100, false, 0, 0, 0, false), nil},
		{send(100, false, 0, 0, 0, true), send(100, false, 0, 0, 0, true), nil}, {send(100, true, 0, 0, 2, true), send(100, true, 0, 0, 2, true), nil}, {send(100, true, 3, 3, 0, true), send(100, true, 3, 3, 0, true), nil},
		{send(100, true, 3, 3, 0, false), send(100, true, 3, 3, 3, false), []api.Frame{hello(100)}}, {send(100, true, 3, 3, 2, false), send(100, true, 3, 3, 1, false), nil},
		{send(100, true, 0, 0, 0, false), send(100, true, 0, 3, 3, false), piecesOf(100, 0, 3)}, {send(100, true, 0, 0, 2, false), send(100, true, 0, 3, 3, false), piecesOf(100, 0, 3)}, {send(1000, true, 0, 0, 0, false), send(1000, true, 0, 7, 3, false), piecesOf(1000, 0, 7)}, {send(1000, true, 2, 7, 1, false), send(1000, true, 2, 9, 3, false), piecesOf(1000, 7, 9)}, {send(1000, true, 16, 20, 0, false), send(1000, true, 16, 21, 3, false), piecesOf(1000, 20, 21)},
		{send(1000, true, 2, 9, 2, false), send(1000, true, 2, 9, 1, false), nil}, {send(1000, true, 2, 9, 0, false), send(1000, false, 0, 0, 3, false), []api.Frame{hello(1000)}}, {send(1000, true, 20, 21, 0, false), send(1000, false, 0, 0, 3, false), []api.Frame{hello(1000)}}, {send(1000, true, 20, 21, 1, false), send(1000, true, 20, 21, 0, false), nil},
	} {
		before := show(c.s)
		got, out, e := sender.Tick(c.s)
		if e != api.OK || show(got) != show(c.want) || show(out) != show(c.out) {
			t.Error(k, show(got), show(out), e)
		}
		for _, f := range out {
			for i := range f.Data[:cap(f.Data)] {
				f.Data[:cap(f.Data)][i] ^= 255
			}
		}
		if show(c.s) != before || show(got) != show(c.want) {
			t.Error(k, "the frames share memory")
		}
		for i := range got.Data {
			got.Data[i] ^= 255
		}
		if show(c.s) != before {
			t.Error(k, "the result shares memory with the argument")
		}
	}
}

func TestHear(t *testing.T) {
	other := func(f api.Frame) api.Frame {
		f.Number = 8
		return f
	}
	chunk := pieceOf(data(100), 0)
	for k, c := range []struct {
		s    api.Send
		f    api.Frame
		want api.Send
		e    api.Errno
	}{
		{send(100, false, 0, 0, 3, false), ready(0), send(100, true, 0, 0, 0, false), 0}, {send(100, false, 0, 0, 3, false), ready(48), send(100, true, 1, 1, 0, false), 0}, {send(100, false, 0, 0, 3, false), ready(96), send(100, true, 2, 2, 0, false), 0}, {send(100, false, 0, 0, 3, false), ready(100), send(100, true, 3, 3, 0, false), 0}, {send(96, false, 0, 0, 3, false), ready(96), send(96, true, 2, 2, 0, false), 0},
		{send(1000, true, 5, 9, 2, false), ready(48), send(1000, true, 1, 1, 0, false), 0}, {send(1000, true, 5, 9, 2, false), ready(960), send(1000, true, 20, 20, 0, false), 0}, {send(40, false, 0, 0, 3, false), ready(40), send(40, true, 1, 1, 0, false), 0},
		{send(100, false, 0, 0, 3, false), ready(1), api.Send{}, api.ErrPlace}, {send(100, false, 0, 0, 3, false), ready(99), api.Send{}, api.ErrPlace}, {send(100, false, 0, 0, 3, false), ready(101), api.Send{}, api.ErrPlace}, {send(100, false, 0, 0, 3, false), ready(144), api.Send{}, api.ErrPlace}, {send(100, false, 0, 0, 3, false), ready(4800), api.Send{}, api.ErrPlace}, {send(96, false, 0, 0, 3, false), ready(144), api.Send{}, api.ErrPlace},
		{send(1000, true, 5, 9, 1, false), ack(6), send(1000, true, 6, 9, 3, false), 0}, {send(1000, true, 5, 9, 1, false), ack(7), send(1000, true, 7, 9, 3, false), 0}, {send(1000, true, 5, 9, 1, false), ack(0), send(1000, true, 8, 9, 3, false), 0}, {send(1000, true, 5, 9, 1, false), ack(1), send(1000, true, 9, 9, 3, false), 0}, {send(1000, true, 5, 12, 1, false), ack(4), send(1000, true, 12, 12, 3, false), 0},
		{send(1000, true, 5, 9, 1, false), ack(5), api.Send{}, api.ErrPlace}, {send(1000, true, 5, 9, 1, false), ack(2), api.Send{}, api.ErrPlace}, {send(1000, true, 5, 12, 1, false), ack(5), api.Send{}, api.ErrPlace}, {send(1000, true, 5, 5, 1, false), ack(6), api.Send{}, api.ErrPlace}, {send(1000, false, 0, 0, 1, false), ack(1), api.Send{}, api.ErrPlace}, {send(1000, false, 0, 0, 1, false), ack(0), api.Send{}, api.ErrPlace}, {send(100, true, 3, 3, 1, false), ack(3), api.Send{}, api.ErrPlace},
		{send(100, false, 0, 0, 3, false), done(), send(100, false, 0, 0, 3, true), 0}, {send(1000, true, 5, 9, 2, false), done(), send(1000, true, 5, 9, 2, true), 0},
		{send(100, false, 0, 0, 3, true), done(), api.Send{}, api.ErrPlace}, {send(100, false, 0, 0, 3, true), ready(0), api.Send{}, api.ErrPlace}, {send(1000, true, 5, 9, 2, true), ack(6), api.Send{}, api.ErrPlace},
		{send(100, false, 0, 0, 3, false), other(ready(0)), api.Send{}, api.ErrPlace}, {send(1000, true, 5, 9, 2, false), other(ack(6)), api.Send{}, api.ErrPlace}, {send(100, false, 0, 0, 3, false), other(done()), api.Send{}, api.ErrPlace},
		{send(100, false, 0, 0, 3, false), hello(100), api.Send{}, api.ErrPlace}, {send(100, true, 0, 3, 3, false), chunk, api.Send{}, api.ErrPlace},
		{send(100, false, 0, 0, 3, false), api.Frame{}, api.Send{}, api.ErrArg}, {send(100, false, 0, 0, 3, true), ready(-48), api.Send{}, api.ErrArg}, {send(1000, true, 5, 9, 1, false), ack(8), api.Send{}, api.ErrArg}, {send(100, false, 0, 0, 3, false), api.Frame{Kind: 6, Number: 9}, api.Send{}, api.ErrArg}, {send(100, false, 0, 0, 3, false), api.Frame{Kind: api.FrameDone}, api.Send{}, api.ErrArg}, {send(100, false, 0, 0, 3, false), ready(5001), api.Send{}, api.ErrArg},
	} {
		before := show(c.s)
		got, e := sender.Hear(c.s, c.f)
		if e != c.e || show(got) != show(c.want) {
			t.Error(k, show(got), e)
		}
		for i := range got.Data {
			got.Data[i] ^= 255
		}
		if show(c.s) != before {
			t.Error(k, "the result shares memory with the argument")
		}
	}
}

// TestExample is the example of the chapter.
func TestExample(t *testing.T) {
	s, _ := sender.New(9, data(60))
	if _, out, e := sender.Tick(s); e != api.OK || show(out) != show([]api.Frame{hello(60)}) {
		t.Error(out, e)
	}
}

// TestTransfer is promise P21.3: a receiver that knows no more than sequence numbers takes every piece.
func TestTransfer(t *testing.T) {
	rnd := rand.New(rand.NewSource(1))
	for range 100 {
		d := data(1 + rnd.Intn(3000))
		s, e := sender.New(9, d)
		var got []byte
		var back []api.Frame
		for range 20000 {
			if s.Over || e != api.OK {
				break
			}
			var out []api.Frame
			if s, out, e = sender.Tick(s); e != api.OK {
				t.Fatal(e)
			}
			if s.Next-s.Base > api.MaxWindow || sender.Check(s) != api.OK {
				t.Fatal(show(s))
			}
			for _, f := range out {
				if rnd.Intn(5) == 0 {
					continue
				}
				expected := len(got) / 48
				switch {
				case f.Kind == api.FrameHello && len(got) == len(d):
					back = append(back, done())
				case f.Kind == api.FrameHello:
					back = append(back, ready(len(got)))
				case len(got) < len(d):
					if f.Seq == expected%8 {
						got = append(got, f.Data...)
					}
					back = append(back, ack((len(got)+47)/48%8))
				}
			}
			for len(back) > 0 && rnd.Intn(4) > 0 {
				if next, e := sender.Hear(s, back[0]); e == api.OK {
					s = next
				}
				back = back[1:]
			}
		}
		if !s.Over || !bytes.Equal(got, d) {
			t.Fatal(len(d), len(got), show(s))
		}
	}
}
