package taker_test

import (
	"bytes"
	"fmt"
	"math"
	"math/rand"
	"testing"

	"wherry/api"
	"wherry/sender"
	"wherry/spool"
	"wherry/taker"
)

func show(v any) string { return fmt.Sprintf("%+v", v) }

func data(n int) []byte {
	b := make([]byte, n)
	for i := range b {
		b[i] = byte(i*7 + i/48)
	}
	return b
}

// part gives a spool with n bytes of bundle 9, and with bundles 4 and 6 done.
func part(n int) api.Spool {
	if n < 0 {
		return api.Spool{Of: -1, Done: []int{4, 6}}
	}
	return api.Spool{Of: 9, Part: data(n), Done: []int{4, 6}}
}

func take(number, total int) api.Take { return api.Take{Open: true, Number: number, Total: total} }

func hello(number, offset int) api.Frame {
	return api.Frame{Kind: api.FrameHello, Number: number, Offset: offset}
}

func chunk(offset, seq, n int) api.Frame {
	return api.Frame{Kind: api.FrameChunk, Number: 9, Offset: offset, Seq: seq, Data: data(offset + n)[offset:]}
}

func ready(number, offset int) api.Frame {
	return api.Frame{Kind: api.FrameReady, Number: number, Offset: offset}
}

func ack(seq int) api.Frame { return api.Frame{Kind: api.FrameAck, Number: 9, Seq: seq} }

func done(number int) api.Frame { return api.Frame{Kind: api.FrameDone, Number: number} }

func rec(offset, n int) api.Rec {
	return api.Rec{Kind: api.RecChunk, Number: 9, Offset: offset, Data: data(offset + n)[offset:]}
}

func TestFar(t *testing.T) {
	for k, c := range []struct {
		s            api.Spool
		number, want int
	}{{part(100), 9, 100}, {part(100), 8, 0}, {part(0), 9, 0}, {part(-1), 9, 0}, {part(-1), -1, 0}, {part(100), 0, 0}, {part(100), math.MinInt, 0}} {
		if got := taker.Far(c.s, c.number); got != c.want {
			t.Error(k, got)
		}
	}
}

func TestWhole(t *testing.T) {
	for k, c := range []struct {
		s    api.Spool
		t    api.Take
		want bool
	}{
		{part(100), take(9, 100), true}, {part(100), take(9, 101), false}, {part(100), take(9, 99), false}, {part(100), take(8, 100), false}, {part(100), api.Take{Number: 9, Total: 100}, false}, {part(-1), take(9, 0), false}, {part(-1), api.Take{}, false}, {part(-1), take(-1, 0), true}, {part(0), take(9, 0), true},
	} {
		if got := taker.Whole(c.s, c.t); got != c.want {
			t.Error(k, got)
		}
	}
}

type heard struct {
	s    api.Spool
	t    api.Take
	f    api.Frame
	next api.Take
	recs []api.Rec
	out  []api.Frame
	e    api.Errno
}

func one(f api.Frame) []api.Frame { return []api.Frame{f} }

func bad(s api.Spool, t api.Take, f api.Frame, e api.Errno) heard {
	return heard{s: s, t: t, f: f, e: e}
}

func cases() []heard {
	none, other := api.Take{}, take(3, 77)
	closed := api.Take{Number: 9, Total: 100}
	noNumber := chunk(0, 0, 48)
	noNumber.Number = 0
	late := chunk(0, 0, 48)
	late.Number = 6
	return []heard{
		// Frames that are not for the receiver, and frames that are none.
		bad(part(0), none, api.Frame{}, api.ErrArg), bad(part(0), none, noNumber, api.ErrArg), bad(part(0), none, hello(9, 5001), api.ErrArg), bad(part(0), none, api.Frame{Kind: api.FrameAck, Number: 9, Seq: 8}, api.ErrArg), bad(part(0), none, ready(9, 0), api.ErrPlace), bad(part(0), take(9, 100), ack(1), api.ErrPlace), bad(part(0), none, done(9), api.ErrPlace), bad(part(0), none, done(6), api.ErrPlace), bad(part(0), none, ready(6, 0), api.ErrPlace),
		// Bundles that are done.
		{part(100), none, hello(6, 100), none, nil, one(done(6)), 0}, {part(100), other, hello(4, 0), other, nil, one(done(4)), 0}, {part(100), take(9, 200), late, take(9, 200), nil, one(done(6)), 0},
		// Announcements.
		{part(-1), none, hello(9, 100), take(9, 100), nil, one(ready(9, 0)), 0}, {part(48), none, hello(9, 100), take(9, 100), nil, one(ready(9, 48)), 0}, {part(100), other, hello(9, 100), take(9, 100), nil, one(ready(9, 100)), 0}, {part(48), other, hello(8, 5000), take(8, 5000), nil, one(ready(8, 0)), 0}, {part(48), take(9, 100), hello(9, 48), take(9, 48), nil, one(ready(9, 48)), 0}, {part(-1), none, hello(9, 1), take(9, 1), nil, one(ready(9, 0)), 0},
		bad(part(-1), none, hello(9, 0), api.ErrPlace), bad(part(0), none, hello(9, 0), api.ErrPlace), bad(part(48), none, hello(9, 47), api.ErrPlace), bad(part(48), take(9, 100), hello(9, 1), api.ErrPlace),
		// Pieces that were not announced.
		bad(part(0), none, chunk(0, 0, 48), api.ErrPlace), bad(part(0), closed, chunk(0, 0, 48), api.ErrPlace), bad(part(0), other, chunk(0, 0, 48), api.ErrPlace), bad(part(48), none, chunk(48, 1, 48), api.ErrPlace),
		// Everything is there already.
		{part(100), take(9, 100), chunk(96, 2, 4), take(9, 100), nil, nil, 0}, {part(100), take(9, 100), chunk(0, 5, 1), take(9, 100), nil, nil, 0}, {part(96), take(9, 96), chunk(96, 2, 48), take(9, 96), nil, nil, 0},
		// Another piece than the one that is awaited.
		{part(0), take(9, 100), chunk(48, 1, 48), take(9, 100), nil, one(ack(0)), 0}, {part(48), take(9, 100), chunk(0, 0, 48), take(9, 100), nil, one(ack(1)), 0}, {part(48), take(9, 100), chunk(96, 2, 4), take(9, 100), nil, one(ack(1)), 0}, {part(48), take(9, 100), chunk(47, 7, 1), take(9, 100), nil, one(ack(1)), 0}, {part(50), take(9, 100), chunk(48, 1, 48), take(9, 100), nil, one(ack(2)), 0}, {part(384), take(9, 500), chunk(336, 7, 48), take(9, 500), nil, one(ack(0)), 0}, {part(385), take(9, 500), chunk(336, 7, 48), take(9, 500), nil, one(ack(1)), 0}, {part(49), take(9, 20), chunk(0, 0, 48), take(9, 20), nil, one(ack(2)), 0},
		// The piece that is awaited.
		{part(-1), take(9, 100), chunk(0, 0, 48), take(9, 100), []api.Rec{rec(0, 48)}, one(ack(1)), 0}, {part(48), take(9, 100), chunk(48, 1, 48), take(9, 100), []api.Rec{rec(48, 48)}, one(ack(2)), 0}, {part(96), take(9, 100), chunk(96, 2, 4), take(9, 100), []api.Rec{rec(96, 4)}, one(ack(3)), 0}, {part(336), take(9, 500), chunk(336, 7, 48), take(9, 500), []api.Rec{rec(336, 48)}, one(ack(0)), 0}, {part(384), take(9, 500), chunk(384, 0, 48), take(9, 500), []api.Rec{rec(384, 48)}, one(ack(1)), 0}, {part(48), take(9, 96), chunk(48, 1, 48), take(9, 96), []api.Rec{rec(48, 48)}, one(ack(2)), 0}, {part(50), take(9, 100), chunk(50, 1, 48), take(9, 100), []api.Rec{rec(50, 48)}, one(ack(2)), 0}, {part(-1), take(9, 1), chunk(0, 0, 1), take(9, 1), []api.Rec{rec(0, 1)}, one(ack(1)), 0}, {api.Spool{Of: 8, Part: data(60)}, take(9, 100), chunk(0, 0, 48), take(9, 100), []api.Rec{rec(0, 48)}, one(ack(1)), 0},
		bad(part(48), take(9, 100), chunk(48, 2, 48), api.ErrPlace), bad(part(48), take(9, 100), chunk(48, 0, 48), api.ErrPlace), bad(part(48), take(9, 100), chunk(48, 1, 47), api.ErrPlace), bad(part(96), take(9, 100), chunk(96, 2, 3), api.ErrPlace), bad(part(96), take(9, 100), chunk(96, 2, 5), api.ErrPlace), bad(part(96), take(9, 100), chunk(96, 2, 48), api.ErrPlace), bad(part(0), take(9, 100), chunk(0, 1, 48), api.ErrPlace), bad(part(50), take(9, 100), chunk(50, 2, 48), api.ErrPlace),
		bad(part(48), take(9, 20), chunk(48, 1, 28), api.ErrPlace), bad(part(48), take(9, -1), chunk(48, 1, 48), api.ErrPlace), {part(48), take(9, math.MaxInt), chunk(48, 1, 48), take(9, math.MaxInt), []api.Rec{rec(48, 48)}, one(ack(2)), 0},
	}
}

func TestHear(t *testing.T) {
	for k, c := range cases() {
		before := show(c.s) + show(c.f)
		next, recs, out, e := taker.Hear(c.s, c.t, c.f)
		if next != c.next || show(recs) != show(c.recs) || show(out) != show(c.out) || e != c.e {
			t.Error(k, show(next), show(recs), show(out), e)
		}
		for _, r := range recs {
			for i := range r.Data {
				r.Data[i] ^= 255
			}
		}
		if show(c.s)+show(c.f) != before {
			t.Error(k, "the result shares memory with an argument")
		}
	}
}

// TestResumes is promise P22.3: the transfer begins anew again and again, and the bytes are those that were sent.
func TestResumes(t *testing.T) {
	rnd := rand.New(rand.NewSource(1))
	for range 60 {
		d := data(1 + rnd.Intn(3000))
		s, e := sender.New(9, d)
		state, tk := spool.New(), api.Take{}
		for range 20000 {
			if e != api.OK {
				t.Fatal(e)
			}
			if taker.Whole(state, tk) {
				break
			}
			if rnd.Intn(20) == 0 {
				// Either side forgets what it does not keep.
				tk = api.Take{}
				s, e = sender.New(9, d)
				continue
			}
			var frames []api.Frame
			s, frames, e = sender.Tick(s)
			for _, f := range frames {
				if rnd.Intn(4) == 0 {
					continue
				}
				next, recs, out, e := taker.Hear(state, tk, f)
				if e != api.OK {
					continue
				}
				tk = next
				for _, r := range recs {
					if state, e = spool.Add(state, r); e != api.OK {
						t.Fatal(show(r), e)
					}
				}
				for _, f := range out {
					if next, e := sender.Hear(s, f); e == api.OK && rnd.Intn(4) > 0 {
						s = next
					}
				}
			}
		}
		if !taker.Whole(state, tk) || !bytes.Equal(state.Part, d) || taker.Far(state, 9) != len(d) {
			t.Fatal(len(d), len(state.Part))
		}
	}
}
