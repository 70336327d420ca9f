package site

import (
	"wherry/api"
	"wherry/frame"
	"wherry/sender"
	"wherry/taker"
)

// Hear processes the bytes of a frame; it returns the frames to be sent, and the events.
func (s *Site) Hear(b []byte) ([]api.Frame, []api.Event, api.Errno) {
	if s.Down() {
		return nil, nil, api.ErrOff
	}
	f, e := frame.Read(b)
	if e != api.OK {
		return nil, nil, e
	}
	switch f.Kind {
	case api.FrameHello, api.FrameChunk:
		return s.receive(f)
	case api.FrameDone:
		return nil, nil, s.sent(f)
	}
	return nil, nil, s.progress(f)
}

// receive processes a frame of a bundle that comes in.
func (s *Site) receive(f api.Frame) ([]api.Frame, []api.Event, api.Errno) {
	take, recs, out, e := taker.Hear(s.spool, s.take, f)
	if e != api.OK {
		return nil, nil, e
	}
	for _, r := range recs {
		if _, e := s.write(r); e != api.OK {
			return nil, nil, e
		}
	}
	s.take = take
	if !taker.Whole(s.spool, s.take) {
		return out, nil, api.OK
	}
	events, e := s.write(api.Rec{Kind: api.RecDone, Number: take.Number})
	if e != api.OK {
		return out, nil, e
	}
	return append(out, api.Frame{Kind: api.FrameDone, Number: take.Number}), events, api.OK
}

// progress processes a frame that tells how far the other side is.
func (s *Site) progress(f api.Frame) api.Errno {
	if !s.sending {
		return api.ErrPlace
	}
	next, e := sender.Hear(s.send, f)
	if e == api.OK {
		s.send = next
	}
	return e
}

// sent processes the frame that tells that a pack has come over.
func (s *Site) sent(f api.Frame) api.Errno {
	if !s.sending || s.send.Number != f.Number || s.send.Over {
		return api.ErrPlace
	}
	if _, e := s.write(api.Rec{Kind: api.RecSent, Number: f.Number}); e != api.OK {
		return e
	}
	s.send.Over = true
	return api.OK
}
