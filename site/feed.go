package site

import (
	"wherry/answer"
	"wherry/api"
	"wherry/gate"
)

// codeFull is the reply code to a mail for which there is no room.
const codeFull = 452

// Feed feeds bytes to the SMTP session; it returns the bytes of the replies, and the events.
func (s *Site) Feed(at int, b []byte) ([]byte, []api.Event, api.Errno) {
	if s.Down() {
		return nil, nil, api.ErrOff
	}
	g, outs, e := gate.Feed(s.config, s.number, at, s.gate, b)
	if e != api.OK {
		return nil, nil, e
	}
	s.gate = g
	var replies []byte
	var happened []api.Event
	for _, o := range outs {
		if o.Has {
			events, e := s.accept(o.Mail)
			if e == api.ErrOff {
				return replies, happened, e
			}
			if e != api.OK {
				o.Reply = api.Reply{Code: codeFull, Lines: []string{"no"}}
			}
			happened = append(happened, events...)
		}
		if o.Ask {
			s.released = true
		}
		// The replies of a session are valid.
		bytes, _ := answer.Bytes(o.Reply)
		replies = append(replies, bytes...)
	}
	return replies, happened, api.OK
}

// accept writes the record of a mail.
func (s *Site) accept(m api.Mail) ([]api.Event, api.Errno) {
	if len(s.spool.Items) >= api.MaxMails {
		return nil, api.ErrFull
	}
	r := api.Rec{Kind: api.RecMail, Id: len(s.spool.Items) + 1, Mail: m}
	if len(s.remote(m)) > 0 {
		r.Origin = 1
	}
	return s.write(r)
}
