package site

import (
	"slices"

	"wherry/api"
	"wherry/bundle"
	"wherry/sender"
	"wherry/shrink"
	"wherry/spool"
)

// Tick lets time go on to at; it returns the frames to be sent, and the events.
func (s *Site) Tick(at int) ([]api.Frame, []api.Event, api.Errno) {
	if s.Down() {
		return nil, nil, api.ErrOff
	}
	if at < 0 || at > api.MaxClock {
		return nil, nil, api.ErrArg
	}
	if e := s.tidy(); e == api.ErrOff {
		return nil, nil, e
	}
	happened, e := s.expire(at)
	if e != api.OK {
		return nil, happened, e
	}
	if !s.sending || s.send.Over {
		if e := s.choose(); e != api.OK {
			return nil, happened, e
		}
	}
	if !s.sending {
		return nil, happened, api.OK
	}
	// A transfer that was begun stays valid.
	next, frames, e := sender.Tick(s.send)
	if e == api.OK {
		s.send = next
	}
	return frames, happened, api.OK
}

// tidy makes room in the diary if little is left.
func (s *Site) tidy() api.Errno {
	if s.diary.Used() <= s.config.Log/2 {
		return api.OK
	}
	recs, e := s.diary.Read()
	if e != api.OK {
		return e
	}
	return s.diary.Renew(spool.Lean(recs))
}

// expire gives up the mails that have been waiting for too long.
func (s *Site) expire(at int) ([]api.Event, api.Errno) {
	var happened []api.Event
	for _, x := range s.waiting() {
		if x.Mail.At+s.config.Expiry > at {
			continue
		}
		events, e := s.write(api.Rec{Kind: api.RecBounce, Id: x.Id})
		if e == api.ErrFull {
			break
		}
		if e != api.OK {
			return happened, e
		}
		happened = append(happened, events...)
	}
	return happened, api.OK
}

// choose begins the next transfer, if there is one: of the first pack that has not come over, or else of a new one.
func (s *Site) choose() api.Errno {
	s.send, s.sending = api.Send{}, false
	for number := 1; number <= s.spool.Packs; number++ {
		if !slices.Contains(s.spool.Sent, number) {
			s.begin(number)
			return api.OK
		}
	}
	if s.config.Held && !s.released {
		return api.OK
	}
	return s.pack()
}

// pack makes a pack of the first mails that are waiting, and begins its transfer.
func (s *Site) pack() api.Errno {
	number := s.spool.Packs + 1
	var mails []api.Mail
	var ids []int
	for _, x := range s.waiting() {
		mails = append(mails, s.far(x.Mail))
		ids = append(ids, x.Id)
	}
	n, e := bundle.Pack(mails, s.number, number)
	if e != api.OK {
		s.released = false
		return api.OK
	}
	_, e = s.write(api.Rec{Kind: api.RecPack, Number: number, Ids: ids[:n]})
	if e == api.OK {
		s.begin(number)
	}
	if e == api.ErrFull {
		return api.OK
	}
	return e
}

// begin begins the transfer of a pack, if it has data.
func (s *Site) begin(number int) {
	data, ok := s.data(number)
	if !ok {
		return
	}
	send, e := sender.New(number, data)
	s.send, s.sending = send, e == api.OK
}

// data returns the data of a pack.
func (s *Site) data(number int) ([]byte, bool) {
	b := api.Bundle{Origin: s.number, Number: number}
	for _, x := range s.spool.Items {
		if x.Pack == number {
			b.Mails = append(b.Mails, s.far(x.Mail))
		}
	}
	text, e := bundle.Bytes(b)
	if e != api.OK {
		return nil, false
	}
	data, e := shrink.Shrink(text)
	return data, e == api.OK
}

// far returns what of a mail goes to the other site.
func (s *Site) far(m api.Mail) api.Mail {
	return api.Mail{From: m.From, To: s.remote(m), Body: m.Body}
}

// waiting returns the items whose mail is waiting.
func (s *Site) waiting() []api.Item {
	var l []api.Item
	for _, x := range s.spool.Items {
		if x.State == api.Waiting {
			l = append(l, x)
		}
	}
	return l
}
