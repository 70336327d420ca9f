package site

import (
	"wherry/api"
	"wherry/bundle"
	"wherry/clone"
	"wherry/envelope"
	"wherry/grow"
	"wherry/report"
)

// events returns the events of a record, for the state before it.
func (s *Site) events(before api.Spool, r api.Rec) []api.Event {
	switch r.Kind {
	case api.RecMail:
		return s.handOn(r.Mail, s.local(r.Mail))
	case api.RecBounce:
		for _, x := range before.Items {
			if x.Id == r.Id {
				return s.bounces(x.Mail)
			}
		}
	case api.RecDone:
		return s.arrivals(before, r.Number)
	}
	return nil
}

// handOn returns an event for each of these recipients of a mail.
func (s *Site) handOn(m api.Mail, to []api.Path) []api.Event {
	var l []api.Event
	for _, p := range to {
		l = append(l, api.Event{Kind: api.EventMail, Site: s.number, From: m.From, To: p, Body: clone.List(m.Body)})
	}
	return l
}

// bounces returns an event for each remote recipient of a mail whose sender is to be told.
func (s *Site) bounces(m api.Mail) []api.Event {
	if m.Quiet || m.From.Null {
		return nil
	}
	var l []api.Event
	for _, p := range s.remote(m) {
		// The paths of a mail that was accepted are valid, so that there is a report.
		body, _ := report.Build(s.config.Domains[s.number], m.From, p)
		l = append(l, api.Event{Kind: api.EventBounce, Site: s.number, To: m.From, Body: body})
	}
	return l
}

// arrivals returns the events of a bundle that has come from the other site.
func (s *Site) arrivals(before api.Spool, number int) []api.Event {
	if before.Of != number {
		return nil
	}
	text, e := grow.Grow(before.Part, api.MaxText)
	if e != api.OK {
		return nil
	}
	b, e := bundle.Read(text)
	if e != api.OK || b.Origin != 1-s.number || b.Number != number {
		return nil
	}
	var l []api.Event
	for _, m := range b.Mails {
		l = append(l, s.handOn(m, m.To)...)
	}
	return l
}

// local returns the recipients of a mail at this site.
func (s *Site) local(m api.Mail) []api.Path { return envelope.At(m, s.config.Domains[s.number]) }

// remote returns the recipients of a mail at the other site.
func (s *Site) remote(m api.Mail) []api.Path { return envelope.At(m, s.config.Domains[1-s.number]) }
