// Package clone copies values so that the copies share no memory with them.
package clone

import "wherry/api"

// List copies a list of elements that hold no memory of their own.
func List[T any](l []T) []T { return append([]T(nil), l...) }

// Each copies a list of elements that one copies by the function.
func Each[T any](l []T, one func(T) T) []T {
	var c []T
	for _, x := range l {
		c = append(c, one(x))
	}
	return c
}

// Mail copies a mail.
func Mail(m api.Mail) api.Mail {
	m.To = List(m.To)
	m.Body = List(m.Body)
	return m
}

// Rec copies a record.
func Rec(r api.Rec) api.Rec {
	r.Mail = Mail(r.Mail)
	r.Ids = List(r.Ids)
	r.Data = List(r.Data)
	return r
}

// Item copies an item of a spool.
func Item(x api.Item) api.Item {
	x.Mail = Mail(x.Mail)
	return x
}

// Spool copies a spool.
func Spool(s api.Spool) api.Spool {
	s.Items = Each(s.Items, Item)
	s.Sent = List(s.Sent)
	s.Part = List(s.Part)
	s.Done = List(s.Done)
	return s
}

// Gate copies a session.
func Gate(g api.Gate) api.Gate {
	g.To = List(g.To)
	g.Buf = List(g.Buf)
	return g
}

// Send copies a transfer.
func Send(s api.Send) api.Send {
	s.Data = List(s.Data)
	return s
}

// Event copies an event.
func Event(v api.Event) api.Event {
	v.Body = List(v.Body)
	return v
}

// Letter copies a letter.
func Letter(l api.Letter) api.Letter {
	l.Body = List(l.Body)
	return l
}
