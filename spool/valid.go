package spool

import (
	"slices"

	"wherry/api"
	"wherry/dots"
	"wherry/envelope"
)

const mostNumber = 65535

// valid reports whether r is valid for s.
func valid(s api.Spool, r api.Rec) bool {
	if !empty(rest(r)) {
		return false
	}
	switch r.Kind {
	case api.RecMail:
		return len(s.Items) < api.MaxMails && r.Id == len(s.Items)+1 && (r.Origin == 0 || r.Origin == 1) && validMail(r.Mail)
	case api.RecPack:
		return r.Number == s.Packs+1 && validIds(s, r.Ids)
	case api.RecSent:
		return r.Number >= 1 && r.Number <= s.Packs && !slices.Contains(s.Sent, r.Number)
	case api.RecBounce:
		return waits(s, r.Id)
	case api.RecChunk:
		return open(s, r.Number) && validChunk(s, r)
	case api.RecDone:
		return open(s, r.Number)
	}
	return false
}

// rest returns r without its kind and the fields that are mentioned for it.
func rest(r api.Rec) api.Rec {
	switch r.Kind {
	case api.RecMail:
		r.Mail, r.Id, r.Origin = api.Mail{}, 0, 0
	case api.RecPack:
		r.Number, r.Ids = 0, nil
	case api.RecSent, api.RecDone:
		r.Number = 0
	case api.RecBounce:
		r.Id = 0
	case api.RecChunk:
		r.Number, r.Offset, r.Data = 0, 0, nil
	}
	r.Kind = 0
	return r
}

// empty reports whether every field of r is zero or empty.
func empty(r api.Rec) bool {
	m := r.Mail
	noMail := m.From == api.Path{} && len(m.To) == 0 && len(m.Body) == 0 && !m.Quiet && m.Helo == "" && m.At == 0
	return noMail && r.Kind == 0 && r.Id == 0 && len(r.Ids) == 0 && r.Origin == 0 && r.Number == 0 && r.Offset == 0 && len(r.Data) == 0
}

func validMail(m api.Mail) bool {
	return envelope.Valid(m) && dots.Check(m.Body) == api.OK && m.At >= 0 && m.At <= api.MaxClock
}

// validIds reports whether a bundle can be made of these items.
func validIds(s api.Spool, ids []int) bool {
	if len(ids) < 1 || len(ids) > api.MaxBundle {
		return false
	}
	for i, id := range ids {
		if i > 0 && id <= ids[i-1] || !waits(s, id) {
			return false
		}
	}
	return true
}

// waits reports whether this is the Id of an item that is waiting.
func waits(s api.Spool, id int) bool {
	i := find(s, id)
	return i >= 0 && s.Items[i].State == api.Waiting
}

// open reports whether this is the number of a bundle that is not done.
func open(s api.Spool, number int) bool {
	return number >= 1 && number <= mostNumber && !slices.Contains(s.Done, number)
}

// validChunk reports whether the data of r can be added to s.
func validChunk(s api.Spool, r api.Rec) bool {
	if len(r.Data) < 1 || len(r.Data) > api.MaxChunk {
		return false
	}
	if r.Offset == 0 {
		return true
	}
	return s.Of == r.Number && r.Offset == len(s.Part) && len(s.Part)+len(r.Data) <= api.MaxSmall
}
