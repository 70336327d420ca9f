// Package envelope tells which senders and recipients a mail can have, and which recipients are where.
package envelope

import (
	"wherry/api"
	"wherry/path"
)

// Valid reports whether m has a valid sender and from 1 to MaxRcpts valid recipients, none of them the null path.
func Valid(m api.Mail) bool {
	if path.Check(m.From) != api.OK || len(m.To) < 1 || len(m.To) > api.MaxRcpts {
		return false
	}
	for _, p := range m.To {
		if path.Check(p) != api.OK || p.Null {
			return false
		}
	}
	return true
}

// At returns the recipients of m at a domain, in order.
func At(m api.Mail, domain string) []api.Path {
	var l []api.Path
	for _, p := range m.To {
		if path.At(p, domain) {
			l = append(l, p)
		}
	}
	return l
}
