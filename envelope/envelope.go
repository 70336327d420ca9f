// Package envelope tells which senders and recipients a mail can have.
package envelope

import (
	"wherry/api"
	"wherry/path"
)

// Valid reports whether m has a valid sender and from 1 to MaxRcpts valid recipients, none of them the null path.
func Valid(m api.Mail) bool {
	if path.Check(m.From) != api.OK || len(m.To) < 1 || len(m.To) > api.MaxRcpts {
		return false
	}
	for _, p := range m.To {
		if path.Check(p) != api.OK || p.Null {
			return false
		}
	}
	return true
}
