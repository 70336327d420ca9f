package gate

import (
	"wherry/api"
	"wherry/bundle"
	"wherry/clone"
	"wherry/dots"
	"wherry/head"
)

// loneNumber is the number of the bundle that a mail must fit in alone; no number is longer.
const loneNumber = 65535

// data takes a body, if it has arrived, and reports whether it has.
func (s *session) data() bool {
	body, next, e := dots.Strip(s.Buf)
	if e == api.ErrNone {
		return false
	}
	out := api.Out{Reply: s.answer(codeNoBody)}
	if e == api.OK {
		out = s.accept(body)
	} else {
		next = afterDot(s.Buf)
	}
	s.out = append(s.out, out)
	s.Buf = s.Buf[next:]
	s.Phase = api.PhaseReady
	s.reset()
	return true
}

// accept is the output for a body.
func (s *session) accept(body []byte) api.Out {
	stamped, e := head.Put(body, s.Helo, s.config.Domains[s.site], s.at)
	m := api.Mail{From: s.From, To: clone.List(s.To), Body: stamped}
	if len(body) > api.MaxBody || e != api.OK || !fits(m) {
		return api.Out{Reply: s.answer(codeTooLong)}
	}
	m.Quiet, m.Helo, m.At = s.Quiet, s.Helo, s.at
	return api.Out{Reply: s.answer(codeOK), Has: true, Mail: m}
}

// fits reports whether a mail, which has nothing that is not part of a bundle, can be one alone.
func fits(m api.Mail) bool {
	_, e := bundle.Bytes(api.Bundle{Number: loneNumber, Mails: []api.Mail{m}})
	return e == api.OK
}

// afterDot returns the offset after the first line that consists of a single dot.
func afterDot(b []byte) int {
	at := 0
	for _, line := range dots.Lines(b) {
		at += len(line) + len(lineEnd)
		if string(line) == "." {
			break
		}
	}
	return at
}
