package gate

import (
	"strconv"

	"wherry/answer"
	"wherry/api"
	"wherry/cram"
	"wherry/path"
	"wherry/verb"
)

// The reply codes.
const (
	codeBye       = 221
	codeProved    = 235
	codeOK        = 250
	codePerhaps   = 252
	codeChallenge = 334
	codeGoOn      = 354
	codeNotNow    = 450
	codeTooMany   = 452
	codeNotHere   = 459
	codeUnknown   = 500
	codeOrder     = 503
	codeProve     = 530
	codeNotProved = 535
	codeForeign   = 550
	codeTooLong   = 552
	codeNoBody    = 554
)

// line takes a line in any phase but PhaseData.
func (s *session) line(line string) {
	switch s.Phase {
	case api.PhaseOver:
	case api.PhaseAuth:
		s.prove(line)
	default:
		c, code := verb.Parse(line)
		if code != 0 {
			s.reply(code)
			return
		}
		s.command(c)
	}
}

// prove takes the answer to the challenge.
func (s *session) prove(line string) {
	s.Phase = api.PhaseReady
	if !cram.Verify(s.config.User, s.config.Secret, s.Challenge, line) {
		s.reply(codeNotProved)
		return
	}
	s.Proved = true
	s.reply(codeProved)
}

// command executes a command.
func (s *session) command(c api.Cmd) {
	switch c.Kind {
	case api.CmdEhlo:
		s.Phase, s.Helo = api.PhaseReady, c.Text
		s.reset()
		s.reply(codeOK)
	case api.CmdRset:
		if s.Phase != api.PhaseNew {
			s.Phase = api.PhaseReady
		}
		s.reset()
		s.reply(codeOK)
	case api.CmdNoop:
		s.reply(codeOK)
	case api.CmdVrfy:
		s.reply(codePerhaps)
	case api.CmdQuit:
		s.Phase = api.PhaseOver
		s.reply(codeBye)
	case api.CmdMail:
		s.reply(s.mail(c))
	case api.CmdRcpt:
		s.reply(s.rcpt(c))
	case api.CmdData:
		s.reply(s.begin())
	case api.CmdEtrn:
		s.release(s.etrn(c))
	case api.CmdAuth:
		s.reply(s.auth())
	case api.CmdAtrn:
		s.release(s.atrn(c))
	}
}

func (s *session) mail(c api.Cmd) int {
	// A value that was parsed is a number; without one there is no size.
	size, _ := verb.Param(c, "SIZE")
	n, _ := strconv.Atoi(size)
	switch {
	case s.Phase != api.PhaseReady:
		return codeOrder
	case n > api.MaxBody:
		return codeTooLong
	}
	s.Phase, s.From = api.PhaseMail, c.Path
	return codeOK
}

func (s *session) rcpt(c api.Cmd) int {
	switch {
	case s.Phase != api.PhaseMail && s.Phase != api.PhaseRcpt:
		return codeOrder
	case len(s.To) >= api.MaxRcpts:
		return codeTooMany
	case !path.At(c.Path, s.config.Domains[0]) && !path.At(c.Path, s.config.Domains[1]):
		return codeForeign
	}
	s.Phase = api.PhaseRcpt
	s.To = append(s.To, c.Path)
	if notify, _ := verb.Param(c, "NOTIFY"); notify == "NEVER" {
		s.Quiet = true
	}
	return codeOK
}

func (s *session) begin() int {
	if s.Phase != api.PhaseRcpt {
		return codeOrder
	}
	s.Phase = api.PhaseData
	return codeGoOn
}

func (s *session) auth() int {
	if s.Phase != api.PhaseReady || s.Proved {
		return codeOrder
	}
	s.Phase = api.PhaseAuth
	return codeChallenge
}

func (s *session) etrn(c api.Cmd) int {
	switch {
	case s.Phase != api.PhaseReady:
		return codeOrder
	case !s.isOther(c.Text):
		return codeNotHere
	}
	return codeOK
}

func (s *session) atrn(c api.Cmd) int {
	switch {
	case s.Phase != api.PhaseReady:
		return codeOrder
	case !s.Proved:
		return codeProve
	case c.Text != "" && !s.isOther(c.Text):
		return codeNotNow
	}
	s.Phase = api.PhaseOver
	return codeOK
}

// isOther reports whether this is the domain of the other site.
func (s *session) isOther(domain string) bool {
	return equalFold(domain, s.config.Domains[1-s.site])
}

// reply adds an output that is a reply alone.
func (s *session) reply(code int) {
	s.out = append(s.out, api.Out{Reply: s.answer(code)})
}

// release adds the reply to a command that asks for the queue.
func (s *session) release(code int) {
	s.out = append(s.out, api.Out{Reply: s.answer(code), Ask: code == codeOK})
}

// answer is the reply of a code.
func (s *session) answer(code int) api.Reply {
	text := "ok"
	switch {
	case code == codeChallenge:
		text = cram.Encode([]byte(s.Challenge))
	case !answer.Good(code):
		text = "no"
	}
	return api.Reply{Code: code, Lines: []string{text}}
}
