package world

import (
	"slices"

	"wherry/api"
	"wherry/clone"
	"wherry/frame"
	"wherry/site"
)

const mostChallenge = 100

// Do executes a step.
func (w *World) Do(x api.Step) api.Errno {
	switch x.Kind {
	case api.StepDeliver, api.StepDrop, api.StepCopy, api.StepSpoil:
		return w.move(x)
	case api.StepBytes, api.StepTick, api.StepCrash, api.StepRestart, api.StepLink, api.StepHang:
		if !isSite(x.Site) {
			return api.ErrArg
		}
		return w.act(x)
	}
	return api.ErrArg
}

// move does a step of a letter.
func (w *World) move(x api.Step) api.Errno {
	if x.N < 0 || x.N >= len(w.letters) {
		return api.ErrNone
	}
	letter := &w.letters[x.N]
	switch x.Kind {
	case api.StepDeliver:
		return w.deliver(x.N)
	case api.StepDrop:
		w.letters = slices.Delete(w.letters, x.N, x.N+1)
	case api.StepCopy:
		if len(w.letters) >= api.MaxWire {
			return api.ErrFull
		}
		w.letters = append(w.letters, clone.Letter(*letter))
	case api.StepSpoil:
		if letter.Spoilt {
			return api.ErrTwice
		}
		letter.Body = frame.Spoil(letter.Body, x.At, x.Bits)
		letter.Spoilt = true
	}
	return api.OK
}

// deliver brings a letter to the site that it is for.
func (w *World) deliver(n int) api.Errno {
	l := w.letters[n]
	w.letters = slices.Delete(w.letters, n, n+1)
	frames, events, e := w.places[l.To].site.Hear(l.Body)
	w.note(l.To, frames, events)
	return e
}

// act does a step of a site.
func (w *World) act(x api.Step) api.Errno {
	p := &w.places[x.Site]
	if p.site == nil {
		// A world that was not created by New has no sites.
		return api.ErrOff
	}
	switch x.Kind {
	case api.StepBytes:
		replies, events, e := p.site.Feed(p.clock, x.Bytes)
		p.replies = append(p.replies, replies...)
		w.note(x.Site, nil, events)
		return e
	case api.StepTick:
		return w.tick(x.Site)
	case api.StepCrash:
		if x.N < 1 {
			p.diary.Crash(x.Keep)
		} else {
			p.diary.Trip(x.N, x.Keep)
		}
	case api.StepRestart:
		return w.restart(x.Site)
	case api.StepLink:
		p.site.Link()
	case api.StepHang:
		if !isChallenge(x.Challenge) {
			return api.ErrArg
		}
		p.site.Hang(x.Challenge)
	}
	return api.OK
}

// tick lets time go on at site i.
func (w *World) tick(i int) api.Errno {
	p := &w.places[i]
	if p.clock >= api.MaxClock {
		return api.ErrFull
	}
	p.clock++
	frames, events, e := p.site.Tick(p.clock)
	w.note(i, frames, events)
	return e
}

// restart puts a new site in the place of one that is down.
func (w *World) restart(i int) api.Errno {
	p := &w.places[i]
	if !p.site.Down() {
		return api.ErrTwice
	}
	p.diary.Start()
	s, e := site.New(i, w.config, p.diary)
	if e != api.OK {
		return e
	}
	p.site = s
	w.note(i, nil, s.Found())
	return api.OK
}

// isChallenge reports whether s can be a session's challenge.
func isChallenge(s string) bool {
	for i := range len(s) {
		if s[i] < 32 || s[i] > 126 {
			return false
		}
	}
	return len(s) <= mostChallenge
}
