package site_test

import (
	"bytes"
	"fmt"
	"math"
	"slices"
	"strings"
	"testing"

	"wherry/api"
	"wherry/bundle"
	"wherry/grow"
	"wherry/sender"
	"wherry/shrink"
	"wherry/site"
	"wherry/spool"
)

// dataOf gives the data of a pack of these mails.
func dataOf(t *testing.T, origin, number int, mails ...api.Mail) []byte {
	t.Helper()
	text, e := bundle.Bytes(api.Bundle{Origin: origin, Number: number, Mails: mails})
	if e != api.OK {
		t.Fatal(e)
	}
	b, _ := shrink.Shrink(text)
	return b
}

// packed gives what of a mail is in a bundle.
func packed(body string, to ...api.Path) api.Mail {
	return api.Mail{From: fx, To: to, Body: []byte(body)}
}

func tick(t *testing.T, s *site.Site, at int) ([]api.Frame, []api.Event) {
	t.Helper()
	frames, events, e := s.Tick(at)
	if e != api.OK {
		t.Fatal(e)
	}
	return frames, events
}

func hello(number int, data []byte) api.Frame {
	return api.Frame{Kind: api.FrameHello, Number: number, Offset: len(data)}
}

// sends checks that the transfer of a pack has just begun.
func sends(t *testing.T, s *site.Site, number int, data []byte) {
	t.Helper()
	want, _ := sender.New(number, data)
	want.Wait = 3
	send, ok := s.Sending()
	if !ok {
		t.Error("nothing is sent")
	}
	same(t, "send", send, want)
}

func idle(t *testing.T, s *site.Site) {
	t.Helper()
	if send, ok := s.Sending(); ok || show(send) != show(api.Send{}) {
		t.Error(show(send), ok)
	}
}

func TestTickErrors(t *testing.T) {
	s, _ := fresh(t, config())
	for _, at := range []int{-1, 1<<40 + 1, math.MaxInt, math.MinInt} {
		if f, v, e := s.Tick(at); len(f) != 0 || len(v) != 0 || e != api.ErrArg {
			t.Error(at, f, v, e)
		}
	}
	for _, at := range []int{0, 1 << 40} {
		if f, v, e := s.Tick(at); len(f) != 0 || len(v) != 0 || e != api.OK {
			t.Error(at, f, v, e)
		}
	}
}

// TestTickErrorChangesNothing has a tick that would tidy, give up a mail, and pack another one.
func TestTickErrorChangesNothing(t *testing.T) {
	c := config()
	c.Log = 600
	later := mail("", far)
	later.At = 1 << 40
	d := log(t, c.Log, recMail(1, mail("", far), 1), recMail(2, later, 1))
	s := start(t, 0, c, d)
	d.Trip(1, 0)
	if f, v, e := s.Tick(1<<40 + 1); len(f) != 0 || len(v) != 0 || e != api.ErrArg {
		t.Error(f, v, e)
	}
	same(t, "records", kinds(t, d), "mail mail ")
	same(t, "the first call", d.Sync(), api.ErrOff)
}

func TestTickPacks(t *testing.T) {
	var l []api.Rec
	for i := range 7 {
		m := mail(fmt.Sprintf("%d\r\n", i), near, far, box("c", "S.example"))
		m.Quiet = i%2 == 0
		origin := 1
		if i == 1 {
			m.To, origin = m.To[:1], 0
		}
		l = append(l, recMail(i+1, m, origin))
	}
	d := log(t, 20000, l...)
	s := start(t, 0, config(), d)
	frames, events := tick(t, s, 4)
	to := []api.Path{far, box("c", "S.example")}
	data := dataOf(t, 0, 1, packed("0\r\n", to...), packed("2\r\n", to...), packed("3\r\n", to...), packed("4\r\n", to...))
	same(t, "frames", frames, []api.Frame{hello(1, data)})
	same(t, "events", events, []api.Event(nil))
	same(t, "the record", recs(t, d)[7:], []api.Rec{{Kind: api.RecPack, Number: 1, Ids: []int{1, 3, 4, 5}}})
	same(t, "safe", d.Safe(), 8)
	same(t, "packs", s.Spool().Packs, 1)
	sends(t, s, 1, data)
	// The transfer goes on; nothing else is packed.
	frames, _ = tick(t, s, 5)
	same(t, "frames", frames, []api.Frame(nil))
	same(t, "records", d.Len(), 8)
	// At the other site the origin is 1, and the domains are the other way round.
	d = log(t, 20000, l[0])
	s = start(t, 1, config(), d)
	tick(t, s, 4)
	sends(t, s, 1, dataOf(t, 1, 1, packed("0\r\n", near)))
}

func TestTickPacksInPieces(t *testing.T) {
	// Three mails of which two fit in a bundle.
	body := strings.Repeat("x", 1498) + "\r\n"
	d := log(t, 20000, recMail(1, mail(body, far), 1), recMail(2, mail(body, far), 1), recMail(3, mail(body, far), 1))
	s := start(t, 0, config(), d)
	tick(t, s, 4)
	same(t, "the record", recs(t, d)[3:], []api.Rec{{Kind: api.RecPack, Number: 1, Ids: []int{1, 2}}})
	done, _ := s.Sending()
	hear(t, s, api.Frame{Kind: api.FrameDone, Number: done.Number})
	frames, _ := tick(t, s, 5)
	data := dataOf(t, 0, 2, packed(body, far))
	same(t, "frames", frames, []api.Frame{hello(2, data)})
	sends(t, s, 2, data)
	same(t, "records", kinds(t, d), "mail mail mail pack sent pack ")
	hear(t, s, api.Frame{Kind: api.FrameDone, Number: 2})
	frames, _ = tick(t, s, 6)
	same(t, "frames", frames, []api.Frame(nil))
	idle(t, s)
	same(t, "records", kinds(t, d), "mail mail mail pack sent pack sent ")
}

// TestTickResumes has packs that were not sent, of which the least number goes first.
func TestTickResumes(t *testing.T) {
	l := []api.Rec{recMail(1, mail("1\r\n", far), 1), recMail(2, mail("2\r\n", far), 1), recMail(3, mail("3\r\n", far), 1), recMail(4, mail("4\r\n", far), 1), {Kind: api.RecPack, Number: 1, Ids: []int{1}}, {Kind: api.RecPack, Number: 2, Ids: []int{2}}, {Kind: api.RecPack, Number: 3, Ids: []int{3}}, {Kind: api.RecSent, Number: 1}}
	d := log(t, 20000, l...)
	// A pack that was made goes on also if the queue is held.
	s := start(t, 0, held(), d)
	frames, _ := tick(t, s, 4)
	data := dataOf(t, 0, 2, packed("2\r\n", far))
	same(t, "frames", frames, []api.Frame{hello(2, data)})
	sends(t, s, 2, data)
	hear(t, s, api.Frame{Kind: api.FrameDone, Number: 2})
	tick(t, s, 4)
	sends(t, s, 3, dataOf(t, 0, 3, packed("3\r\n", far)))
	hear(t, s, api.Frame{Kind: api.FrameDone, Number: 3})
	tick(t, s, 4)
	idle(t, s)
	same(t, "records", d.Len(), 10)
}

// TestTickNoData has a pack whose mail is too long for a bundle: nothing is sent, and nothing is packed.
func TestTickNoData(t *testing.T) {
	long := strings.Repeat("x", 4090) + "\r\n"
	d := log(t, 20000, recMail(1, mail(long, far), 1), recMail(2, mail("2\r\n", far), 1), api.Rec{Kind: api.RecPack, Number: 1, Ids: []int{1}})
	s := start(t, 0, config(), d)
	for at := range 3 {
		frames, _ := tick(t, s, at)
		same(t, "frames", frames, []api.Frame(nil))
		idle(t, s)
	}
	same(t, "records", d.Len(), 3)
	// A mail that makes no bundle by itself is never packed, nor is what stands behind it.
	d = log(t, 20000, recMail(1, mail(long, far), 1), recMail(2, mail("2\r\n", far), 1))
	s = start(t, 0, config(), d)
	tick(t, s, 4)
	idle(t, s)
	_, events := tick(t, s, 13)
	same(t, "events", events, []api.Event{bounced(t, 0, fx, far), bounced(t, 0, fx, far)})
}

func TestTickHeld(t *testing.T) {
	d := log(t, 20000, recMail(1, mail("1\r\n", far), 1))
	s := start(t, 0, held(), d)
	for at := range 5 {
		tick(t, s, at)
		idle(t, s)
	}
	feed(t, s, 5, "EHLO me\r\nETRN s.example\r\n")
	idle(t, s)
	tick(t, s, 5)
	sends(t, s, 1, dataOf(t, 0, 1, packed("1\r\n", far)))
	// It stays released until there is nothing more to pack.
	feed(t, s, 5, script("2\r\n", "<b@s.example>"))
	hear(t, s, api.Frame{Kind: api.FrameDone, Number: 1})
	tick(t, s, 6)
	if send, ok := s.Sending(); !ok || send.Number != 2 {
		t.Error(send, ok)
	}
	hear(t, s, api.Frame{Kind: api.FrameDone, Number: 2})
	tick(t, s, 7)
	idle(t, s)
	feed(t, s, 7, script("3\r\n", "<b@s.example>"))
	tick(t, s, 8)
	idle(t, s)
	// A release of an empty queue is used up by the next tick.
	s, d = fresh(t, held())
	feed(t, s, 5, "EHLO me\r\nETRN s.example\r\n")
	tick(t, s, 5)
	feed(t, s, 5, script("3\r\n", "<b@s.example>"))
	tick(t, s, 6)
	idle(t, s)
	// A new site is not released.
	feed(t, s, 6, "ETRN s.example\r\n")
	s = start(t, 0, held(), d)
	tick(t, s, 7)
	idle(t, s)
}

func TestTickExpires(t *testing.T) {
	quiet, silent := mail("q\r\n", far), mail("s\r\n", far)
	quiet.Quiet, silent.From = true, null
	later := mail("l\r\n", far)
	later.At = 4
	two := mail("t\r\n", near, far, box("c", "S.example"))
	d := log(t, 20000, recMail(1, later, 1), recMail(2, two, 1), recMail(3, quiet, 1), recMail(4, silent, 1), recMail(5, mail("n\r\n", near), 0), recMail(6, mail("p\r\n", far), 1), api.Rec{Kind: api.RecPack, Number: 1, Ids: []int{6}})
	c := held()
	s := start(t, 0, c, d)
	_, events := tick(t, s, 12)
	same(t, "events", events, []api.Event(nil))
	_, events = tick(t, s, 13)
	same(t, "events", events, []api.Event{bounced(t, 0, fx, far), bounced(t, 0, fx, box("c", "S.example"))})
	same(t, "the records", recs(t, d)[7:], []api.Rec{{Kind: api.RecBounce, Id: 2}, {Kind: api.RecBounce, Id: 3}, {Kind: api.RecBounce, Id: 4}})
	_, events = tick(t, s, 13)
	same(t, "events", events, []api.Event(nil))
	_, events = tick(t, s, 99)
	same(t, "events", events, []api.Event{bounced(t, 0, fx, far)})
	same(t, "records", kinds(t, d), "mail mail mail mail mail mail pack bounce bounce bounce bounce ")
	// At the other site, the reports are about the other recipients.
	d = log(t, 20000, recMail(1, two, 1))
	s = start(t, 1, c, d)
	_, events = tick(t, s, 13)
	same(t, "events", events, []api.Event{bounced(t, 1, fx, near)})
	// What expires is not packed by the same tick.
	d = log(t, 20000, recMail(1, two, 1), recMail(2, later, 1))
	s = start(t, 0, config(), d)
	tick(t, s, 13)
	sends(t, s, 1, dataOf(t, 0, 1, packed("l\r\n", far)))
	same(t, "records", kinds(t, d), "mail mail bounce pack ")
}

// TestTickExpiresFull has room for the record of one report of three.
func TestTickExpiresFull(t *testing.T) {
	l := []api.Rec{recMail(1, mail("", far), 1), recMail(2, mail("", far), 1), recMail(3, mail("", far), 1)}
	c := held()
	c.Log = 3*186 + 104 + 103
	d := log(t, c.Log, l...)
	s := start(t, 0, c, d)
	frames, events := tick(t, s, 13)
	same(t, "events", events, []api.Event{bounced(t, 0, fx, far)})
	same(t, "frames", frames, []api.Frame(nil))
	same(t, "records", kinds(t, d), "mail mail mail bounce ")
	// The steps after it go on: of the two that are left a pack would be made, for which there is no room either.
	c.Held = false
	d = log(t, c.Log, l...)
	s = start(t, 0, c, d)
	frames, events = tick(t, s, 13)
	same(t, "events", events, []api.Event{bounced(t, 0, fx, far)})
	same(t, "frames", frames, []api.Frame(nil))
	idle(t, s)
	same(t, "packs", s.Spool().Packs, 0)
	if f, v, e := s.Tick(14); len(f) != 0 || len(v) != 0 || e != api.OK {
		t.Error(f, v, e)
	}
}

// TestTickPackFull has room for the pack of one mail, but not of two.
func TestTickPackFull(t *testing.T) {
	c := config()
	c.Log = 2*186 + 104 + 15
	l := []api.Rec{recMail(1, mail("", far), 1), recMail(2, mail("", far), 1)}
	d := log(t, c.Log, l...)
	s := start(t, 0, c, d)
	frames, _ := tick(t, s, 4)
	same(t, "frames", frames, []api.Frame(nil))
	idle(t, s)
	c.Log++
	s = start(t, 0, c, log(t, c.Log, l...))
	tick(t, s, 4)
	sends(t, s, 1, dataOf(t, 0, 1, packed("", far), packed("", far)))
}

// TestTickTidies has records of which Lean leaves only some.
func TestTickTidies(t *testing.T) {
	var l []api.Rec
	for at := range 10 {
		l = append(l, api.Rec{Kind: api.RecChunk, Number: 1, Offset: at * 40, Data: make([]byte, 40)})
	}
	l = append(l, api.Rec{Kind: api.RecDone, Number: 1})
	used := 10*144 + 104
	for _, c := range []struct {
		log  int
		kept int
	}{{2 * used, 11}, {2*used + 1, 11}, {2*used - 1, 1}, {2*used - 2, 1}, {used, 1}} {
		conf := config()
		conf.Log = c.log
		d := log(t, c.log, l...)
		d.Trip(1, 0)
		s := start(t, 0, conf, d)
		_, _, e := s.Tick(4)
		want := api.OK
		if c.kept == 1 {
			want = api.ErrOff
		}
		same(t, "the first tick", e, want)
		d.Start()
		d.Trip(0, 0)
		s = start(t, 0, conf, d)
		tick(t, s, 4)
		same(t, "records", d.Len(), c.kept)
		state, _ := spool.Fold(l)
		same(t, "spool", s.Spool(), state)
		same(t, "what is left", recs(t, d), slices.Clone(l[11-c.kept:]))
	}
	// It is tidied by every tick, also if that is of no use.
	conf := config()
	conf.Log = 300
	d := log(t, 300, recMail(1, mail("", near), 0))
	s := start(t, 0, conf, d)
	tick(t, s, 4)
	d.Trip(1, 0)
	if f, v, e := s.Tick(5); len(f) != 0 || len(v) != 0 || e != api.ErrOff {
		t.Error(f, v, e)
	}
}

// TestTickCrash has a crash at each call of a tick that gives up two mails and packs a third.
func TestTickCrash(t *testing.T) {
	later := mail("l\r\n", far)
	later.At = 9
	for n := 1; n <= 7; n++ {
		for keep := range 2 {
			d := log(t, 20000, recMail(1, mail("1\r\n", far), 1), recMail(2, mail("2\r\n", far), 1), recMail(3, later, 1))
			s := start(t, 0, config(), d)
			d.Trip(n, keep)
			frames, events, e := s.Tick(13)
			same(t, "events", len(events), min((n-1)/2, 2))
			if n == 7 {
				same(t, "frames", len(frames), 1)
				same(t, "error", e, api.OK)
				continue
			}
			same(t, "frames", len(frames), 0)
			same(t, "error", e, api.ErrOff)
			if _, ok := s.Sending(); ok || !s.Down() {
				t.Error(n, "it is sending")
			}
			d.Start()
			again := start(t, 0, config(), d)
			reports := 0
			if keep == 1 && n <= 4 {
				reports = 1
			}
			same(t, "found", len(again.Found()), reports)
			same(t, "records", d.Len(), 3+(n-1)/2+keep)
		}
	}
}

// TestTickCrashAfterOver has a transfer that is over when the next pack's record crashes.
func TestTickCrashAfterOver(t *testing.T) {
	s, d := fresh(t, config())
	feed(t, s, 3, script("1\r\n", "<b@s.example>"))
	tick(t, s, 4)
	feed(t, s, 4, script("2\r\n", "<b@s.example>"))
	hear(t, s, api.Frame{Kind: api.FrameDone, Number: 1})
	if send, ok := s.Sending(); !ok || !send.Over {
		t.Error(send, ok)
	}
	d.Trip(1, 0)
	if f, v, e := s.Tick(5); len(f) != 0 || len(v) != 0 || e != api.ErrOff {
		t.Error(f, v, e)
	}
	idle(t, s)
}

// TestDataGrows is the data of a pack, read back.
func TestDataGrows(t *testing.T) {
	s, _ := fresh(t, config())
	feed(t, s, 3, script("..x\r\n", "<a@n.example>", "<b@s.example>"))
	tick(t, s, 4)
	send, _ := s.Sending()
	text, e := grow.Grow(send.Data, api.MaxText)
	b, e2 := bundle.Read(text)
	want := api.Bundle{Number: 1, Mails: []api.Mail{packed(stampN+".x\r\n", far)}}
	if e != api.OK || e2 != api.OK || show(b) != show(want) || bytes.Contains(text, []byte("a@n")) {
		t.Error(show(b), e, e2)
	}
}
