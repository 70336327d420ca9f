package world_test

import (
	"bytes"
	"fmt"
	"math"
	"slices"
	"strings"
	"testing"

	"wherry/api"
	"wherry/frame"
	"wherry/gate"
	"wherry/world"
)

func config() api.Config {
	return api.Config{Domains: [2]string{"n.example", "s.example"}, Expiry: 50, User: "user", Secret: "secret", Log: api.MaxLog}
}

func show(v any) string { return fmt.Sprintf("%+v", v) }

func same(t *testing.T, name string, got, want any) {
	t.Helper()
	if show(got) != show(want) {
		t.Errorf("%s:\n%v\nnot\n%v", name, show(got), show(want))
	}
}

func start(t *testing.T, c api.Config) *world.World {
	t.Helper()
	w, e := world.New(c)
	if e != api.OK || w == nil {
		t.Fatal(e)
	}
	return w
}

func step(kind, i int) api.Step { return api.Step{Kind: kind, Site: i} }

func letter(kind, n int) api.Step { return api.Step{Kind: kind, N: n} }

func fed(i int, s string) api.Step {
	return api.Step{Kind: api.StepBytes, Site: i, Bytes: []byte(s)}
}

func crash(i, n, keep int) api.Step {
	return api.Step{Kind: api.StepCrash, Site: i, N: n, Keep: keep}
}

// do executes steps that have no error.
func do(t *testing.T, w *world.World, steps ...api.Step) {
	t.Helper()
	for k, x := range steps {
		if e := w.Do(x); e != api.OK {
			t.Fatal(k, show(x), e)
		}
	}
}

func fails(t *testing.T, w *world.World, x api.Step, want api.Errno) {
	t.Helper()
	before := show(w.Letters()) + show(w.Events()) + show(w.Clock(0)) + show(w.Clock(1)) + show(w.Replies(0)) + show(w.Replies(1))
	if e := w.Do(x); e != want {
		t.Error(show(x), e)
	}
	if show(w.Letters())+show(w.Events())+show(w.Clock(0))+show(w.Clock(1))+show(w.Replies(0))+show(w.Replies(1)) != before {
		t.Error(show(x), "something was changed")
	}
}

func mail(from, body string, to ...string) string {
	s := "EHLO me\r\nMAIL FROM:<" + from + "@x>\r\n"
	for _, p := range to {
		s += "RCPT TO:<" + p + ">\r\n"
	}
	return s + "DATA\r\n" + body + "\r\n.\r\n"
}

func TestNew(t *testing.T) {
	bad := config()
	bad.Log = 0
	if w, e := world.New(bad); w != nil || e != api.ErrArg {
		t.Error(w, e)
	}
	w := start(t, config())
	for i := range 2 {
		s := w.Site(i)
		if s == nil || s.Down() || w.Site(i) != s || w.Clock(i) != 0 || len(w.Replies(i)) != 0 || show(s.Gate()) != show(gate.New("")) {
			t.Error(i)
		}
	}
	if w.Site(0) == w.Site(1) || len(w.Letters()) != 0 || len(w.Events()) != 0 {
		t.Error("the sites")
	}
	for _, i := range []int{-1, 2, math.MaxInt, math.MinInt} {
		if w.Site(i) != nil || w.Clock(i) != 0 || len(w.Replies(i)) != 0 {
			t.Error(i)
		}
	}
}

func TestWrongSteps(t *testing.T) {
	w := start(t, config())
	for _, kind := range []int{0, -1, 11, math.MaxInt, math.MinInt} {
		fails(t, w, step(kind, 0), api.ErrArg)
	}
	for _, i := range []int{-1, 2, math.MaxInt} {
		for _, kind := range []int{api.StepBytes, api.StepTick, api.StepCrash, api.StepRestart, api.StepLink, api.StepHang} {
			fails(t, w, step(kind, i), api.ErrArg)
		}
	}
	do(t, w, fed(0, mail("f", "x", "b@s.example")), step(api.StepTick, 0))
	// The number of the site is of no matter to what is done with a letter.
	for _, kind := range []int{api.StepCopy, api.StepSpoil, api.StepDrop} {
		do(t, w, api.Step{Kind: kind, Site: 99})
	}
	do(t, w, api.Step{Kind: api.StepDrop, Site: -1})
	for _, kind := range []int{api.StepDeliver, api.StepDrop, api.StepCopy, api.StepSpoil} {
		for _, n := range []int{0, 1, -1, math.MaxInt, math.MinInt} {
			fails(t, w, letter(kind, n), api.ErrNone)
		}
	}
}

func TestBytesAndTick(t *testing.T) {
	w := start(t, config())
	do(t, w, step(api.StepTick, 0), step(api.StepTick, 0), step(api.StepTick, 1))
	same(t, "clocks", []int{w.Clock(0), w.Clock(1)}, []int{2, 1})
	do(t, w, fed(0, mail("f", "x", "a@n.example", "b@s.example")), fed(1, "NOOP\r\n"), fed(0, "QUIT\r\n"))
	same(t, "replies", string(w.Replies(0)), "250 ok\r\n250 ok\r\n250 ok\r\n250 ok\r\n354 ok\r\n250 ok\r\n221 ok\r\n")
	same(t, "replies", string(w.Replies(1)), "250 ok\r\n")
	body := []byte("Received: from me by n.example with ESMTP; 2\r\nx\r\n")
	event := api.Event{Kind: api.EventMail, Site: 0, From: api.Path{Local: "f", Domain: "x"}, To: api.Path{Local: "a", Domain: "n.example"}, Body: body}
	same(t, "events", w.Events(), []api.Event{event})
	same(t, "letters", len(w.Letters()), 0)
	do(t, w, step(api.StepTick, 0))
	send, _ := w.Site(0).Sending()
	hello, _ := frame.Bytes(api.Frame{Kind: api.FrameHello, Number: 1, Offset: len(send.Data)})
	same(t, "letters", w.Letters(), []api.Letter{{To: 1, Body: hello}})
	same(t, "clocks", []int{w.Clock(0), w.Clock(1)}, []int{3, 1})
	// The other site's session has its own clock.
	do(t, w, fed(1, mail("g", "y", "b@s.example")))
	same(t, "body", string(w.Events()[1].Body), "Received: from me by s.example with ESMTP; 1\r\ny\r\n")
	same(t, "site", w.Events()[1].Site, 1)
}

func TestErrorsOfASite(t *testing.T) {
	w := start(t, config())
	do(t, w, crash(0, 3, 0))
	if e := w.Do(fed(0, mail("f", "x", "a@n.example")+mail("g", "y", "a@n.example"))); e != api.ErrOff {
		t.Error(e)
	}
	// What the site returned with the error is recorded.
	same(t, "events", len(w.Events()), 1)
	same(t, "replies", strings.Count(string(w.Replies(0)), "\r\n"), 9)
	if e := w.Do(step(api.StepTick, 0)); e != api.ErrOff || w.Clock(0) != 1 {
		t.Error(e, w.Clock(0))
	}
	if e := w.Do(fed(0, "NOOP\r\n")); e != api.ErrOff {
		t.Error(e)
	}
	do(t, w, fed(1, mail("f", "x", "a@n.example")), step(api.StepTick, 1))
	if e := w.Do(letter(api.StepDeliver, 0)); e != api.ErrOff || len(w.Letters()) != 0 {
		t.Error(e, len(w.Letters()))
	}
}

func TestLetters(t *testing.T) {
	w := start(t, config())
	do(t, w, fed(0, mail("f", "x", "b@s.example")), step(api.StepTick, 0), letter(api.StepCopy, 0))
	l := w.Letters()
	same(t, "letters", l, []api.Letter{l[0], l[0]})
	spoil := api.Step{Kind: api.StepSpoil, N: 1, At: 13, Bits: 6}
	do(t, w, spoil)
	fails(t, w, spoil, api.ErrTwice)
	spoilt := api.Letter{To: 1, Body: frame.Spoil(l[0].Body, 13, 6), Spoilt: true}
	do(t, w, letter(api.StepCopy, 1))
	same(t, "letters", w.Letters(), []api.Letter{l[0], spoilt, spoilt})
	fails(t, w, api.Step{Kind: api.StepSpoil, N: 2}, api.ErrTwice)
	do(t, w, api.Step{Kind: api.StepDrop, N: 1})
	same(t, "letters", w.Letters(), []api.Letter{l[0], spoilt})
	if e := w.Do(letter(api.StepDeliver, 1)); e != api.ErrSum {
		t.Error(e)
	}
	same(t, "letters", w.Letters(), []api.Letter{l[0]})
	do(t, w, letter(api.StepCopy, 0), letter(api.StepDeliver, 0))
	ready, _ := frame.Bytes(api.Frame{Kind: api.FrameReady, Number: 1})
	// The letter is removed, and the answer comes last.
	same(t, "letters", w.Letters(), []api.Letter{l[0], {To: 0, Body: ready}})
	do(t, w, letter(api.StepDeliver, 1))
	same(t, "letters", w.Letters(), []api.Letter{l[0]})
	if send, ok := w.Site(0).Sending(); !ok || !send.Ready {
		t.Error(show(send))
	}
	fails(t, w, letter(api.StepDeliver, 1), api.ErrNone)
	// The order of the others stays.
	do(t, w, step(api.StepTick, 0))
	order := w.Letters()
	if len(order) < 3 {
		t.Fatal(len(order))
	}
	do(t, w, letter(api.StepDrop, 1))
	same(t, "letters", w.Letters(), slices.Delete(slices.Clone(order), 1, 2))
}

func TestMostLetters(t *testing.T) {
	w := start(t, config())
	do(t, w, fed(0, mail("f", strings.Repeat("x\r\nabcdefgh", 100), "b@s.example")), step(api.StepTick, 0))
	for len(w.Letters()) < 399 {
		do(t, w, letter(api.StepCopy, 0))
	}
	do(t, w, letter(api.StepDeliver, 0))
	same(t, "letters", len(w.Letters()), 399)
	do(t, w, letter(api.StepCopy, 0))
	fails(t, w, letter(api.StepCopy, 0), api.ErrFull)
	fails(t, w, letter(api.StepCopy, 400), api.ErrNone)
	// The answer of the site is the last letter but one.
	do(t, w, letter(api.StepDeliver, 398), letter(api.StepCopy, 0))
	same(t, "letters", len(w.Letters()), 400)
	last := w.Letters()[399]
	do(t, w, step(api.StepTick, 0))
	if send, _ := w.Site(0).Sending(); send.Next == 0 {
		t.Error(show(send))
	}
	same(t, "letters", len(w.Letters()), 400)
	same(t, "the last letter", w.Letters()[399], last)
	// With room for one more, only the first frame goes.
	w = start(t, config())
	do(t, w, fed(0, mail("f", strings.Repeat("abcdefgh", 20), "b@s.example", "c@s.example")), step(api.StepTick, 0), letter(api.StepDeliver, 0), letter(api.StepDeliver, 0), fed(1, mail("f", "x", "a@n.example")), step(api.StepTick, 1))
	for len(w.Letters()) < 399 {
		do(t, w, letter(api.StepCopy, 0))
	}
	do(t, w, step(api.StepTick, 0))
	f, e := frame.Read(w.Letters()[399].Body)
	if send, _ := w.Site(0).Sending(); len(w.Letters()) != 400 || e != api.OK || f.Kind != api.FrameChunk || f.Offset != 0 || send.Next < 2 {
		t.Error(len(w.Letters()), show(f), show(send), e)
	}
}

func TestCrashAndRestart(t *testing.T) {
	w := start(t, config())
	fails(t, w, step(api.StepRestart, 0), api.ErrTwice)
	before := w.Site(0)
	do(t, w, fed(0, mail("f", "x", "a@n.example")), crash(0, 0, 0))
	if !before.Down() || w.Site(1).Down() || w.Site(0) != before {
		t.Error("site 0")
	}
	do(t, w, crash(0, -5, 0), step(api.StepRestart, 0))
	if w.Site(0) == before || w.Site(0).Down() || !before.Down() || len(w.Site(0).Spool().Items) != 1 || len(w.Events()) != 1 {
		t.Error("the restart")
	}
	fails(t, w, step(api.StepRestart, 0), api.ErrTwice)
	// A crash that keeps a record which was not answered: it is found.
	do(t, w, crash(0, 2, 1))
	if e := w.Do(fed(0, mail("g", "y", "c@n.example"))); e != api.ErrOff {
		t.Error(e)
	}
	same(t, "events", len(w.Events()), 1)
	if strings.HasSuffix(string(w.Replies(0)), "354 ok\r\n250 ok\r\n") {
		t.Error("the mail was answered")
	}
	do(t, w, step(api.StepRestart, 0))
	same(t, "events", len(w.Events()), 2)
	same(t, "the found one", w.Events()[1].To.Local, "c")
	same(t, "items", len(w.Site(0).Spool().Items), 2)
	// A crash that keeps nothing.
	do(t, w, crash(0, 1, 0))
	w.Do(fed(0, mail("g", "z", "c@n.example")))
	do(t, w, step(api.StepRestart, 0))
	same(t, "events", len(w.Events()), 2)
	// A restart that crashes: the site before remains, and is down.
	do(t, w, crash(0, 2, 1))
	w.Do(fed(0, mail("h", "z", "c@n.example")))
	do(t, w, crash(0, 1, 0))
	down := w.Site(0)
	fails(t, w, step(api.StepRestart, 0), api.ErrOff)
	if w.Site(0) != down || !down.Down() {
		t.Error("the failed restart")
	}
	do(t, w, step(api.StepRestart, 0))
	same(t, "events", len(w.Events()), 3)
	// The clock, the replies and the letters stay.
	do(t, w, step(api.StepTick, 1), crash(1, 0, 0), step(api.StepRestart, 1))
	same(t, "clock", w.Clock(1), 1)
	if len(w.Replies(0)) == 0 {
		t.Error("the replies are gone")
	}
}

func TestLinkAndHang(t *testing.T) {
	w := start(t, config())
	do(t, w, fed(0, mail("f", "x", "b@s.example")+"MAIL FROM:<>\r\n"), step(api.StepTick, 0), letter(api.StepDeliver, 0), letter(api.StepDeliver, 0), step(api.StepTick, 0))
	if send, _ := w.Site(0).Sending(); !send.Ready || send.Next == 0 {
		t.Error(show(send))
	}
	do(t, w, step(api.StepLink, 1))
	if e := w.Do(letter(api.StepDeliver, 0)); e != api.ErrPlace {
		t.Error(e)
	}
	do(t, w, step(api.StepLink, 0))
	if send, ok := w.Site(0).Sending(); !ok || send.Ready || send.Next != 0 || send.Wait != 0 {
		t.Error(show(send))
	}
	hang := func(s string) api.Step { return api.Step{Kind: api.StepHang, Challenge: s} }
	for _, s := range []string{strings.Repeat("x", 101), "\x1f", "\x7f", "ä", "x\r\n"} {
		gate := show(w.Site(0).Gate())
		fails(t, w, hang(s), api.ErrArg)
		same(t, "gate", show(w.Site(0).Gate()), gate)
	}
	for _, s := range []string{"", " ", "<1@b>", strings.Repeat("~", 100)} {
		do(t, w, hang(s))
		same(t, "gate", w.Site(0).Gate(), gate.New(s))
	}
	// A site that is down can be hung up, too.
	do(t, w, crash(0, 0, 0), hang("<2@b>"), step(api.StepLink, 0))
	same(t, "gate", w.Site(0).Gate(), gate.New("<2@b>"))
}

func TestOwnMemory(t *testing.T) {
	w := start(t, config())
	x := fed(0, mail("f", "x", "a@n.example", "b@s.example")+"NOO")
	do(t, w, x, step(api.StepTick, 0), letter(api.StepCopy, 0))
	before := show(w.Letters()) + show(w.Events()) + string(w.Replies(0)) + show(w.Site(0).Gate())
	for i := range x.Bytes {
		x.Bytes[i] = 0
	}
	l, v, r := w.Letters(), w.Events(), w.Replies(0)
	l[0].Body[0], l[1].Body[1], v[0].Body[0], r[0] = 99, 99, 99, 99
	l[0].To, v[0].Site = 9, 9
	if show(w.Letters())+show(w.Events())+string(w.Replies(0))+show(w.Site(0).Gate()) != before {
		t.Error("memory is shared")
	}
	do(t, w, api.Step{Kind: api.StepSpoil, N: 1, Bits: 65535})
	if bytes.Equal(w.Letters()[0].Body, w.Letters()[1].Body) {
		t.Error("letters share memory")
	}
}

// TestExample is the example of the chapter.
func TestExample(t *testing.T) {
	w := start(t, config())
	do(t, w, fed(0, mail("f", "x", "b@s.example")))
	for range 10 {
		do(t, w, step(api.StepTick, 0), step(api.StepTick, 1))
		for len(w.Letters()) > 0 {
			w.Do(letter(api.StepDeliver, 0))
		}
	}
	if l := w.Events(); len(l) != 1 || l[0].Site != 1 || l[0].Kind != api.EventMail || l[0].To.Local != "b" {
		t.Error(show(l))
	}
}
