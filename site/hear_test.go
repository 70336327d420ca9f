package site_test

import (
	"strings"
	"testing"

	"wherry/api"
	"wherry/bundle"
	"wherry/diary"
	"wherry/frame"
	"wherry/shrink"
	"wherry/site"
	"wherry/spool"
)

func bytesOf(t *testing.T, f api.Frame) []byte {
	t.Helper()
	b, e := frame.Bytes(f)
	if e != api.OK {
		t.Fatal(e)
	}
	return b
}

func hear(t *testing.T, s *site.Site, f api.Frame) ([]api.Frame, []api.Event) {
	t.Helper()
	frames, events, e := s.Hear(bytesOf(t, f))
	if e != api.OK {
		t.Fatal(e)
	}
	return frames, events
}

func refused(t *testing.T, s *site.Site, f api.Frame, want api.Errno) {
	t.Helper()
	if frames, events, e := s.Hear(bytesOf(t, f)); len(frames) != 0 || len(events) != 0 || e != want {
		t.Error(show(f), show(frames), events, e)
	}
}

func chunksOf(number int, data []byte) []api.Frame {
	var l []api.Frame
	for at := 0; at < len(data); at += 48 {
		l = append(l, api.Frame{Kind: api.FrameChunk, Number: number, Offset: at, Seq: at / 48 % 8, Data: data[at:min(at+48, len(data))]})
	}
	return l
}

func ready(number, offset int) api.Frame {
	return api.Frame{Kind: api.FrameReady, Number: number, Offset: offset}
}

func ack(number, seq int) api.Frame {
	return api.Frame{Kind: api.FrameAck, Number: number, Seq: seq}
}

func done(number int) api.Frame { return api.Frame{Kind: api.FrameDone, Number: number} }

func TestHearErrors(t *testing.T) {
	s, _ := fresh(t, config())
	spoilt := frame.Spoil(bytesOf(t, done(1)), 3, 1)
	for k, c := range []struct {
		b []byte
		e api.Errno
	}{{nil, api.ErrBytes}, {make([]byte, 58), api.ErrBytes}, {spoilt, api.ErrSum}, {make([]byte, 9), api.ErrSum}, {bytesOf(t, done(1))[:8], api.ErrBytes}} {
		if frames, events, e := s.Hear(c.b); len(frames) != 0 || len(events) != 0 || e != c.e {
			t.Error(k, frames, events, e)
		}
	}
	// There is neither a transfer nor an announced bundle.
	for _, f := range []api.Frame{ready(1, 0), ack(1, 1), done(1), {Kind: api.FrameHello, Number: 1}, {Kind: api.FrameChunk, Number: 1, Data: []byte("x")}} {
		refused(t, s, f, api.ErrPlace)
	}
}

func TestHearBundle(t *testing.T) {
	mails := []api.Mail{packed("1\r\n", near, box("c", "N.example")), {From: null, To: []api.Path{box("d", "other")}, Body: []byte(strings.Repeat("never the same \x01\x02\x03\r\n", 4))}}
	data := dataOf(t, 1, 7, mails...)
	s, d := fresh(t, config())
	frames, events := hear(t, s, hello(7, data))
	same(t, "frames", frames, []api.Frame{ready(7, 0)})
	same(t, "events", events, []api.Event(nil))
	same(t, "records", d.Len(), 0)
	chunks := chunksOf(7, data)
	if len(chunks) < 3 {
		t.Fatal(len(chunks))
	}
	for k, f := range chunks {
		frames, events := hear(t, s, f)
		want := []api.Frame{ack(7, (k+1)%8)}
		var happened []api.Event
		if k == len(chunks)-1 {
			want = append(want, done(7))
			for _, m := range mails {
				for _, p := range m.To {
					happened = append(happened, handed(0, m.From, p, string(m.Body)))
				}
			}
			same(t, "the last record", recs(t, d)[d.Len()-1], api.Rec{Kind: api.RecDone, Number: 7})
		} else {
			same(t, "the last record", recs(t, d)[d.Len()-1], api.Rec{Kind: api.RecChunk, Number: 7, Offset: f.Offset, Data: f.Data})
			// A piece that comes twice is answered, and not written.
			before := d.Len()
			frames, _ := hear(t, s, f)
			same(t, "frames", frames, want)
			same(t, "records", d.Len(), before)
		}
		same(t, "frames", frames, want)
		same(t, "events", events, happened)
		same(t, "safe", d.Safe(), d.Len())
	}
	same(t, "spool", s.Spool(), api.Spool{Of: -1, Done: []int{7}})
	// What is done is told again, and not handed on again.
	for _, f := range append(chunks, hello(7, data)) {
		frames, events := hear(t, s, f)
		same(t, "frames", frames, []api.Frame{done(7)})
		same(t, "events", events, []api.Event(nil))
	}
	same(t, "records", d.Len(), len(chunks)+1)
}

// TestHearOtherBundles has bundles that come whole, but are not handed on.
func TestHearOtherBundles(t *testing.T) {
	plain, _ := shrink.Shrink([]byte("no bundle"))
	small := packed("1\r\n", near)
	text, _ := bundle.Bytes(api.Bundle{Origin: 1, Number: 7, Mails: []api.Mail{small}})
	cut, _ := shrink.Shrink(text[:len(text)-1])
	for k, c := range []struct {
		number int
		data   []byte
		events int
	}{
		{7, dataOf(t, 1, 7, small), 1}, {7, dataOf(t, 0, 7, small), 0}, {8, dataOf(t, 1, 7, small), 0}, {7, plain, 0}, {7, []byte("nothing that grows"), 0}, {7, cut, 0}, {7, text, 0},
	} {
		s, d := fresh(t, config())
		hear(t, s, hello(c.number, c.data))
		var got []api.Event
		var out []api.Frame
		for _, f := range chunksOf(c.number, c.data) {
			frames, events := hear(t, s, f)
			got, out = append(got, events...), frames
		}
		if len(got) != c.events || len(out) != 2 || out[1].Kind != api.FrameDone || out[1].Number != c.number {
			t.Error(k, show(got), show(out))
		}
		same(t, "done", recs(t, d)[d.Len()-1], api.Rec{Kind: api.RecDone, Number: c.number})
	}
}

// TestHearResumes has a crash, and then an announcement that is answered by what is there.
func TestHearResumes(t *testing.T) {
	data := dataOf(t, 1, 7, packed(strings.Repeat("abc\x00\x01\x02defghijklmnopqrstuvwxyz\r\n", 5), near))
	chunks := chunksOf(7, data)
	s, d := fresh(t, config())
	hear(t, s, hello(7, data))
	hear(t, s, chunks[0])
	d.Crash(0)
	d.Start()
	s = start(t, 0, config(), d)
	refused(t, s, chunks[1], api.ErrPlace)
	frames, _ := hear(t, s, hello(7, data))
	same(t, "frames", frames, []api.Frame{ready(7, 48)})
	frames, _ = hear(t, s, chunks[1])
	same(t, "frames", frames[:1], []api.Frame{ack(7, 2)})
	// A new connection forgets what was announced, and keeps what has come.
	s.Link()
	refused(t, s, chunks[1], api.ErrPlace)
	frames, _ = hear(t, s, hello(7, data))
	if frames[0].Offset != min(96, len(data)) {
		t.Error(show(frames))
	}
	refused(t, s, api.Frame{Kind: api.FrameHello, Number: 7, Offset: 1}, api.ErrPlace)
	refused(t, s, api.Frame{Kind: api.FrameHello, Number: 7}, api.ErrPlace)
}

// TestHearWholeAtOnce has all bytes of a bundle, but no record that it is done, when it is announced.
func TestHearWholeAtOnce(t *testing.T) {
	data := dataOf(t, 1, 7, packed("1\r\n", near))
	var l []api.Rec
	for _, f := range chunksOf(7, data) {
		l = append(l, api.Rec{Kind: api.RecChunk, Number: 7, Offset: f.Offset, Data: f.Data})
	}
	d := log(t, 20000, l...)
	s := start(t, 0, config(), d)
	frames, events := hear(t, s, hello(7, data))
	same(t, "frames", frames, []api.Frame{ready(7, len(data)), done(7)})
	same(t, "events", events, []api.Event{handed(0, fx, near, "1\r\n")})
	// The same if the crash kept the record that it is done.
	d = log(t, 20000, l...)
	d.Put(api.Rec{Kind: api.RecDone, Number: 7})
	d.Crash(1)
	d.Start()
	s = start(t, 0, config(), d)
	same(t, "found", s.Found(), []api.Event{handed(0, fx, near, "1\r\n")})
	frames, events = hear(t, s, hello(7, data))
	same(t, "frames", frames, []api.Frame{done(7)})
	same(t, "events", events, []api.Event(nil))
}

// threePieces is a body whose bundle takes three pieces.
const threePieces = "quick brown foxes jump over it\r\n"

// TestHearFull has no room for a record.
func TestHearFull(t *testing.T) {
	data := dataOf(t, 1, 7, packed(threePieces, near))
	chunks := chunksOf(7, data)
	if len(chunks) != 3 {
		t.Fatal(len(chunks))
	}
	used := 3*104 + len(data)
	for _, c := range []struct{ limit, recs int }{{103, 0}, {151, 0}, {152, 1}, {used - 1, 2}, {used, 3}, {used + 103, 3}, {used + 104, 4}} {
		conf := config()
		conf.Log = c.limit
		s, d := fresh(t, conf)
		hear(t, s, hello(7, data))
		for k, f := range chunks[:min(c.recs+1, 3)] {
			frames, events, e := s.Hear(bytesOf(t, f))
			switch {
			case k >= c.recs:
				if len(frames) != 0 || len(events) != 0 || e != api.ErrFull {
					t.Error(c.limit, k, frames, events, e)
				}
			case k == 2 && c.recs == 3:
				// The piece is there, but not that the bundle is done.
				if show(frames) != show([]api.Frame{ack(7, 3)}) || len(events) != 0 || e != api.ErrFull {
					t.Error(c.limit, k, show(frames), events, e)
				}
			case e != api.OK:
				t.Error(c.limit, k, e)
			}
		}
		same(t, "records", d.Len(), c.recs)
	}
}

// TestHearDoneLater has a bundle for whose last record there is room only later, when one of its frames comes again.
func TestHearDoneLater(t *testing.T) {
	data := dataOf(t, 1, 7, packed(threePieces, near))
	conf := config()
	conf.Log = 104 + 3*104 + len(data)
	d := log(t, conf.Log, api.Rec{Kind: api.RecDone, Number: 6})
	s := start(t, 0, conf, d)
	hear(t, s, hello(7, data))
	chunks := chunksOf(7, data)
	for k, f := range chunks {
		_, _, e := s.Hear(bytesOf(t, f))
		same(t, "error", e, []api.Errno{api.OK, api.OK, api.ErrFull}[k])
	}
	frames, events, e := s.Hear(bytesOf(t, chunks[0]))
	if len(frames) != 0 || len(events) != 0 || e != api.ErrFull {
		t.Error(frames, events, e)
	}
	l := recs(t, d)
	// The pieces make room as one.
	d.Renew(append(l[:1:1], l[3]))
	frames, events = hear(t, s, chunks[0])
	same(t, "frames", frames, []api.Frame{done(7)})
	same(t, "events", events, []api.Event{handed(0, fx, near, threePieces)})
	same(t, "done", s.Spool().Done, []int{6, 7})
}

// TestHearCrash has a crash at each call while a bundle of one piece comes in.
func TestHearCrash(t *testing.T) {
	data := []byte("nothing that grows")
	for n := 1; n <= 5; n++ {
		for keep := range 2 {
			s, d := fresh(t, config())
			hear(t, s, hello(7, data))
			d.Trip(n, keep)
			frames, events, e := s.Hear(bytesOf(t, chunksOf(7, data)[0]))
			want := []api.Frame{ack(7, 1), done(7)}[:(n-1)/2]
			wantE := api.ErrOff
			if n == 5 {
				wantE = api.OK
			}
			if show(frames) != show(want) || len(events) != 0 || e != wantE {
				t.Error(n, keep, show(frames), events, e)
			}
			if n < 5 {
				same(t, "records", len(recs(t, d)), (n-1)/2+keep)
			}
		}
	}
	// The announced bundle stays as it was if the record of a piece is not written.
	s, d := fresh(t, config())
	hear(t, s, hello(7, data))
	d.Trip(1, 1)
	s.Hear(bytesOf(t, chunksOf(7, data)[0]))
	same(t, "spool", s.Spool(), spool.New())
}

func sendingSite(t *testing.T) (*site.Site, *diary.Diary, api.Send) {
	t.Helper()
	s, d := fresh(t, config())
	var body strings.Builder
	for i := range 400 {
		body.WriteString(string(rune('a' + i*i%25)))
		body.WriteString(string(rune('A' + i*7%26)))
	}
	feed(t, s, 3, script(body.String()+"\r\n", "<b@s.example>"))
	tick(t, s, 4)
	send, ok := s.Sending()
	if !ok || len(send.Data) < 10*48 {
		t.Fatal(len(send.Data))
	}
	return s, d, send
}

func TestHearProgress(t *testing.T) {
	s, d, send := sendingSite(t)
	refused(t, s, ack(1, 1), api.ErrPlace)
	refused(t, s, ready(2, 0), api.ErrPlace)
	refused(t, s, ready(1, 5), api.ErrPlace)
	frames, events := hear(t, s, ready(1, 96))
	same(t, "frames and events", len(frames)+len(events), 0)
	now, _ := s.Sending()
	send.Ready, send.Base, send.Next, send.Wait = true, 2, 2, 0
	same(t, "send", now, send)
	frames, _ = tick(t, s, 5)
	same(t, "frames", frames, chunksOf(1, send.Data)[2:9])
	hear(t, s, ack(1, 4))
	now, _ = s.Sending()
	send.Base, send.Next, send.Wait = 4, 9, 3
	same(t, "send", now, send)
	// A new connection begins anew.
	s.Link()
	now, ok := s.Sending()
	send.Ready, send.Base, send.Next, send.Wait = false, 0, 0, 0
	same(t, "send", now, send)
	same(t, "records", kinds(t, d), "mail pack ")
	if !ok {
		t.Error("nothing is sent")
	}
}

func TestHearDone(t *testing.T) {
	s, d, send := sendingSite(t)
	refused(t, s, done(2), api.ErrPlace)
	frames, events := hear(t, s, done(1))
	same(t, "frames and events", len(frames)+len(events), 0)
	same(t, "records", recs(t, d)[2:], []api.Rec{{Kind: api.RecSent, Number: 1}})
	same(t, "safe", d.Safe(), 3)
	now, ok := s.Sending()
	send.Over = true
	same(t, "send", now, send)
	if !ok || s.Spool().Items[0].State != api.Gone {
		t.Error(show(s.Spool()))
	}
	for _, f := range []api.Frame{done(1), ready(1, 0), ack(1, 1)} {
		refused(t, s, f, api.ErrPlace)
	}
	same(t, "records", d.Len(), 3)
	s.Link()
	if now, ok := s.Sending(); !ok || !now.Over {
		t.Error(show(now))
	}
	tick(t, s, 6)
	idle(t, s)
	refused(t, s, done(1), api.ErrPlace)
	// Without room for the record, or with a crash, the transfer is not over.
	s, d, send = sendingSite(t)
	d.Trip(2, 0)
	refused(t, s, done(1), api.ErrOff)
	if now, ok := s.Sending(); !ok || now.Over || s.Spool().Items[0].State != api.Packed {
		t.Error(show(now))
	}
	d.Start()
	same(t, "records", kinds(t, d), "mail pack ")
	c := config()
	c.Log = 186 + 112 + 103
	d = log(t, c.Log, recMail(1, mail("", far), 1))
	s = start(t, 0, c, d)
	tick(t, s, 4)
	refused(t, s, done(1), api.ErrFull)
	if now, ok := s.Sending(); !ok || now.Over {
		t.Error(show(now))
	}
}

// TestTwoSites is the example of the chapter, and goes on to the end.
func TestTwoSites(t *testing.T) {
	north, _ := fresh(t, config())
	south := start(t, 1, config(), log(t, 20000))
	feed(t, north, 3, script(strings.Repeat("some text\r\n", 30), "<a@n.example>", "<b@s.example>"))
	var got []api.Event
	frames, _ := tick(t, north, 4)
	if len(frames) != 1 || frames[0].Kind != api.FrameHello {
		t.Error(show(frames))
	}
	for at := 5; at < 30; at++ {
		for len(frames) > 0 {
			var back []api.Frame
			for _, f := range frames {
				out, events := hear(t, south, f)
				back, got = append(back, out...), append(got, events...)
			}
			frames = nil
			for _, f := range back {
				// After the bundle is done, what else is answered comes too late.
				north.Hear(bytesOf(t, f))
			}
		}
		frames, _ = tick(t, north, at)
	}
	same(t, "events", got, []api.Event{handed(1, fx, far, stampN+strings.Repeat("some text\r\n", 30))})
	same(t, "items", north.Spool().Items[0].State, api.Gone)
	idle(t, north)
}
