package site_test

import (
	"strings"
	"testing"

	"wherry/api"
	"wherry/cram"
)

func answer(challenge string) string { return cram.Answer("user", "secret", challenge) }

const stampN = "Received: from me by n.example with ESMTP; 3\r\n"

func TestFeedMail(t *testing.T) {
	s, d := fresh(t, config())
	replies, events, e := s.Feed(3, []byte(script("x\r\n", "<a@n.example>", "<b@S.example> NOTIFY=NEVER", "<c@N.example>")))
	if e != api.OK || string(replies) != "250 ok\r\n250 ok\r\n250 ok\r\n250 ok\r\n250 ok\r\n354 ok\r\n250 ok\r\n" {
		t.Errorf("%q %v", replies, e)
	}
	same(t, "events", events, []api.Event{handed(0, fx, near, stampN+"x\r\n"), handed(0, fx, box("c", "N.example"), stampN+"x\r\n")})
	m := mail(stampN+"x\r\n", near, box("b", "S.example"), box("c", "N.example"))
	m.Quiet = true
	same(t, "records", recs(t, d), []api.Rec{recMail(1, m, 1)})
	same(t, "safe", d.Safe(), 1)
	same(t, "items", s.Spool().Items, []api.Item{{Id: 1, Mail: m, State: api.Waiting}})
	replies, events, e = s.Feed(3, []byte("MAIL FROM:<>\r\nRCPT TO:<a@n.example>\r\nDATA\r\n.\r\nMAIL FROM:<f@x>\r\nRCPT TO:<b@s.example>\r\nDATA\r\n.\r\nx\r\nQU"))
	if e != api.OK || string(replies) != "250 ok\r\n250 ok\r\n354 ok\r\n250 ok\r\n250 ok\r\n250 ok\r\n354 ok\r\n250 ok\r\n500 no\r\n" {
		t.Errorf("%q %v", replies, e)
	}
	same(t, "events", events, []api.Event{handed(0, null, near, stampN)})
	l := recs(t, d)
	if len(l) != 3 || l[1].Id != 2 || l[1].Origin != 0 || l[2].Id != 3 || l[2].Origin != 1 || s.Spool().Items[1].State != api.Gone {
		t.Error(show(l))
	}
	same(t, "buffer", string(s.Gate().Buf), "QU")
	// The other way round at the other site.
	d = log(t, 20000)
	s = start(t, 1, config(), d)
	_, events, _ = s.Feed(3, []byte(script("x\r\n", "<a@n.example>", "<b@s.example>")))
	same(t, "events", events, []api.Event{handed(1, fx, far, strings.Replace(stampN, "n.", "s.", 1)+"x\r\n")})
	same(t, "origin", recs(t, d)[0].Origin, 1)
}

func TestFeedErrors(t *testing.T) {
	s, _ := fresh(t, config())
	before := show(s.Gate())
	for _, at := range []int{-1, 1<<40 + 1} {
		if r, v, e := s.Feed(at, []byte("EHLO me\r\n")); len(r) != 0 || len(v) != 0 || e != api.ErrArg || show(s.Gate()) != before {
			t.Error(r, v, e)
		}
	}
	if r, v, e := s.Feed(1<<40, nil); len(r) != 0 || len(v) != 0 || e != api.OK {
		t.Error(r, v, e)
	}
}

// TestFeedFull has a diary that has room for one mail of two.
func TestFeedFull(t *testing.T) {
	c := config()
	c.Log = 800
	s, d := fresh(t, c)
	d.Trip(6, 0)
	b := script(strings.Repeat("x", 198)+"\r\n", "<b@s.example>", "<a@n.example>")
	for _, codes := range []string{"250 250 250 250 354 250", "250 250 250 250 354 452"} {
		replies, events, e := s.Feed(3, []byte(b))
		want := ""
		for code := range strings.FieldsSeq(codes) {
			want += code + map[bool]string{true: " ok\r\n", false: " no\r\n"}[code < "400"]
		}
		if string(replies) != want || e != api.OK || (len(events) == 1) != strings.HasSuffix(codes, "250") {
			t.Errorf("%q %v %v", replies, events, e)
		}
	}
	same(t, "codes of a small one after a great one", feed(t, s, 3, b+"MAIL FROM:<>\r\nRCPT TO:<a@n.example>\r\nDATA\r\n.\r\n"), "250 250 250 250 354 452 250 250 354 250")
	same(t, "records", kinds(t, d), "mail mail ")
	same(t, "items", len(s.Spool().Items), 2)
	// Two calls for each mail that was kept, and none for the others.
	same(t, "the fifth call", d.Sync(), api.OK)
	same(t, "the sixth call", d.Sync(), api.ErrOff)
}

func TestFeedMostMails(t *testing.T) {
	var l []api.Rec
	for i := range 59 {
		l = append(l, recMail(i+1, mail("", near), 0))
	}
	c := config()
	c.Log = api.MaxLog
	d := log(t, c.Log, l...)
	s := start(t, 0, c, d)
	d.Trip(3, 0)
	two := script("", "<a@n.example>") + script("", "<b@s.example>")
	same(t, "codes", feed(t, s, 3, two), "250 250 250 354 250 250 250 250 354 452")
	same(t, "records", d.Len(), 60)
	same(t, "the third call", d.Sync(), api.ErrOff)
}

// TestFeedCrash has a crash at each call while two mails are written.
func TestFeedCrash(t *testing.T) {
	first, second := script("x\r\n", "<a@n.example>"), "MAIL FROM:<>\r\nRCPT TO:<a@n.example>\r\nDATA\r\n.\r\nQUIT\r\n"
	for _, c := range []struct {
		n, keep  int
		codes    string
		events   int
		recs     int
		restarts int
	}{
		{1, 0, "250 250 250 354", 0, 0, 0}, {1, 1, "250 250 250 354", 0, 1, 1}, {2, 0, "250 250 250 354", 0, 0, 0}, {2, 1, "250 250 250 354", 0, 1, 1}, {3, 0, "250 250 250 354 250 250 250 354", 1, 1, 0}, {3, 1, "250 250 250 354 250 250 250 354", 1, 2, 1}, {4, 0, "250 250 250 354 250 250 250 354", 1, 1, 0}, {4, 9, "250 250 250 354 250 250 250 354", 1, 2, 1},
	} {
		s, d := fresh(t, config())
		d.Trip(c.n, c.keep)
		replies, events, e := s.Feed(3, []byte(first+second))
		codes := ""
		for l := range strings.Lines(string(replies)) {
			codes += l[:4]
		}
		if strings.TrimSpace(codes) != c.codes || len(events) != c.events || e != api.ErrOff || !s.Down() {
			t.Error(show(c), codes, len(events), e)
		}
		// The session is the one after all bytes.
		if g := s.Gate(); g.Phase != api.PhaseOver || len(g.Buf) != 0 || len(s.Spool().Items) != c.events {
			t.Error(show(c), show(g))
		}
		d.Start()
		if again := start(t, 0, config(), d); len(again.Found()) != c.restarts || len(again.Spool().Items) != c.recs {
			t.Error(show(c), show(again.Found()))
		}
	}
}

// TestFeedAsks has sessions that release the queue, and one that does not (T5).
func TestFeedAsks(t *testing.T) {
	for _, c := range []struct {
		s       string
		release bool
	}{
		{"ETRN s.example\r\n", true}, {"ETRN S.EXAMPLE\r\n", true}, {"ETRN n.example\r\n", false}, {"ETRN x\r\n", false}, {"ATRN\r\n", false}, {"ATRN s.example\r\n", false}, {"NOOP\r\nRSET\r\nVRFY s.example\r\n", false}, {"AUTH CRAM-MD5\r\nwrong\r\nATRN\r\n", false}, {"ETRN s.example\r\nQUIT\r\n", true}, {"AUTH CRAM-MD5\r\n" + answer("") + "\r\n", false}, {"AUTH CRAM-MD5\r\n" + answer("") + "\r\nATRN\r\n", true}, {"AUTH CRAM-MD5\r\n" + answer("") + "\r\nATRN s.example\r\n", true}, {"AUTH CRAM-MD5\r\n" + answer("") + "\r\nATRN n.example\r\n", false},
	} {
		s, d := fresh(t, held())
		feed(t, s, 3, script("x\r\n", "<b@s.example>")+c.s)
		frames, _, e := s.Tick(4)
		if _, ok := s.Sending(); e != api.OK || ok != c.release || (len(frames) == 1) != c.release {
			t.Error(c.s, frames, e)
		}
		same(t, c.s, kinds(t, d), map[bool]string{true: "mail pack ", false: "mail "}[c.release])
	}
}

// TestOwnRecords changes what came out of Feed.
func TestOwnRecords(t *testing.T) {
	s, d := fresh(t, config())
	b := []byte(script("x\r\n", "<a@n.example>", "<a@n.example>"))
	_, events, _ := s.Feed(3, b)
	events[0].Body[0] = 0
	if events[1].Body[0] == 0 || s.Spool().Items[0].Mail.Body[0] == 0 || recs(t, d)[0].Mail.Body[0] == 0 {
		t.Error("memory is shared")
	}
}
