package site_test

import (
	"fmt"
	"math"
	"strings"
	"testing"

	"wherry/api"
	"wherry/diary"
	"wherry/gate"
	"wherry/report"
	"wherry/site"
	"wherry/spool"
)

func config() api.Config {
	return api.Config{Domains: [2]string{"n.example", "s.example"}, Expiry: 10, User: "user", Secret: "secret", Log: 20000}
}

func held() api.Config {
	c := config()
	c.Held = true
	return c
}

func show(v any) string { return fmt.Sprintf("%+v", v) }

func box(local, domain string) api.Path { return api.Path{Local: local, Domain: domain} }

var (
	fx   = box("f", "x")
	near = box("a", "n.example") // at site 0
	far  = box("b", "s.example") // at site 1
	null = api.Path{Null: true}
)

func log(t *testing.T, limit int, recs ...api.Rec) *diary.Diary {
	t.Helper()
	d, e := diary.New(limit)
	if e != api.OK || d.Renew(recs) != api.OK {
		t.Fatal(e)
	}
	return d
}

func start(t *testing.T, i int, c api.Config, d *diary.Diary) *site.Site {
	t.Helper()
	s, e := site.New(i, c, d)
	if e != api.OK || s == nil {
		t.Fatal(e)
	}
	return s
}

// fresh gives site 0 without records, and its diary.
func fresh(t *testing.T, c api.Config) (*site.Site, *diary.Diary) {
	t.Helper()
	d := log(t, c.Log)
	return start(t, 0, c, d), d
}

func recs(t *testing.T, d *diary.Diary) []api.Rec {
	t.Helper()
	d.Start()
	l, e := d.Read()
	if e != api.OK {
		t.Fatal(e)
	}
	return l
}

func kinds(t *testing.T, d *diary.Diary) string {
	t.Helper()
	s := ""
	for _, r := range recs(t, d) {
		s += []string{"?", "mail ", "pack ", "sent ", "bounce ", "chunk ", "done "}[r.Kind]
	}
	return s
}

func mail(body string, to ...api.Path) api.Mail {
	return api.Mail{From: fx, To: to, Body: []byte(body), Helo: "me", At: 3}
}

func recMail(id int, m api.Mail, origin int) api.Rec {
	return api.Rec{Kind: api.RecMail, Id: id, Mail: m, Origin: origin}
}

func handed(i int, from, to api.Path, body string) api.Event {
	return api.Event{Kind: api.EventMail, Site: i, From: from, To: to, Body: []byte(body)}
}

func bounced(t *testing.T, i int, from, to api.Path) api.Event {
	t.Helper()
	b, e := report.Build(config().Domains[i], from, to)
	if e != api.OK {
		t.Fatal(e)
	}
	return api.Event{Kind: api.EventBounce, Site: i, To: from, Body: b}
}

func same(t *testing.T, name string, got, want any) {
	t.Helper()
	if show(got) != show(want) {
		t.Errorf("%s:\n%v\nnot\n%v", name, show(got), show(want))
	}
}

// script gives the lines of a session with one mail.
func script(body string, to ...string) string {
	s := "EHLO me\r\nMAIL FROM:<f@x>\r\n"
	for _, p := range to {
		s += "RCPT TO:" + p + "\r\n"
	}
	return s + "DATA\r\n" + body + ".\r\n"
}

func feed(t *testing.T, s *site.Site, at int, b string) string {
	t.Helper()
	replies, _, e := s.Feed(at, []byte(b))
	if e != api.OK {
		t.Fatal(e)
	}
	codes := ""
	for l := range strings.Lines(string(replies)) {
		codes += l[:4]
	}
	return strings.TrimSpace(codes)
}

func TestNewErrors(t *testing.T) {
	bad := config()
	bad.Expiry = 0
	off := log(t, 1000)
	off.Crash(0)
	for k, c := range []struct {
		i int
		c api.Config
		d *diary.Diary
		e api.Errno
	}{
		{0, bad, log(t, 1000), api.ErrArg}, {0, bad, off, api.ErrArg}, {2, config(), log(t, 1000), api.ErrArg}, {-1, config(), off, api.ErrArg}, {math.MaxInt, config(), off, api.ErrArg}, {0, config(), nil, api.ErrArg}, {0, config(), off, api.ErrOff}, {1, config(), off, api.ErrOff},
	} {
		if s, e := site.New(c.i, c.c, c.d); s != nil || e != c.e {
			t.Error(k, s, e)
		}
	}
}

func TestNewSite(t *testing.T) {
	s, _ := fresh(t, config())
	same(t, "spool", s.Spool(), spool.New())
	same(t, "gate", s.Gate(), gate.New(""))
	same(t, "found", s.Found(), []api.Event(nil))
	if send, ok := s.Sending(); ok || show(send) != show(api.Send{}) || s.Down() {
		t.Error(send, ok)
	}
	l := []api.Rec{recMail(1, mail("x\r\n", far), 1), recMail(2, mail("x\r\n", near), 0), {Kind: api.RecBounce, Id: 1}, {Kind: api.RecChunk, Number: 4, Data: []byte("data")}}
	d := log(t, 20000, l...)
	s = start(t, 1, config(), d)
	want, _ := spool.Fold(l)
	same(t, "spool", s.Spool(), want)
	same(t, "found", s.Found(), []api.Event(nil))
	same(t, "records", recs(t, d), l)
}

// TestNewCutsOff has a diary with a record that is not valid.
func TestNewCutsOff(t *testing.T) {
	good := []api.Rec{recMail(1, mail("x\r\n", far, near), 1), {Kind: api.RecBounce, Id: 1}}
	d := log(t, 20000, good[0])
	d.Put(good[1])
	d.Put(api.Rec{Kind: api.RecBounce, Id: 1})
	d.Put(api.Rec{Kind: api.RecDone, Number: 1})
	d.Crash(9)
	d.Start()
	d.Trip(1, 9)
	if s, e := site.New(0, config(), d); s != nil || e != api.ErrOff {
		t.Error(s, e)
	}
	d.Start()
	same(t, "kept", d.Kept(), 3)
	same(t, "length", d.Len(), 4)
	// Renew is the one call that is needed.
	d.Trip(2, 9)
	s := start(t, 0, config(), d)
	same(t, "found", s.Found(), []api.Event(nil))
	same(t, "kept", d.Kept(), 0)
	same(t, "records", recs(t, d), good)
	same(t, "safe", d.Safe(), 2)
	state, _ := spool.Fold(good)
	same(t, "spool", s.Spool(), state)
	same(t, "the second call", d.Sync(), api.ErrOff)
	// The same with records that are all synced.
	d = log(t, 20000, good[0], api.Rec{}, good[1])
	d.Trip(1, 9)
	if s, e := site.New(0, config(), d); s != nil || e != api.ErrOff {
		t.Error(s, e)
	}
	d.Start()
	s = start(t, 0, config(), d)
	same(t, "records", recs(t, d), good[:1])
	state, _ = spool.Fold(good[:1])
	same(t, "spool", s.Spool(), state)
}

// TestFound has records whose writing a crash broke off.
func TestFound(t *testing.T) {
	body := "Received: x\r\n"
	loud, quiet := mail(body, near, far, box("c", "S.Example")), mail(body, near, far)
	quiet.Quiet = true
	d := log(t, 20000, recMail(1, loud, 1))
	for _, r := range []api.Rec{recMail(2, quiet, 1), {Kind: api.RecPack, Number: 1, Ids: []int{2}}, {Kind: api.RecBounce, Id: 1}, recMail(3, mail(body, far), 1)} {
		d.Put(r)
	}
	d.Crash(3)
	d.Start()
	d.Trip(1, 9)
	if s, e := site.New(0, config(), d); s != nil || e != api.ErrOff {
		t.Error(s, e)
	}
	d.Start()
	same(t, "kept", d.Kept(), 3)
	d.Trip(2, 9)
	s := start(t, 0, config(), d)
	want := []api.Event{handed(0, fx, near, body), bounced(t, 0, fx, far), bounced(t, 0, fx, box("c", "S.Example"))}
	same(t, "found", s.Found(), want)
	s.Found()[0].Body[0] = 'X'
	same(t, "found again", s.Found(), want)
	same(t, "kept", d.Kept(), 0)
	same(t, "records", kinds(t, d), "mail mail pack bounce ")
	same(t, "the second call", d.Sync(), api.ErrOff)
	d.Start()
	// Starting twice is starting once.
	s = start(t, 0, config(), d)
	same(t, "found after a second start", s.Found(), []api.Event(nil))
	// Only what was kept last counts.
	d.Put(recMail(3, mail(body, near), 0))
	d.Put(recMail(4, mail("y\r\n", near), 0))
	d.Crash(1)
	d.Start()
	same(t, "found", start(t, 0, config(), d).Found(), []api.Event{handed(0, fx, near, body)})
	d.Put(recMail(4, mail("y\r\n", far), 1))
	d.Crash(1)
	d.Start()
	same(t, "found", start(t, 1, config(), d).Found(), []api.Event{handed(1, fx, far, "y\r\n")})
}

// TestFoundOneAfterTheOther has records whose events depend on the records that were kept before them.
func TestFoundOneAfterTheOther(t *testing.T) {
	data := dataOf(t, 1, 7, packed("1\r\n", near))
	d := log(t, 20000)
	l := []api.Rec{recMail(1, mail("x\r\n", far), 1), {Kind: api.RecBounce, Id: 1}}
	for _, f := range chunksOf(7, data) {
		l = append(l, api.Rec{Kind: api.RecChunk, Number: 7, Offset: f.Offset, Data: f.Data})
	}
	for _, r := range append(l, api.Rec{Kind: api.RecDone, Number: 7}) {
		d.Put(r)
	}
	d.Crash(99)
	d.Start()
	s := start(t, 0, config(), d)
	same(t, "found", s.Found(), []api.Event{bounced(t, 0, fx, far), handed(0, fx, near, "1\r\n")})
	same(t, "done", s.Spool().Done, []int{7})
}

func TestDown(t *testing.T) {
	s, d := fresh(t, config())
	feed(t, s, 3, script("x\r\n", "<b@s.example>")+"MAIL FROM:<g@x>\r\n")
	if _, _, e := s.Tick(4); e != api.OK {
		t.Fatal(e)
	}
	before := show(s.Spool()) + show(s.Gate())
	send, _ := s.Sending()
	for _, off := range []bool{true, false} {
		if off {
			d.Crash(0)
		} else {
			d.Start()
		}
		if !s.Down() {
			t.Error("it is up")
		}
		for range 2 {
			r, v, e := s.Feed(-1, []byte("NOOP\r\n"))
			if len(r) != 0 || len(v) != 0 || e != api.ErrOff {
				t.Error(r, v, e)
			}
			f, v, e := s.Tick(-1)
			if len(f) != 0 || len(v) != 0 || e != api.ErrOff {
				t.Error(f, v, e)
			}
			f, v, e = s.Hear(nil)
			if len(f) != 0 || len(v) != 0 || e != api.ErrOff {
				t.Error(f, v, e)
			}
		}
		if got, ok := s.Sending(); show(s.Spool())+show(s.Gate()) != before || !ok || show(got) != show(send) {
			t.Error("the state is gone")
		}
	}
	s.Hang("<1@b>")
	same(t, "gate", s.Gate(), gate.New("<1@b>"))
	s.Link()
	if !s.Down() || start(t, 0, config(), d).Down() {
		t.Error("down and up")
	}
}

func TestHang(t *testing.T) {
	s, _ := fresh(t, config())
	feed(t, s, 3, "EHLO me\r\nMAIL FROM:<f@x>\r\nRC")
	s.Hang("<1@b>")
	same(t, "gate", s.Gate(), gate.New("<1@b>"))
	s.Hang(strings.Repeat("x", 101))
	if r, v, e := s.Feed(3, []byte("NOOP\r\n")); len(r) != 0 || len(v) != 0 || e != api.ErrArg {
		t.Error(r, v, e)
	}
}

func TestOwnMemory(t *testing.T) {
	s, _ := fresh(t, config())
	feed(t, s, 3, script("x\r\n", "<b@s.example>")+"MAIL FROM:<g@x>\r\nRCPT TO:<a@n.example>\r\nRC")
	s.Tick(4)
	before := show(s.Spool()) + show(s.Gate())
	send, _ := s.Sending()
	told := show(send)
	sp, g := s.Spool(), s.Gate()
	sp.Items[0].Mail.Body[0], sp.Items[0].Mail.To[0].Local, sp.Items[0].State = 0, "spoilt", 99
	g.To[0].Local, g.Buf[0] = "spoilt", 0
	for i := range send.Data {
		send.Data[i] = 0
	}
	again, _ := s.Sending()
	if show(s.Spool())+show(s.Gate()) != before || show(again) != told {
		t.Error("memory is shared")
	}
}
