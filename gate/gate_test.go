package gate_test

import (
	"bytes"
	"encoding/base64"
	"fmt"
	"hash/crc32"
	"math"
	"math/rand"
	"slices"
	"strconv"
	"strings"
	"testing"

	"wherry/api"
	"wherry/cram"
	"wherry/gate"
)

func config() api.Config {
	return api.Config{Domains: [2]string{"north.example", "south.example"}, Expiry: 5, User: "user", Secret: "secret", Log: 5000}
}

func show(v any) string { return fmt.Sprintf("%+v", v) }

// talk is a session that goes on from call to call.
type talk struct {
	t    *testing.T
	site int
	at   int
	g    api.Gate
	outs []api.Out
}

func begin(t *testing.T, challenge string) *talk {
	return &talk{t: t, at: 7, g: gate.New(challenge)}
}

// feed feeds bytes, and gives the codes of the replies.
func (k *talk) feed(s string) string {
	k.t.Helper()
	g, outs, e := gate.Feed(config(), k.site, k.at, k.g, []byte(s))
	if e != api.OK {
		k.t.Fatal(e)
	}
	k.g, k.outs = g, outs
	var codes []string
	for _, o := range outs {
		codes = append(codes, strconv.Itoa(o.Reply.Code))
		text := "ok"
		if o.Reply.Code >= 400 {
			text = "no"
		}
		if o.Reply.Code == 334 {
			text = base64.StdEncoding.EncodeToString([]byte(g.Challenge))
		}
		if !slices.Equal(o.Reply.Lines, []string{text}) {
			k.t.Errorf("the reply to %q: %v", s, o.Reply)
		}
	}
	return strings.Join(codes, " ")
}

// say feeds lines one after the other, each followed by the code that is awaited.
func (k *talk) say(script ...string) {
	k.t.Helper()
	for i := 0; i < len(script); i += 2 {
		if got := k.feed(script[i] + "\r\n"); got != script[i+1] {
			k.t.Errorf("%q: %q, not %q", script[i], got, script[i+1])
		}
	}
}

// state checks the phase and what of a mail there is.
func (k *talk) state(phase int, from string, to int, quiet bool) {
	k.t.Helper()
	if k.g.Phase != phase || k.g.From.Local != from || len(k.g.To) != to || k.g.Quiet != quiet || len(k.g.Buf) != 0 {
		k.t.Error(show(k.g))
	}
}

func TestConfig(t *testing.T) {
	with := func(change func(c *api.Config)) api.Config {
		c := config()
		change(&c)
		return c
	}
	long := strings.Repeat("x", 64)
	for k, c := range []api.Config{
		config(), with(func(c *api.Config) { c.Expiry = 1 }), with(func(c *api.Config) { c.Expiry = 1 << 40 }), with(func(c *api.Config) { c.Log = 1 }), with(func(c *api.Config) { c.Log = 1 << 17 }), with(func(c *api.Config) { c.User, c.Secret = long, long }), with(func(c *api.Config) { c.User, c.Secret = "!", "~" }), with(func(c *api.Config) { c.Held = true }), with(func(c *api.Config) { c.Domains = [2]string{"a", "A.b"} }),
	} {
		if e := gate.Config(c); e != api.OK {
			t.Error(k, e)
		}
	}
	for k, c := range []api.Config{
		{}, with(func(c *api.Config) { c.Expiry = 0 }), with(func(c *api.Config) { c.Expiry = -1 }), with(func(c *api.Config) { c.Expiry = 1<<40 + 1 }), with(func(c *api.Config) { c.Log = 0 }), with(func(c *api.Config) { c.Log = -1 }), with(func(c *api.Config) { c.Log = 1<<17 + 1 }),
		with(func(c *api.Config) { c.User = "" }), with(func(c *api.Config) { c.Secret = "" }), with(func(c *api.Config) { c.User = long + "x" }), with(func(c *api.Config) { c.Secret = long + "x" }), with(func(c *api.Config) { c.User = "a b" }), with(func(c *api.Config) { c.Secret = "a b" }), with(func(c *api.Config) { c.User = "\x7f" }), with(func(c *api.Config) { c.Secret = "ä" }), with(func(c *api.Config) { c.Secret = "\x1f" }),
		with(func(c *api.Config) { c.Domains[0] = "" }), with(func(c *api.Config) { c.Domains[1] = "-a" }), with(func(c *api.Config) { c.Domains[1] = "north.example" }), with(func(c *api.Config) { c.Domains[1] = "North.EXAMPLE" }),
	} {
		if e := gate.Config(c); e != api.ErrArg {
			t.Error(k, e)
		}
		if g, outs, e := gate.Feed(c, 0, 0, gate.New(""), []byte("NOOP\r\n")); e != api.ErrArg || len(outs) != 0 || show(g) != show(api.Gate{}) {
			t.Error(k, show(g), outs, e)
		}
	}
}

func TestNew(t *testing.T) {
	for _, challenge := range []string{"", "<1@b>", strings.Repeat("x", 500)} {
		if g := gate.New(challenge); show(g) != show(api.Gate{Challenge: challenge}) {
			t.Error(show(g))
		}
	}
}

func TestFeedErrors(t *testing.T) {
	good := gate.New("<1@b>")
	phase := func(n int) api.Gate { return api.Gate{Phase: n} }
	for k, c := range []struct {
		i, at int
		g     api.Gate
		e     api.Errno
	}{
		{0, 0, good, 0}, {1, 1 << 40, good, 0}, {2, 0, good, api.ErrArg}, {-1, 0, good, api.ErrArg}, {math.MaxInt, 0, good, api.ErrArg}, {0, -1, good, api.ErrArg}, {0, 1<<40 + 1, good, api.ErrArg}, {0, math.MinInt, good, api.ErrArg},
		{0, 0, phase(6), 0}, {0, 0, phase(7), api.ErrArg}, {0, 0, phase(-1), api.ErrArg}, {0, 0, phase(math.MaxInt), api.ErrArg}, {0, 0, gate.New(strings.Repeat("~", 100)), 0}, {0, 0, gate.New(strings.Repeat("~", 101)), api.ErrArg}, {0, 0, gate.New(" "), 0}, {0, 0, gate.New("\x1f"), api.ErrArg}, {0, 0, gate.New("\x7f"), api.ErrArg}, {0, 0, gate.New("ä"), api.ErrArg},
	} {
		for _, b := range [][]byte{nil, []byte("NOOP\r\n")} {
			g, outs, e := gate.Feed(config(), c.i, c.at, c.g, b)
			if e != c.e || e != api.OK && (len(outs) != 0 || show(g) != show(api.Gate{})) {
				t.Error(k, show(g), outs, e)
			}
		}
	}
}

func TestGreeting(t *testing.T) {
	k := begin(t, "")
	k.say("MAIL FROM:<>", "503", "RCPT TO:<a@north.example>", "503", "DATA", "503", "ETRN south.example", "503", "AUTH CRAM-MD5", "503", "ATRN", "503", "NOOP", "250", "VRFY x", "252", "RSET", "250")
	k.state(api.PhaseNew, "", 0, false)
	k.say("HELO me.example", "250")
	k.state(api.PhaseReady, "", 0, false)
	if k.g.Helo != "me.example" {
		t.Error(k.g.Helo)
	}
	k.say("EHLO You.example", "250", "what", "500", "", "500", "EHLO -", "501", "AUTH PLAIN", "504", "NOOP hello", "250", "VRFY you", "252")
	if k.g.Helo != "You.example" {
		t.Error(k.g.Helo)
	}
	k.say("QUIT", "221", "NOOP", "", "EHLO me", "", "x", "")
	k.state(api.PhaseOver, "", 0, false)
	if k.g.Helo != "You.example" {
		t.Error(k.g.Helo)
	}
	k = begin(t, "")
	k.say("QUIT", "221")
	k.state(api.PhaseOver, "", 0, false)
}

func TestMailAndRcpt(t *testing.T) {
	k := begin(t, "")
	k.say("EHLO me", "250", "RCPT TO:<a@north.example>", "503", "DATA", "503", "MAIL FROM:<f@x> SIZE=1501", "552")
	k.state(api.PhaseReady, "", 0, false)
	k.say("MAIL FROM:<f@x> SIZE=1500", "250")
	k.state(api.PhaseMail, "f", 0, false)
	k.say("MAIL FROM:<g@x>", "503", "MAIL FROM:<g@x> SIZE=9999", "503", "DATA", "503", "ETRN south.example", "503", "AUTH CRAM-MD5", "503", "ATRN", "503", "NOOP", "250", "VRFY x", "252")
	k.state(api.PhaseMail, "f", 0, false)
	k.say("RCPT TO:<a@west.example>", "550", "RCPT TO:<a@sub.north.example>", "550")
	k.state(api.PhaseMail, "f", 0, false)
	k.say("RCPT TO:<a@NORTH.example>", "250")
	k.state(api.PhaseRcpt, "f", 1, false)
	k.say("RCPT TO:<b@south.Example> NOTIFY=FAILURE", "250", "RCPT TO:<c@x> NOTIFY=NEVER", "550", "MAIL FROM:<g@x>", "503", "ETRN south.example", "503", "AUTH CRAM-MD5", "503", "ATRN", "503", "VRFY x", "252")
	k.state(api.PhaseRcpt, "f", 2, false)
	k.say("RCPT TO:<a@north.example> NOTIFY=NEVER", "250", "RCPT TO:<d@north.example> NOTIFY=FAILURE", "250")
	k.state(api.PhaseRcpt, "f", 4, true)
	k.say("RCPT TO:<e@north.example>", "250", "RCPT TO:<e@north.example>", "250", "RCPT TO:<e@north.example>", "250", "RCPT TO:<e@north.example>", "250", "RCPT TO:<e@north.example>", "452", "RCPT TO:<e@x>", "452")
	k.state(api.PhaseRcpt, "f", 8, true)
	if show(k.g.To[:3]) != "[{Null:false Local:a Domain:NORTH.example} {Null:false Local:b Domain:south.Example} {Null:false Local:a Domain:north.example}]" {
		t.Error(show(k.g.To))
	}
	k.say("RSET", "250")
	k.state(api.PhaseReady, "", 0, false)
	k.say("MAIL FROM:<>", "250", "RCPT TO:<a@north.example> NOTIFY=NEVER", "250")
	if !k.g.From.Null {
		t.Error(show(k.g))
	}
	k.say("EHLO again", "250")
	k.state(api.PhaseReady, "", 0, false)
	if k.g.From.Null || k.g.Helo != "again" {
		t.Error(show(k.g))
	}
	k.say("MAIL FROM:<f@x>", "250", "RSET", "250", "MAIL FROM:<f@x>", "250", "HELO b", "250")
	k.state(api.PhaseReady, "", 0, false)
	k.say("MAIL FROM:<f@x>", "250", "QUIT", "221")
	k.state(api.PhaseOver, "f", 0, false)
}

func TestData(t *testing.T) {
	k := begin(t, "")
	k.site = 1
	k.say("EHLO Me.example", "250", "MAIL FROM:<f@x>", "250", "RCPT TO:<a@north.example>", "250", "RCPT TO:<b@south.example> NOTIFY=NEVER", "250", "DATA", "354")
	if k.g.Phase != api.PhaseData {
		t.Error(show(k.g))
	}
	k.say("Subject: x", "", "", "", "..", "", "QUIT", "", ".x", "")
	k.say(".", "250")
	want := api.Mail{From: api.Path{Local: "f", Domain: "x"}, To: []api.Path{{Local: "a", Domain: "north.example"}, {Local: "b", Domain: "south.example"}}, Body: []byte("Received: from Me.example by south.example with ESMTP; 7\r\nSubject: x\r\n\r\n.\r\nQUIT\r\nx\r\n"), Quiet: true, Helo: "Me.example", At: 7}
	if len(k.outs) != 1 || !k.outs[0].Has || k.outs[0].Ask || show(k.outs[0].Mail) != show(want) {
		t.Error(show(k.outs))
	}
	k.state(api.PhaseReady, "", 0, false)
	if k.g.Helo != "Me.example" {
		t.Error(k.g.Helo)
	}
	k.site, k.at = 0, 0
	k.say("MAIL FROM:<>", "250", "RCPT TO:<a@north.example>", "250", "DATA", "354", ".", "250")
	want = api.Mail{From: api.Path{Null: true}, To: []api.Path{{Local: "a", Domain: "north.example"}}, Body: []byte("Received: from Me.example by north.example with ESMTP; 0\r\n"), Helo: "Me.example"}
	if len(k.outs) != 1 || show(k.outs[0].Mail) != show(want) {
		t.Error(show(k.outs))
	}
	// In PhaseData no line is too long.
	k.say("MAIL FROM:<>", "250", "RCPT TO:<a@north.example>", "250", "DATA", "354", strings.Repeat("x", 1400), "", ".", "250")
}

func TestBadBodies(t *testing.T) {
	for _, c := range []struct{ body, codes string }{
		{"a\nb\r\n.\r\n", "554"}, {"a\rb\r\n.\r\nNOOP\r\n", "554 250"}, {"\n\r\n.\r\n.\r\n", "554 500"}, {strings.Repeat("x", 1498) + "\r\n.\r\n", "250"}, {strings.Repeat("x", 1499) + "\r\n.\r\n", "552"}, {"." + strings.Repeat("x", 1498) + "\r\n.\r\nQUIT\r\n", "250 221"}, {strings.Repeat("x\r\n", 500) + ".\r\n", "250"}, {strings.Repeat("x\r\n", 501) + ".\r\n", "552"}, {strings.Repeat("x", 9000) + "\r\n.\r\nNOOP\r\n", "552 250"}, {strings.Repeat("x\n", 900) + "\r\n.\r\n", "554"},
	} {
		k := begin(t, "")
		k.say("EHLO me", "250", "MAIL FROM:<f@x>", "250", "RCPT TO:<a@north.example> NOTIFY=NEVER", "250", "DATA", "354")
		if got := k.feed(c.body); got != c.codes {
			t.Errorf("%.20q: %q, not %q", c.body, got, c.codes)
		}
		if has := k.outs[0].Has; has != (k.outs[0].Reply.Code == 250) || !has && show(k.outs[0].Mail) != show(api.Mail{}) {
			t.Errorf("%.20q: %v", c.body, show(k.outs))
		}
		if k.g.From != (api.Path{}) || len(k.g.To) != 0 || k.g.Quiet || len(k.g.Buf) != 0 {
			t.Error(show(k.g))
		}
		if strings.HasSuffix(c.codes, "221") != (k.g.Phase == api.PhaseOver) || k.g.Phase != api.PhaseOver && k.g.Phase != api.PhaseReady {
			t.Errorf("%.20q: %v", c.body, show(k.g))
		}
	}
}

// TestMailThatFitsNoBundle has recipients that are so long that the mail, alone in a bundle, would be.
func TestMailThatFitsNoBundle(t *testing.T) {
	c := config()
	c.Domains[1] = strings.Repeat(strings.Repeat("d", 63)+".", 3) + strings.Repeat("e", 48)
	to := slices.Repeat([]api.Path{{Local: strings.Repeat("l", 64), Domain: c.Domains[1]}}, 8)
	from := api.Path{Local: "f", Domain: "x"}
	// The commands besides the body, the first line of the bundle, and the stamp.
	rest := len("MAIL FROM:<f@x>\r\n") + 8*(len("RCPT TO:<@>\r\n")+64+240) + len("DATA\r\n.\r\nQUIT\r\n") + len("Received: from me by north.example with ESMTP; 7\r\n")
	first := len("BUNDLE 0 65535 1 4000 0123456789\r\n")
	size := 4096 - rest - first
	fits := 0
	for n := size - 3; n <= size+3; n++ {
		body := strings.Repeat("x", n-2) + "\r\n"
		g := api.Gate{Phase: api.PhaseData, Helo: "me", From: from, To: to}
		_, outs, e := gate.Feed(c, 0, 7, g, []byte(body+".\r\n"))
		if e != api.OK || len(outs) != 1 {
			t.Fatal(outs, e)
		}
		want := 250
		if !fitsAlone(outs[0], from, to, body) {
			want = 552
		}
		if outs[0].Reply.Code != want || outs[0].Has != (want == 250) {
			t.Error(n, show(outs[0].Reply), want)
		}
		if want == 250 {
			fits++
		}
	}
	if size > 1500 || fits == 0 || fits == 7 {
		t.Error(size, fits)
	}
}

// fitsAlone counts the bytes of the bundle of a mail.
func fitsAlone(o api.Out, from api.Path, to []api.Path, body string) bool {
	c := "MAIL FROM:<" + from.Local + "@" + from.Domain + ">\r\n"
	for _, p := range to {
		c += "RCPT TO:<" + p.Local + "@" + p.Domain + ">\r\n"
	}
	c += "DATA\r\nReceived: from me by north.example with ESMTP; 7\r\n" + body + ".\r\nQUIT\r\n"
	return len(fmt.Sprintf("BUNDLE 0 65535 1 %d %d\r\n%s", len(c), crcOf(c), c)) <= 4096
}

func TestAnyState(t *testing.T) {
	to := []api.Path{{Local: "a", Domain: "north.example"}}
	from := api.Path{Local: "f", Domain: "x"}
	for k, c := range []struct {
		g     api.Gate
		feed  string
		codes string
	}{
		// What stamps no body, or makes no bundle.
		{api.Gate{Phase: api.PhaseData, From: from, To: to}, ".\r\n", "552"}, {api.Gate{Phase: api.PhaseData, Helo: "a_", From: from, To: to}, ".\r\n", "552"}, {api.Gate{Phase: api.PhaseData, Helo: "a", To: to}, ".\r\n", "552"}, {api.Gate{Phase: api.PhaseData, Helo: "a", From: from}, ".\r\n", "552"}, {api.Gate{Phase: api.PhaseData, Helo: "a", From: from, To: make([]api.Path, 1)}, ".\r\n", "552"}, {api.Gate{Phase: api.PhaseData, Helo: "a", From: from, To: slices.Repeat(to, 9)}, ".\r\n", "552"}, {api.Gate{Phase: api.PhaseData, Helo: "a", From: from, To: slices.Repeat(to, 8)}, ".\r\n", "250"},
		// What stands in Buf already is processed after the first byte.
		{api.Gate{Buf: []byte("NOOP\r\nNOOP\r\nNO")}, "O", "250 250"}, {api.Gate{Buf: []byte("NOOP\r\n")}, "", ""}, {api.Gate{Buf: []byte("NOOP\r")}, "\n", "250"}, {api.Gate{Buf: []byte(strings.Repeat("x", 600))}, "y", "500"}, {api.Gate{Buf: []byte(strings.Repeat("x", 600) + "\r\n")}, "y", "500"}, {api.Gate{Phase: api.PhaseOver, Buf: []byte(strings.Repeat("x", 600))}, "y", ""}, {api.Gate{Phase: api.PhaseOver, Buf: []byte("NOOP\r\nNOOP\r\n")}, "y", ""},
		{api.Gate{Phase: api.PhaseRcpt, Helo: "a", From: from, To: to, Buf: []byte("DATA\r\nx\r\n.\r\nQUIT\r\n")}, "N", "354 250 221"}, {api.Gate{Phase: api.PhaseRcpt, Helo: "a", From: from, To: to, Buf: []byte("DATA\r\nx\n\r\n.\r\nQUIT\r\n")}, "N", "354 554 221"}, {api.Gate{Phase: api.PhaseData, Helo: "a", From: from, To: to, Buf: []byte(".\r\n")}, "N", "250"}, {api.Gate{Phase: api.PhaseData, Helo: "a", From: from, To: to, Buf: []byte("x\r\n.\r\nNOOP\r\n")}, "N", "250 250"}, {api.Gate{Phase: api.PhaseData, Helo: "a", From: from, To: to, Buf: []byte("x\r\n.\r")}, "\n", "250"}, {api.Gate{Phase: api.PhaseData, Helo: "a", From: from, To: to, Buf: []byte(".\r")}, "\nNOOP\r\n", "250 250"},
		{api.Gate{Phase: api.PhaseAuth, Buf: []byte(strings.Repeat("x", 600))}, "y", "500"},
	} {
		before := show(c.g)
		talk := &talk{t: t, g: c.g}
		if got := talk.feed(c.feed); got != c.codes {
			t.Errorf("%d: %q, not %q", k, got, c.codes)
		}
		if show(c.g) != before {
			t.Error(k, "the argument was changed")
		}
	}
}

func TestLongLines(t *testing.T) {
	k := begin(t, "")
	for _, c := range []struct{ s, codes, buf string }{
		{"NOOP " + strings.Repeat("x", 505) + "\r\n", "250", ""}, {"NOOP " + strings.Repeat("x", 506) + "\r\n", "500", ""}, {strings.Repeat("x", 511) + "\r\n", "500", ""}, {strings.Repeat("x", 512) + "\r\n", "500", "\n"}, {"", "", "\n"}, {"\r\n", "500", ""},
		{strings.Repeat("x", 512), "", strings.Repeat("x", 512)}, {"y", "500", ""}, {"NOOP\r\n", "250", ""}, {strings.Repeat("x", 1026) + "y", "500 500", "y"}, {"\r\n", "500", ""}, {"\n", "", "\n"}, {"NOOP\r\n", "500", ""}, {"NOOP\n\r", "", "NOOP\n\r"}, {"\n", "500", ""},
	} {
		if got := k.feed(c.s); got != c.codes || string(k.g.Buf) != c.buf {
			t.Errorf("%.20q: %q, %q", c.s, got, k.g.Buf)
		}
	}
	k.say("QUIT", "221")
	if got := k.feed(strings.Repeat("x", 514)); got != "" || string(k.g.Buf) != "x" {
		t.Errorf("%q %q", got, k.g.Buf)
	}
}

func TestAuthAndRelease(t *testing.T) {
	const challenge = "<1@b>"
	answer := cram.Answer("user", "secret", challenge)
	ask := func(k *talk, want bool) {
		t.Helper()
		if len(k.outs) != 1 || k.outs[0].Ask != want || k.outs[0].Has {
			t.Error(show(k.outs))
		}
	}
	k := begin(t, challenge)
	k.say("EHLO me", "250", "ATRN", "530", "ATRN south.example", "530", "ATRN x", "530", "AUTH CRAM-MD5", "334")
	if k.g.Phase != api.PhaseAuth || k.g.Proved || k.outs[0].Reply.Lines[0] != "PDFAYj4=" {
		t.Error(show(k.g), show(k.outs))
	}
	k.say("QUIT", "535")
	k.state(api.PhaseReady, "", 0, false)
	k.say("AUTH CRAM-MD5", "334", answer+" ", "535", "ATRN", "530", "AUTH CRAM-MD5", "334", "", "535", "AUTH CRAM-MD5", "334", cram.Answer("user", "other", challenge), "535", "AUTH CRAM-MD5", "334", cram.Answer("User", "secret", challenge), "535", "AUTH CRAM-MD5", "334", cram.Answer("user", "secret", "<2@b>"), "535")
	if k.g.Proved {
		t.Error(show(k.g))
	}
	k.say("auth cram-md5", "334", answer, "235")
	k.state(api.PhaseReady, "", 0, false)
	if !k.g.Proved {
		t.Error(show(k.g))
	}
	k.say("AUTH CRAM-MD5", "503", "ATRN north.example", "450", "ATRN x", "450", "MAIL FROM:<f@x>", "250", "ATRN", "503", "RSET", "250", "EHLO again", "250")
	if !k.g.Proved {
		t.Error(show(k.g))
	}
	k.say("ETRN north.example", "459")
	ask(k, false)
	k.say("ETRN x", "459", "ETRN South.EXAMPLE", "250")
	ask(k, true)
	k.state(api.PhaseReady, "", 0, false)
	k.say("ATRN", "250")
	ask(k, true)
	k.state(api.PhaseOver, "", 0, false)
	k.say("NOOP", "")

	k = begin(t, challenge)
	k.site = 1
	k.say("EHLO me", "250", "ETRN south.example", "459", "ETRN north.example", "250")
	ask(k, true)
	k.say("AUTH CRAM-MD5", "334", answer, "235", "ATRN south.example", "450")
	ask(k, false)
	k.say("ATRN NORTH.example", "250")
	ask(k, true)
	// A line that is too long is no answer to the challenge yet.
	k = begin(t, challenge)
	k.say("EHLO me", "250", "AUTH CRAM-MD5", "334")
	if got := k.feed(strings.Repeat("x", 513)); got != "500" || k.g.Phase != api.PhaseAuth || len(k.g.Buf) != 0 {
		t.Error(got, show(k.g))
	}
	k.say(answer, "235", "RSET", "250", "ATRN", "250")
	k = begin(t, "")
	k.say("EHLO me", "250", "AUTH CRAM-MD5", "334", cram.Answer("user", "secret", ""), "235")
	k = begin(t, strings.Repeat("~", 100))
	k.say("EHLO me", "250", "AUTH CRAM-MD5", "334")
}

// TestNothingElseAsks goes through lines that must not release a queue (T5).
func TestNothingElseAsks(t *testing.T) {
	for _, s := range []string{"NOOP", "VRFY south.example", "RSET", "QUIT", "EHLO south.example", "ETRN", "ETRN north.example", "ATRN", "ATRN south.example", "AUTH CRAM-MD5", "MAIL FROM:<ETRN@south.example>", "QTRN south.example", "TURN"} {
		k := begin(t, "<1@b>")
		k.say("EHLO me", "250")
		k.feed(s + "\r\n")
		for _, o := range k.outs {
			if o.Ask || o.Has {
				t.Error(s, show(o))
			}
		}
	}
}

func script() string {
	mail := "MAIL FROM:<f@x>\r\nRCPT TO:<a@north.example>\r\nRCPT TO:<b@south.example> NOTIFY=NEVER\r\nDATA\r\nSubject: y\r\n\r\n..z\r\n.\r\n"
	return "NOOP\r\nMAIL FROM:<>\r\nEHLO me\r\n" + mail + "junk\r\n" + strings.Repeat("j", 1100) + "\r\nRSET\r\n" + mail + "AUTH CRAM-MD5\r\n" + cram.Answer("user", "secret", "<1@b>") + "\r\nETRN south.example\r\n" + strings.Replace(mail, "y", "\n", 1) + "\n\r\n\r\r\nATRN\r\nNOOP\r\n" + strings.Repeat("k", 600)
}

// TestDivided is promise P23.2.
func TestDivided(t *testing.T) {
	s := script()
	whole, outs, e := gate.Feed(config(), 0, 7, gate.New("<1@b>"), []byte(s))
	if e != api.OK || len(outs) < 20 {
		t.Fatal(len(outs), e)
	}
	rnd := rand.New(rand.NewSource(1))
	for round := range 60 {
		g := gate.New("<1@b>")
		var all []api.Out
		for rest := s; rest != ""; {
			n := min(len(rest), 1+rnd.Intn(1+round*2))
			next, some, e := gate.Feed(config(), 0, 7, g, []byte(rest[:n]))
			if e != api.OK {
				t.Fatal(e)
			}
			g, rest = next, rest[n:]
			all = append(all, some...)
		}
		if show(all) != show(outs) || show(g) != show(whole) {
			t.Fatal(round, show(all), show(g))
		}
	}
}

func TestOwnMemory(t *testing.T) {
	b := []byte(script())
	g := api.Gate{Phase: api.PhaseRcpt, Helo: "me", To: make([]api.Path, 1, 4), Buf: make([]byte, 0, 600), Challenge: "<1@b>"}
	g.To[0] = api.Path{Local: "a", Domain: "north.example"}
	before := show(g) + show(g.To[:4]) + show(g.Buf[:600])
	next, outs, _ := gate.Feed(config(), 0, 7, g, append([]byte("RCPT TO:<b@north.example>\r\n"), b...))
	again, others, _ := gate.Feed(config(), 0, 7, g, append([]byte("RCPT TO:<b@north.example>\r\n"), b...))
	told := show(again) + show(others)
	for _, o := range outs {
		o.Reply.Lines[0] = "spoilt"
		for i := range o.Mail.Body[:cap(o.Mail.Body)] {
			o.Mail.Body[:cap(o.Mail.Body)][i] = 0
		}
		for i := range o.Mail.To[:cap(o.Mail.To)] {
			o.Mail.To[:cap(o.Mail.To)][i].Local = "spoilt"
		}
	}
	for i := range next.Buf[:cap(next.Buf)] {
		next.Buf[:cap(next.Buf)][i] = 0
	}
	if show(again)+show(others) != told || show(g)+show(g.To[:4])+show(g.Buf[:600]) != before || !bytes.Equal(b, []byte(script())) {
		t.Error("memory is shared")
	}
	// What a session holds is not that of the session before.
	two, _, _ := gate.Feed(config(), 0, 7, g, []byte("RCPT TO:<b@north.example>\r\nRC"))
	three, _, _ := gate.Feed(config(), 0, 7, two, []byte("PT"))
	three.To[0].Local, three.Buf[0] = "spoilt", 'X'
	if two.To[0].Local != "a" || string(two.Buf) != "RC" {
		t.Error(show(two))
	}
}

func crcOf(s string) uint32 { return crc32.ChecksumIEEE([]byte(s)) }
