package world_test

import (
	"fmt"
	"math/rand"
	"strings"
	"testing"

	"wherry/api"
	"wherry/cram"
	"wherry/report"
	"wherry/spool"
	"wherry/world"
)

// sent is a mail of a session: its sender and its text are those of no other mail.
type sent struct {
	site  int
	at    int
	from  string
	body  string
	to    []string
	quiet bool
	// What was replied: "" if nothing was.
	code string
}

// stamped is the body as it is handed on.
func (m sent) stamped() string {
	return fmt.Sprintf("Received: from me by %s with ESMTP; %d\r\n%s\r\n", config().Domains[m.site], m.at, m.body)
}

func (m sent) isFar(to string) bool {
	return strings.HasSuffix(to, config().Domains[1-m.site])
}

// history is a world with what was done to it.
type history struct {
	t     *testing.T
	rnd   *rand.Rand
	w     *world.World
	mails []sent
}

func begin(t *testing.T, seed int64, c api.Config) *history {
	return &history{t: t, rnd: rand.New(rand.NewSource(seed)), w: start(t, c)}
}

// mail brings a mail to a site, and notes what was replied to it.
func (h *history) mail(i int) {
	k := len(h.mails)
	m := sent{site: i, at: h.w.Clock(i), from: fmt.Sprintf("m%d", k), body: fmt.Sprintf("text %d %s", k, strings.Repeat("ab c", h.rnd.Intn(120))), quiet: h.rnd.Intn(6) == 0}
	for n := 1 + h.rnd.Intn(3); n > 0; n-- {
		m.to = append(m.to, fmt.Sprintf("r%d@%s", n, config().Domains[h.rnd.Intn(2)]))
	}
	s := "EHLO me\r\nRSET\r\nMAIL FROM:<" + m.from + "@x>\r\n"
	for _, p := range m.to {
		s += "RCPT TO:<" + p + ">"
		if m.quiet {
			s += " NOTIFY=NEVER"
		}
		s += "\r\n"
	}
	h.w.Do(api.Step{Kind: api.StepHang, Site: i})
	before := len(h.w.Replies(i))
	h.w.Do(fed(i, s+"DATA\r\n"+m.body+"\r\n.\r\n"))
	lines := strings.Split(string(h.w.Replies(i)[before:]), "\r\n")
	// One reply for each line up to the body, and one for the body.
	if n := len(m.to) + 4; len(lines) > n+1 {
		m.code = lines[n][:3]
	}
	h.mails = append(h.mails, m)
}

// trouble does one step at random.
func (h *history) trouble(crashes bool) {
	i := h.rnd.Intn(2)
	n := 0
	if l := len(h.w.Letters()); l > 0 {
		n = h.rnd.Intn(l)
	}
	switch k := h.rnd.Intn(40); {
	case k < 2 && len(h.mails) < 25:
		h.mail(i)
	case k < 12:
		h.w.Do(step(api.StepTick, i))
	case k < 28:
		h.w.Do(letter(api.StepDeliver, n))
	case k < 30:
		h.w.Do(letter(api.StepDrop, n))
	case k < 32:
		h.w.Do(letter(api.StepCopy, n))
	case k < 34:
		h.w.Do(api.Step{Kind: api.StepSpoil, N: n, At: h.rnd.Int(), Bits: h.rnd.Int()})
	case k == 34:
		h.w.Do(step(api.StepLink, i))
	case k < 37 && crashes:
		h.w.Do(crash(i, h.rnd.Intn(9), h.rnd.Intn(3)))
	case crashes:
		h.w.Do(step(api.StepRestart, i))
	}
}

// calm restarts the sites, and lets the link work until nothing waits, or for some ticks (T4).
func (h *history) calm(ticks int) {
	for i := range 2 {
		// Only a site that is up can be crashed; then no crash is armed any more.
		h.w.Do(step(api.StepRestart, i))
		h.w.Do(crash(i, 0, 0))
		if e := h.w.Do(step(api.StepRestart, i)); e != api.OK {
			h.t.Fatal(e)
		}
	}
	for range ticks {
		for i := range 2 {
			if e := h.w.Do(step(api.StepTick, i)); e != api.OK {
				h.t.Fatal(e)
			}
		}
		for len(h.w.Letters()) > 0 {
			h.w.Do(letter(api.StepDeliver, 0))
		}
	}
}

func waits(s api.Spool) int {
	n := 0
	for _, x := range s.Items {
		if x.State == api.Waiting || x.State == api.Packed {
			n++
		}
	}
	return n
}

// check goes through all events: T1 and T2; and if all is over, each recipient has got the mail or was reported.
func (h *history) check(over bool) {
	h.t.Helper()
	got, reported := map[string]int{}, map[string]int{}
	known := map[string]bool{}
	for _, m := range h.mails {
		for _, to := range m.to {
			known["mail "+m.from+" "+to+" "+m.stamped()] = true
			if m.isFar(to) && !m.quiet {
				known["report "+m.from+" "+to] = true
			}
		}
	}
	for _, v := range h.w.Events() {
		to := v.To.Local + "@" + v.To.Domain
		if v.Kind == api.EventMail {
			key := v.From.Local + " " + to
			got[key]++
			if !known["mail "+key+" "+string(v.Body)] || v.From.Domain != "x" || v.To.Domain != config().Domains[v.Site] {
				h.t.Error("this was not accepted:", show(v))
			}
			continue
		}
		site, sender, rcpt, e := report.Read(v.Body)
		key := v.To.Local + " " + rcpt.Local + "@" + rcpt.Domain
		reported[key]++
		if e != api.OK || site != config().Domains[v.Site] || sender != v.To || !known["report "+key] {
			h.t.Error("this is no report:", show(v))
		}
	}
	for _, m := range h.mails {
		times := map[string]int{}
		for _, to := range m.to {
			times[to]++
		}
		for to, n := range times {
			key := m.from + " " + to
			if got[key] > n || reported[key] > n || got[key] > 0 && reported[key] > 0 {
				h.t.Error("too often:", key, n, got[key], reported[key])
			}
			if m.code == "250" && !m.isFar(to) && got[key] != n {
				h.t.Error("it was answered, but is not there:", key)
			}
			if over && m.code == "250" && !m.quiet && got[key]+reported[key] != n {
				h.t.Error("neither here nor there:", key, n, got[key], reported[key])
			}
			if m.code != "250" && m.code != "" && got[key]+reported[key] > 0 {
				h.t.Error("it was refused:", key)
			}
		}
	}
}

// TestLaws is promise P25.3, with the properties T1 to T4, over a bad link and with crashes.
func TestLaws(t *testing.T) {
	accepted, bounced, arrived := 0, 0, 0
	for seed := range int64(60) {
		c := config()
		if seed%3 == 0 {
			c.Expiry = 8
		}
		if seed%7 == 0 {
			c.Log = 9000
		}
		h := begin(t, seed, c)
		for range 700 {
			h.trouble(seed%2 == 0)
		}
		h.check(false)
		h.calm(250)
		for i := range 2 {
			if n := waits(h.w.Site(i).Spool()); n > 0 && c.Log == api.MaxLog {
				t.Error(seed, "mails are waiting:", n)
			}
		}
		h.check(c.Log == api.MaxLog)
		for _, m := range h.mails {
			if m.code == "250" {
				accepted++
			}
		}
		for _, v := range h.w.Events() {
			if v.Kind == api.EventBounce {
				bounced++
			} else {
				arrived++
			}
		}
		if t.Failed() {
			t.Fatal(seed)
		}
	}
	if accepted < 300 || bounced < 5 || arrived < 300 {
		t.Error(accepted, bounced, arrived)
	}
}

// TestLinkDown is promise P25.3: with the link down, each mail that was not packed is reported (T4).
func TestLinkDown(t *testing.T) {
	c := config()
	c.Expiry, c.Held = 5, true
	h := begin(t, 1, c)
	for range 10 {
		h.mail(h.rnd.Intn(2))
	}
	for range 6 {
		h.w.Do(step(api.StepTick, 0))
		h.w.Do(step(api.StepTick, 1))
	}
	if waits(h.w.Site(0).Spool())+waits(h.w.Site(1).Spool()) != 0 || len(h.w.Letters()) != 0 {
		t.Error("mails are waiting")
	}
	h.check(true)
}

// TestStartingTwice is promise P25.3 (T3): a site is in the state that its synced records represent, and a second start changes nothing.
func TestStartingTwice(t *testing.T) {
	for n := 1; n < 40; n++ {
		for keep := range 3 {
			h := begin(t, int64(n), config())
			h.mail(0)
			h.mail(1)
			h.w.Do(crash(0, n, keep))
			for range 6 {
				h.w.Do(step(api.StepTick, 0))
				h.w.Do(step(api.StepTick, 1))
				h.mail(0)
				for len(h.w.Letters()) > 0 {
					h.w.Do(letter(api.StepDeliver, 0))
				}
			}
			if !h.w.Site(0).Down() {
				continue
			}
			before := h.w.Site(0).Spool()
			do(t, h.w, step(api.StepRestart, 0))
			events, after := len(h.w.Events()), h.w.Site(0).Spool()
			if len(after.Items) < len(before.Items) || len(after.Done) < len(before.Done) || len(after.Sent) < len(before.Sent) {
				t.Fatal("synced records are gone")
			}
			do(t, h.w, crash(0, 0, 9), step(api.StepRestart, 0))
			if len(h.w.Events()) != events || show(h.w.Site(0).Spool()) != show(after) {
				t.Fatal(n, keep, "the second start changed something")
			}
			h.calm(120)
			h.check(true)
		}
	}
}

// TestHeldQueue is promise P25.3 (T5): nothing goes before the queue is released.
func TestHeldQueue(t *testing.T) {
	c := config()
	c.Held, c.Expiry = true, 1000
	for k, x := range []struct {
		s    string
		goes bool
	}{
		{"EHLO me\r\nETRN s.example\r\n", true}, {"ETRN s.example\r\n", false}, {"EHLO me\r\nETRN n.example\r\n", false}, {"EHLO s.example\r\nATRN s.example\r\nVRFY s.example\r\n", false}, {"EHLO me\r\nAUTH CRAM-MD5\r\n" + cram.Answer("user", "secret", "<1@n>") + "\r\nATRN\r\n", true}, {"EHLO me\r\nAUTH CRAM-MD5\r\n" + cram.Answer("user", "secret", "<2@n>") + "\r\nATRN\r\n", false}, {"EHLO me\r\nAUTH CRAM-MD5\r\n" + cram.Answer("user", "", "<1@n>") + "\r\nATRN\r\n", false},
	} {
		h := begin(t, int64(k), c)
		for len(h.mails) < 4 {
			h.mail(0)
		}
		h.calm(20)
		if h.w.Site(0).Spool().Packs != 0 {
			t.Error(k, "something was packed")
		}
		do(t, h.w, api.Step{Kind: api.StepHang, Challenge: "<1@n>"}, fed(0, x.s))
		for range 60 {
			do(t, h.w, step(api.StepTick, 0), step(api.StepTick, 1))
			for len(h.w.Letters()) > 0 {
				h.w.Do(letter(api.StepDeliver, 0))
			}
		}
		if went := h.w.Site(0).Spool().Packs > 0; went != x.goes || x.goes && waits(h.w.Site(0).Spool()) != 0 {
			t.Error(k, went)
		}
		h.check(x.goes)
	}
}

// TestNothingWithoutItsRecord crashes every write of a session: what was replied and handed on is in the records (T3).
func TestNothingWithoutItsRecord(t *testing.T) {
	for n := 1; n < 14; n++ {
		for keep := range 2 {
			h := begin(t, int64(n), config())
			h.w.Do(crash(0, n, keep))
			for range 6 {
				h.mail(0)
			}
			events := len(h.w.Events())
			h.w.Do(step(api.StepRestart, 0))
			answered := 0
			for _, m := range h.mails {
				if m.code == "250" {
					answered++
				}
			}
			items := len(h.w.Site(0).Spool().Items)
			if items < answered || items > answered+keep || show(h.w.Site(0).Spool()) == show(spool.New()) != (items == 0) || len(h.w.Events()) < events {
				t.Error(n, keep, answered, items)
			}
			h.check(false)
		}
	}
}
