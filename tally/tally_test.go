package tally_test

import (
	"fmt"
	"math"
	"math/rand"
	"slices"
	"strings"
	"testing"

	"wherry/api"
	"wherry/report"
	"wherry/tally"
	"wherry/world"
)

func box(local, domain string) api.Path { return api.Path{Local: local, Domain: domain} }

func mail(i int, from, to api.Path, body string) api.Event {
	return api.Event{Kind: api.EventMail, Site: i, From: from, To: to, Body: []byte(body)}
}

func bounce(t *testing.T, i int, from, rcpt api.Path) api.Event {
	t.Helper()
	b, e := report.Build("n.example", from, rcpt)
	if e != api.OK {
		t.Fatal(e)
	}
	return api.Event{Kind: api.EventBounce, Site: i, To: from, Body: b}
}

func TestCount(t *testing.T) {
	ab, cd := box("a", "b"), box("c", "d")
	base := mail(0, ab, cd, "x")
	// Each of these differs from the first one in one thing.
	l := []api.Event{base, mail(1, ab, cd, "x"), mail(0, cd, cd, "x"), mail(0, ab, ab, "x"), mail(0, ab, cd, "y"), mail(0, ab, cd, ""), mail(0, box("A", "b"), cd, "x"), mail(0, box("a", "B"), cd, "x"), mail(0, ab, box("C", "d"), "x"), mail(0, ab, box("c", "D"), "x"), mail(0, api.Path{Null: true}, cd, "x"), mail(0, api.Path{Null: true, Local: "a", Domain: "b"}, cd, "x"), {Kind: api.EventBounce, From: ab, To: cd, Body: []byte("x")}, {}, {Kind: -1}, mail(0, box("ab", ""), cd, "x"), mail(0, box("", "ab"), cd, "x")}
	if n := tally.Count(l); n != len(l) {
		t.Error(n)
	}
	for n := range l {
		if got := tally.Count(l[:n]); got != n {
			t.Error(n, got)
		}
		if got := tally.Count(slices.Concat(l[:n], l[:n], l[:n/2])); got != n {
			t.Error(n, got)
		}
	}
	nilBody := mail(0, ab, cd, "")
	nilBody.Body = nil
	if n := tally.Count([]api.Event{nilBody, mail(0, ab, cd, "")}); n != 1 {
		t.Error(n)
	}
	if n := tally.Count(nil); n != 0 {
		t.Error(n)
	}
}

func TestOf(t *testing.T) {
	ab, cd := box("a", "b"), box("c", "d")
	about := bounce(t, 0, ab, cd)
	// A mail whose body is a report is no report, and a report whose body is asked for is no mail.
	asMail := mail(0, ab, cd, string(about.Body))
	l := []api.Event{mail(0, ab, cd, "x"), mail(0, cd, cd, "x"), mail(0, ab, cd, "x"), mail(1, ab, cd, "x"), mail(0, ab, box("C", "d"), "x"), mail(0, ab, box("c", "D"), "x"), mail(0, ab, cd, "y"), mail(0, ab, ab, "x"), about, bounce(t, 0, cd, cd), bounce(t, 1, ab, cd), bounce(t, 0, cd, ab), bounce(t, 0, ab, box("c", "D")), bounce(t, 0, ab, box("C", "d")), asMail, {Kind: api.EventBounce, To: cd, Body: []byte("x")}, {Kind: 3, To: cd, Body: []byte("x")}}
	for k, c := range []struct {
		site           int
		to             api.Path
		body           string
		mails, bounces int
	}{
		{0, cd, "x", 3, 2}, {0, cd, "y", 1, 2}, {0, cd, "z", 0, 2}, {1, cd, "x", 1, 1}, {2, cd, "x", 0, 0}, {-1, cd, "x", 0, 0}, {math.MaxInt, cd, "x", 0, 0}, {0, box("C", "d"), "x", 1, 1}, {0, box("c", "D"), "x", 1, 1}, {0, ab, "x", 1, 1}, {0, ab, "y", 0, 1}, {0, cd, string(about.Body), 1, 2}, {0, api.Path{}, "", 0, 0}, {0, api.Path{Null: true}, "x", 0, 0}, {0, box("C", "D"), "x", 0, 0},
	} {
		if mails, bounces := tally.Of(l, c.site, c.to, []byte(c.body)); mails != c.mails || bounces != c.bounces {
			t.Error(k, mails, bounces)
		}
	}
	if mails, bounces := tally.Of([]api.Event{mail(0, ab, cd, "")}, 0, cd, nil); mails != 1 || bounces != 0 {
		t.Error(mails, bounces)
	}
	if mails, bounces := tally.Of(nil, 0, cd, nil); mails != 0 || bounces != 0 {
		t.Error(mails, bounces)
	}
	// A body that is nearly a report.
	near := about
	near.Body = append(slices.Clone(about.Body), 'x')
	if mails, bounces := tally.Of([]api.Event{near}, 0, cd, nil); mails != 0 || bounces != 0 {
		t.Error(mails, bounces)
	}
}

func item(state, body, to int) api.Item {
	return api.Item{State: state, Mail: api.Mail{Body: make([]byte, body), To: make([]api.Path, to)}}
}

func TestWaitsAndBound(t *testing.T) {
	for k, c := range []struct {
		items        []api.Item
		waits, bound int
	}{
		{nil, 0, 40}, {[]api.Item{item(api.Waiting, 0, 0)}, 1, 80}, {[]api.Item{item(api.Packed, 0, 1)}, 1, 88}, {[]api.Item{item(api.Gone, 100, 8)}, 0, 40}, {[]api.Item{item(api.Bounced, 100, 8)}, 0, 40}, {[]api.Item{item(0, 100, 8), item(5, 100, 8), item(-1, 1, 1)}, 0, 40},
		{[]api.Item{item(api.Waiting, 1, 0)}, 1, 82}, {[]api.Item{item(api.Waiting, 47, 0)}, 1, 82}, {[]api.Item{item(api.Waiting, 48, 0)}, 1, 82}, {[]api.Item{item(api.Waiting, 49, 0)}, 1, 84}, {[]api.Item{item(api.Packed, 96, 3)}, 1, 108}, {[]api.Item{item(api.Waiting, 1500, 8), item(api.Gone, 5, 5), item(api.Packed, 1, 1)}, 2, 40 + 40 + 64 + 64 + 40 + 2 + 8},
	} {
		s := api.Spool{Items: c.items, Packs: 9, Of: -1}
		if n := tally.Waits(s); n != c.waits {
			t.Error(k, n)
		}
		if n := tally.Bound(s); n != c.bound {
			t.Error(k, n)
		}
	}
}

func config() api.Config {
	return api.Config{Domains: [2]string{"n.example", "s.example"}, Expiry: 1 << 20, User: "user", Secret: "secret", Log: api.MaxLog}
}

func TestFar(t *testing.T) {
	c := config()
	m := api.Mail{To: []api.Path{box("a", "n.example"), box("b", "S.EXAMPLE"), box("c", "x"), box("d", "s.example"), {Null: true}, box("", "s.example"), box("e", "N.example"), box("b", "S.EXAMPLE")}}
	for k, x := range []struct {
		i    int
		want []api.Path
	}{
		{0, []api.Path{m.To[1], m.To[3], m.To[7]}}, {1, []api.Path{m.To[0], m.To[6]}}, {2, nil}, {-1, nil}, {math.MaxInt, nil}, {math.MinInt, nil},
	} {
		got := tally.Far(c, x.i, m)
		if !slices.Equal(got, x.want) {
			t.Error(k, got)
		}
		for i := range got {
			got[i].Local = "spoilt"
		}
	}
	if m.To[1].Local != "b" || len(tally.Far(c, 0, api.Mail{})) != 0 {
		t.Error("the argument was changed")
	}
}

// TestProperties is promise P26.2: T1 and T4, counted with these functions.
func TestProperties(t *testing.T) {
	rnd := rand.New(rand.NewSource(1))
	for range 30 {
		w, e := world.New(config())
		if e != api.OK {
			t.Fatal(e)
		}
		feed := func(i int, s string) {
			if e := w.Do(api.Step{Kind: api.StepBytes, Site: i, Bytes: []byte(s)}); e != api.OK {
				t.Fatal(e)
			}
		}
		count := 1 + rnd.Intn(8)
		for k := range count {
			feed(k%2, fmt.Sprintf("EHLO me\r\nMAIL FROM:<f@x>\r\nRCPT TO:<a%d@n.example>\r\nRCPT TO:<b%d@s.example>\r\nDATA\r\n%d %s\r\n.\r\n", k, k, k, strings.Repeat("z y", rnd.Intn(300))))
		}
		// Frames are copied, dropped, spoilt and delivered in any order.
		for range 400 {
			n := rnd.Intn(len(w.Letters()) + 1)
			kind := []int{api.StepDeliver, api.StepDeliver, api.StepDeliver, api.StepCopy, api.StepDrop, api.StepSpoil, api.StepTick, api.StepTick}[rnd.Intn(8)]
			w.Do(api.Step{Kind: kind, Site: rnd.Intn(2), N: n, At: rnd.Int(), Bits: rnd.Int()})
		}
		for len(w.Letters()) > 0 {
			w.Do(api.Step{Kind: api.StepDrop})
		}
		bound := tally.Bound(w.Site(0).Spool()) + tally.Bound(w.Site(1).Spool())
		ticks := 0
		for ; tally.Waits(w.Site(0).Spool())+tally.Waits(w.Site(1).Spool()) > 0 && ticks <= bound; ticks++ {
			for i := range 2 {
				w.Do(api.Step{Kind: api.StepTick, Site: i})
			}
			for len(w.Letters()) > 0 {
				w.Do(api.Step{Kind: api.StepDeliver})
			}
		}
		if ticks > bound {
			t.Fatal("mails are waiting after", ticks, "ticks")
		}
		l := w.Events()
		if len(l) != 2*count || tally.Count(l) != len(l) {
			t.Fatal(len(l), tally.Count(l), count)
		}
		for _, v := range l {
			if mails, bounces := tally.Of(l, v.Site, v.To, v.Body); mails != 1 || bounces != 0 {
				t.Fatal(mails, bounces)
			}
		}
	}
}
