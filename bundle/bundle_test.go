package bundle_test

import (
	"bytes"
	"fmt"
	"hash/crc32"
	"math"
	"math/rand"
	"slices"
	"strings"
	"testing"

	"wherry/api"
	"wherry/bundle"
)

func box(local, domain string) api.Path { return api.Path{Local: local, Domain: domain} }

var null = api.Path{Null: true}

func mail(from api.Path, body string, to ...api.Path) api.Mail {
	return api.Mail{From: from, To: to, Body: []byte(body)}
}

func text(p api.Path) string {
	if p.Null {
		return "<>"
	}
	return "<" + p.Local + "@" + p.Domain + ">"
}

func slowCommands(l []api.Mail) string {
	s := ""
	for _, m := range l {
		s += "MAIL FROM:" + text(m.From) + "\r\n"
		for _, p := range m.To {
			s += "RCPT TO:" + text(p) + "\r\n"
		}
		s += "DATA" + strings.ReplaceAll("\r\n"+string(m.Body), "\r\n.", "\r\n..") + ".\r\n"
	}
	return s + "QUIT\r\n"
}

// framed puts a first line before commands.
func framed(origin, number, mails int, c string) string {
	return fmt.Sprintf("BUNDLE %d %d %d %d %d\r\n%s", origin, number, mails, len(c), crc32.ChecksumIEEE([]byte(c)), c)
}

func slowBytes(b api.Bundle) string {
	return framed(b.Origin, b.Number, len(b.Mails), slowCommands(b.Mails))
}

func one(m api.Mail) api.Bundle { return api.Bundle{Number: 1, Mails: []api.Mail{m}} }

func same(a, b api.Bundle) bool { return fmt.Sprintf("%v", a) == fmt.Sprintf("%v", b) }

func isZero(b api.Bundle) bool { return b.Origin == 0 && b.Number == 0 && len(b.Mails) == 0 }

// sized gives a mail whose bundle has n bytes, alone with this origin and number.
func sized(t *testing.T, n, origin, number int) api.Mail {
	// How long the checksum is depends on the letter.
	for size, letter := n-120, 'a'; size < n; letter++ {
		if letter > 'z' {
			size, letter = size+1, 'a'
		}
		m := mail(box("a", "b"), strings.Repeat(string(letter), size-2)+"\r\n", box("c", "d"))
		if len(slowBytes(api.Bundle{Origin: origin, Number: number, Mails: []api.Mail{m}})) == n {
			return m
		}
	}
	t.Fatal("no mail of this size")
	return api.Mail{}
}

func goodBundles(t *testing.T) []api.Bundle {
	ab, cd := box("a", "b"), box("C.d", "E-f.example")
	l := []api.Bundle{
		one(mail(null, "", ab)), one(mail(ab, "", cd)), one(mail(ab, ".\r\n..\r\nQUIT\r\nMAIL FROM:<>\r\n\r\n", cd, ab, cd, cd, cd, cd, cd, cd)),
		{Origin: 1, Number: 65535, Mails: []api.Mail{mail(null, "x\r\n", ab), mail(null, "x\r\n", ab), mail(cd, ".\r\n", ab, cd), mail(cd, "\r\n", ab)}},
		one(sized(t, 4096, 0, 1)), one(sized(t, 4095, 0, 1)), one(mail(null, "\x00\xff\r\n", ab)),
	}
	rnd := rand.New(rand.NewSource(1))
	for range 200 {
		b := api.Bundle{Origin: rnd.Intn(2), Number: 1 + rnd.Intn(65535)}
		for range 1 + rnd.Intn(4) {
			body := ""
			for range rnd.Intn(6) {
				body += []string{".", "..", "\r\n", "a", "DATA\r\n", ".\r\n"}[rnd.Intn(6)]
			}
			if body != "" {
				body += "\r\n"
			}
			b.Mails = append(b.Mails, mail([]api.Path{null, ab, cd}[rnd.Intn(3)], body, slices.Repeat([]api.Path{ab, cd}, 1+rnd.Intn(4))[rnd.Intn(2):]...))
		}
		l = append(l, b)
	}
	return l
}

func badBundles() []api.Bundle {
	ab := box("a", "b")
	good := mail(ab, "x\r\n", ab)
	with := func(change func(m *api.Mail)) api.Bundle {
		m := good
		change(&m)
		return api.Bundle{Number: 1, Mails: []api.Mail{good, m}}
	}
	mails := func(n int) []api.Mail { return slices.Repeat([]api.Mail{good}, n) }
	return []api.Bundle{
		{}, {Number: 1}, {Origin: 2, Number: 1, Mails: mails(1)}, {Origin: -1, Number: 1, Mails: mails(1)}, {Number: 0, Mails: mails(1)}, {Number: -1, Mails: mails(1)}, {Number: 65536, Mails: mails(1)}, {Number: math.MaxInt, Mails: mails(1)}, {Number: 1, Mails: mails(5)},
		with(func(m *api.Mail) { m.From = api.Path{} }), with(func(m *api.Mail) { m.From = box("a", "") }), with(func(m *api.Mail) { m.From.Null = true }),
		with(func(m *api.Mail) { m.To = nil }), with(func(m *api.Mail) { m.To = []api.Path{ab, null} }), with(func(m *api.Mail) { m.To = []api.Path{box("a b", "c"), ab} }), with(func(m *api.Mail) { m.To = slices.Repeat([]api.Path{ab}, 9) }),
		with(func(m *api.Mail) { m.Body = []byte("x") }), with(func(m *api.Mail) { m.Body = []byte("x\n") }), with(func(m *api.Mail) { m.Body = []byte("\r\r\n") }), with(func(m *api.Mail) { m.Body = []byte(strings.Repeat("x", 4095) + "\r\n") }),
		with(func(m *api.Mail) { m.Quiet = true }), with(func(m *api.Mail) { m.Helo = "h" }), with(func(m *api.Mail) { m.At = 1 }), with(func(m *api.Mail) { m.At = -1 }),
	}
}

func TestCheckAndBytes(t *testing.T) {
	for k, b := range goodBundles(t) {
		before := fmt.Sprintf("%v", b)
		if e := bundle.Check(b); e != api.OK {
			t.Error(k, e)
		}
		if got, e := bundle.Bytes(b); e != api.OK || string(got) != slowBytes(b) {
			t.Errorf("%d %q %v", k, got, e)
		}
		if fmt.Sprintf("%v", b) != before {
			t.Error(k, "the argument was changed")
		}
	}
	for k, b := range badBundles() {
		if e := bundle.Check(b); e != api.ErrForm {
			t.Error(k, e)
		}
		if got, e := bundle.Bytes(b); e != api.ErrForm || len(got) != 0 {
			t.Errorf("%d %q %v", k, got, e)
		}
	}
}

func TestBytesTooMany(t *testing.T) {
	body := strings.Repeat("x", 4094) + "\r\n"
	for k, b := range []api.Bundle{one(sized(t, 4097, 0, 1)), one(mail(null, body, box("a", "b"))), {Number: 1, Mails: slices.Repeat([]api.Mail{sized(t, 1400, 0, 1)}, 3)}} {
		if e := bundle.Check(b); e != api.OK {
			t.Error(k, e)
		}
		if got, e := bundle.Bytes(b); e != api.ErrLen || len(got) != 0 {
			t.Error(k, len(got), e)
		}
	}
}

func TestBytesKnown(t *testing.T) {
	c := "MAIL FROM:<>\r\nRCPT TO:<a@b>\r\nDATA\r\n.\r\nQUIT\r\n"
	want := fmt.Sprintf("BUNDLE 0 1 1 44 %d\r\n", crc32.ChecksumIEEE([]byte(c))) + c
	if got, e := bundle.Bytes(one(mail(null, "", box("a", "b")))); e != api.OK || string(got) != want {
		t.Errorf("%q %v", got, e)
	}
}

func TestReadErrors(t *testing.T) {
	const m = "MAIL FROM:<>\r\nRCPT TO:<a@b>\r\nDATA\r\nx\r\n.\r\n"
	good := m + "QUIT\r\n"
	sum := func(c string) string { return fmt.Sprint(crc32.ChecksumIEEE([]byte(c))) }
	size := fmt.Sprint(len(good))
	long := slowCommands([]api.Mail{mail(null, strings.Repeat("x", 4094)+"\r\n", box("a", "b"))})
	for k, c := range []struct {
		s string
		e api.Errno
	}{
		{framed(0, 1, 1, good), 0}, {framed(1, 65535, 1, good), 0},
		{"", api.ErrForm}, {"\r\n", api.ErrForm}, {"BUNDLE", api.ErrForm}, {"BUNDLE 0 1 1 0 0", api.ErrForm}, {"BUNDLE 0 1 1 0 7", api.ErrForm}, {"BUNDLE 0 1 1 0 0\r\n", api.ErrForm}, {"BUNDLE 0 1 1 0 7\r\n", api.ErrSum}, {"BUNDLE 0 1 0 0 0\r\n", api.ErrForm},
		{framed(2, 1, 1, good), api.ErrForm}, {framed(0, 0, 1, good), api.ErrForm}, {framed(0, 65536, 1, good), api.ErrForm}, {framed(0, 9999999999, 1, good), api.ErrForm}, {framed(0, 1, 2, good), api.ErrForm}, {framed(0, 1, 0, good), api.ErrForm}, {framed(0, 1, 1, m), api.ErrForm}, {framed(0, 1, 1, "QUIT\r\n"), api.ErrForm}, {framed(0, 1, 0, "QUIT\r\n"), api.ErrForm}, {framed(0, 1, 1, ""), api.ErrForm},
		{framed(0, 1, 4, strings.Repeat(m, 4)+"QUIT\r\n"), 0}, {framed(0, 1, 5, strings.Repeat(m, 5)+"QUIT\r\n"), api.ErrForm}, {framed(0, 1, 4, strings.Repeat(m, 5)+"QUIT\r\n"), api.ErrForm}, {framed(0, 1, 1, good+"QUIT\r\n"), api.ErrForm}, {framed(0, 1, 1, good+"x"), api.ErrForm}, {framed(0, 1, 1, m+m), api.ErrForm},
		{framed(0, 1, 1, strings.Replace(good, "MAIL FROM", "mail from", 1)), api.ErrForm}, {framed(0, 1, 1, strings.Replace(good, "DATA", "data", 1)), api.ErrForm}, {framed(0, 1, 1, strings.Replace(good, "<a@b>", "<>", 1)), api.ErrForm}, {framed(0, 1, 1, strings.Replace(good, "<a@b>", "<a..b@b>", 1)), api.ErrForm}, {framed(0, 1, 1, strings.Replace(good, "<a@b>", "<a@b> ", 1)), api.ErrForm}, {framed(0, 1, 1, strings.Replace(good, "<>", "<> SIZE=3", 1)), api.ErrForm}, {framed(0, 1, 1, strings.Replace(good, "RCPT TO:<a@b>\r\n", "", 1)), api.ErrForm}, {framed(0, 1, 1, strings.Replace(good, "RCPT TO:<a@b>\r\n", strings.Repeat("RCPT TO:<a@b>\r\n", 8), 1)), 0}, {framed(0, 1, 1, strings.Replace(good, "RCPT TO:<a@b>\r\n", strings.Repeat("RCPT TO:<a@b>\r\n", 9), 1)), api.ErrForm},
		{framed(0, 1, 1, strings.Replace(good, "x\r\n", ".x\r\n", 1)), api.ErrForm}, {framed(0, 1, 1, strings.Replace(good, "x\r\n", "..x\r\n", 1)), 0}, {framed(0, 1, 1, strings.Replace(good, "x\r\n", "x\n\r\n", 1)), api.ErrForm}, {framed(0, 1, 1, strings.Replace(good, ".\r\n", "", 1)), api.ErrForm}, {framed(0, 1, 1, strings.Replace(good, "QUIT\r\n", "QUIT", 1)), api.ErrForm}, {framed(0, 1, 1, strings.ReplaceAll(good, "\r\n", "\n")), api.ErrForm}, {framed(0, 1, 1, "RSET\r\n"+good), api.ErrForm},
		{framed(0, 1, 1, long), api.ErrForm}, {framed(0, 1, 1, strings.Repeat("x", 9000)), api.ErrForm},
		// The first line.
		{"BUNDLE 0 1 1 " + size + " 0\r\n" + good, api.ErrSum}, {"BUNDLE 0 1 1 " + size + " 9999999999\r\n" + good, api.ErrSum}, {"BUNDLE 0 1 1 " + size + " " + sum(good) + "0\r\n" + good, api.ErrSum}, {"BUNDLE 0 1 1 " + size + " 10000000000\r\n" + good, api.ErrForm}, {"BUNDLE 0 10000000000 1 " + size + " 0\r\n" + good, api.ErrForm}, {"BUNDLE 0 9999999999 9999999999 " + size + " 0\r\n" + good, api.ErrSum},
		{"BUNDLE 2 1 1 " + size + " 0\r\n" + good, api.ErrForm}, {"BUNDLE 0 0 0 " + size + " 0\r\n" + good, api.ErrSum}, {"BUNDLE 0 1 1 " + size + " " + sum(good) + "\r\n" + good[:len(good)-1], api.ErrForm}, {"BUNDLE 0 1 1 " + size + " 0\r\n" + good + "x", api.ErrForm}, {"BUNDLE 0 1 1 9999999999 0\r\n" + good, api.ErrForm},
		{"BUNDLE 00 1 1 " + size + " 0\r\n" + good, api.ErrForm}, {"BUNDLE 0 01 1 " + size + " 0\r\n" + good, api.ErrForm}, {"BUNDLE 0 1 1 0" + size + " 0\r\n" + good, api.ErrForm}, {"BUNDLE 0 1 1 " + size + " 00\r\n" + good, api.ErrForm}, {"BUNDLE 0 1 1 " + size + " -1\r\n" + good, api.ErrForm}, {"BUNDLE 0 1 +1 " + size + " 0\r\n" + good, api.ErrForm}, {"BUNDLE 0 1 1 " + size + "\r\n" + good, api.ErrForm}, {"BUNDLE 0 1 1 " + size + " 0 0\r\n" + good, api.ErrForm}, {"BUNDLE 0 1 1 " + size + " 0 \r\n" + good, api.ErrForm}, {"BUNDLE  0 1 1 " + size + " 0\r\n" + good, api.ErrForm}, {" BUNDLE 0 1 1 " + size + " 0\r\n" + good, api.ErrForm}, {"bundle 0 1 1 " + size + " 0\r\n" + good, api.ErrForm}, {"BUNDLE 0 1 1 " + size + " 0\n" + good, api.ErrForm}, {"BUNDLE 0 1 x " + size + " 0\r\n" + good, api.ErrForm}, {"BUNDLE 0 1 1 " + size + " 0\r" + good, api.ErrForm}, {"BUNDLE0 1 1 " + size + " 0 0\r\n" + good, api.ErrForm},
	} {
		b, e := bundle.Read([]byte(c.s))
		if e != c.e || e != api.OK && !isZero(b) {
			t.Errorf("%d %q %v %v", k, c.s, b, e)
		}
	}
	b := []byte(framed(0, 1, 1, good))
	if _, e := bundle.Read(b[:len(b)-1]); e != api.ErrForm {
		t.Error("memory beyond the length was read")
	}
}

func TestPack(t *testing.T) {
	ab := box("a", "b")
	small := mail(ab, "x\r\n", ab)
	marked := api.Mail{From: ab, To: []api.Path{ab}, Body: []byte("x\r\n"), Quiet: true, Helo: "h", At: 9}
	lone := mail(ab, "x\r\n")
	huge := mail(ab, strings.Repeat("x", 4094)+"\r\n", ab)
	half := mail(ab, strings.Repeat("x", 1900)+"\r\n", ab)
	for k, c := range []struct {
		l              []api.Mail
		origin, number int
		n              int
	}{
		{nil, 0, 1, 0}, {[]api.Mail{small}, 0, 1, 1}, {[]api.Mail{marked, small}, 1, 65535, 2}, {slices.Repeat([]api.Mail{marked}, 4), 0, 1, 4}, {slices.Repeat([]api.Mail{small}, 5), 0, 1, 4}, {slices.Repeat([]api.Mail{small}, 60), 0, 1, 4},
		{[]api.Mail{small}, 2, 1, 0}, {[]api.Mail{small}, -1, 1, 0}, {[]api.Mail{small}, 0, 0, 0}, {[]api.Mail{small}, 0, 65536, 0}, {[]api.Mail{lone, small}, 0, 1, 0}, {[]api.Mail{small, lone, small}, 0, 1, 1}, {[]api.Mail{huge, small}, 0, 1, 0}, {[]api.Mail{small, small, huge}, 0, 1, 2},
		{[]api.Mail{half, half, small}, 0, 1, 3}, {[]api.Mail{half, half, half}, 0, 1, 2}, {[]api.Mail{small, small, small, small, lone}, 0, 1, 4}, {[]api.Mail{sized(t, 4096, 0, 7)}, 0, 7, 1}, {[]api.Mail{sized(t, 4097, 0, 7)}, 0, 7, 0}, {[]api.Mail{sized(t, 4096, 0, 7)}, 0, 65535, 0},
	} {
		before := fmt.Sprintf("%v", c.l)
		want := api.OK
		if c.n == 0 {
			want = api.ErrNone
		}
		if n, e := bundle.Pack(c.l, c.origin, c.number); n != c.n || e != want {
			t.Error(k, n, e)
		}
		if fmt.Sprintf("%v", c.l) != before {
			t.Error(k, "the argument was changed")
		}
	}
}

// TestRoomIsLeft has a body and recipients with unused capacity, which must stay as it is.
func TestRoomIsLeft(t *testing.T) {
	body := append([]byte("x\r\n"), "unused capacity"...)
	to := []api.Path{box("a", "b"), box("c", "d"), box("e", "f")}
	mails := []api.Mail{{From: null, To: to[:1], Body: body[:3]}, {From: null, To: to[:2], Body: body[:3], Quiet: true}}
	before := fmt.Sprint(body, to, mails)
	b := api.Bundle{Number: 1, Mails: mails[:1]}
	first, e := bundle.Bytes(b)
	for i := range first[:cap(first)] {
		first[:cap(first)][i] = 0
	}
	n, e2 := bundle.Pack(mails, 0, 1)
	second, e3 := bundle.Bytes(b)
	if e != api.OK || e2 != api.OK || e3 != api.OK || n != 2 || string(second) != slowBytes(b) || fmt.Sprint(body, to, mails) != before {
		t.Error(fmt.Sprint(body, to, mails), n, string(second))
	}
}

// TestInverse is promise P17.2.
func TestInverse(t *testing.T) {
	for k, b := range goodBundles(t) {
		s, e := bundle.Bytes(b)
		before := bytes.Clone(s)
		got, e2 := bundle.Read(s)
		if e != api.OK || e2 != api.OK || !same(got, b) {
			t.Fatalf("%d %v %v %v", k, got, e, e2)
		}
		for _, m := range got.Mails {
			for i := range m.Body {
				m.Body[i] ^= 255
			}
		}
		if !bytes.Equal(s, before) {
			t.Fatal("the result shares memory with the argument")
		}
	}
}

// TestReadsOnlyWhatBytesWrites changes bundles at random; what is read all the same has the changed bytes.
func TestReadsOnlyWhatBytesWrites(t *testing.T) {
	rnd := rand.New(rand.NewSource(2))
	for _, b := range goodBundles(t)[:60] {
		for range 60 {
			c := []byte(slowCommands(b.Mails))
			at := rnd.Intn(len(c))
			if rnd.Intn(2) == 0 {
				c = slices.Delete(c, at, min(len(c), at+1+rnd.Intn(3)))
			} else {
				c[at] = "\r\n.<>@aD"[rnd.Intn(8)]
			}
			s := framed(b.Origin, b.Number, len(b.Mails), string(c))
			got, e := bundle.Read([]byte(s))
			if e == api.OK {
				if back, e := bundle.Bytes(got); e != api.OK || string(back) != s {
					t.Fatalf("%q %q %v", s, back, e)
				}
			} else if e != api.ErrForm || !isZero(got) {
				t.Fatalf("%q %v %v", s, got, e)
			}
		}
	}
}
