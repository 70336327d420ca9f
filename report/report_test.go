package report_test

import (
	"bytes"
	"strings"
	"testing"

	"wherry/api"
	"wherry/report"
)

const known = "From: <postmaster@s.example>\r\n" +
	"To: <a.b@c.example>\r\n" +
	"Subject: Undelivered mail\r\n" +
	"Content-Type: multipart/report; report-type=delivery-status; boundary=w\r\n" +
	"\r\n" +
	"--w\r\n" +
	"Content-Type: text/plain\r\n" +
	"\r\n" +
	"No way was found to <X@Y.example>.\r\n" +
	"--w\r\n" +
	"Content-Type: message/delivery-status\r\n" +
	"\r\n" +
	"Reporting-MTA: dns; s.example\r\n" +
	"\r\n" +
	"Final-Recipient: rfc822; <X@Y.example>\r\n" +
	"Action: failed\r\n" +
	"Status: 4.4.7\r\n" +
	"--w--\r\n"

func box(local, domain string) api.Path { return api.Path{Local: local, Domain: domain} }

func wrong(t *testing.T, name, s string) {
	t.Helper()
	site, sender, rcpt, e := report.Read([]byte(s))
	if site != "" || sender != (api.Path{}) || rcpt != (api.Path{}) || e != api.ErrForm {
		t.Errorf("%s: %q %v %v %v", name, site, sender, rcpt, e)
	}
}

func TestBuild(t *testing.T) {
	b, e := report.Build("s.example", box("a.b", "c.example"), box("X", "Y.example"))
	if e != api.OK || string(b) != known {
		t.Errorf("%q %v", b, e)
	}
	if n := bytes.Count(b, []byte("\r\n")); n != 18 {
		t.Error(n)
	}
	null, ab := api.Path{Null: true}, box("a", "b")
	for k, c := range []struct {
		site         string
		sender, rcpt api.Path
	}{
		{"", ab, ab}, {"-s", ab, ab}, {"s s", ab, ab}, {"s\r\n", ab, ab}, {strings.Repeat("s", 64), ab, ab}, {"s", null, ab}, {"s", ab, null}, {"s", null, null}, {"s", api.Path{}, ab}, {"s", ab, api.Path{}}, {"s", box("a", "b_"), ab}, {"s", ab, box("a..b", "c")}, {"s", api.Path{Null: true, Local: "a", Domain: "b"}, ab}, {"s", ab, box("a", "")},
	} {
		if b, e := report.Build(c.site, c.sender, c.rcpt); len(b) != 0 || e != api.ErrForm {
			t.Errorf("%d %q %v", k, b, e)
		}
	}
}

func TestReadWrong(t *testing.T) {
	wrong(t, "nothing", "")
	wrong(t, "line ends", strings.Repeat("\r\n", 18))
	wrong(t, "line feeds", strings.ReplaceAll(known, "\r\n", "\n"))
	wrong(t, "more", known+"x")
	wrong(t, "a line more", known+"\r\n")
	wrong(t, "twice", known+known)
	wrong(t, "null sender", strings.ReplaceAll(known, "<a.b@c.example>", "<>"))
	wrong(t, "null recipient", strings.ReplaceAll(known, "<X@Y.example>", "<>"))
	wrong(t, "no sender", strings.ReplaceAll(known, "<a.b@c.example>", ""))
	wrong(t, "bad sender", strings.ReplaceAll(known, "<a.b@c.example>", "<a..b@c.example>"))
	wrong(t, "bad recipient", strings.ReplaceAll(known, "<X@Y.example>", "<X@Y..example>"))
	wrong(t, "bad site", strings.ReplaceAll(known, "s.example", "s_.example"))
	wrong(t, "no site", strings.ReplaceAll(known, "s.example", ""))
	wrong(t, "another site in From", strings.Replace(known, "s.example", "t.example", 1))
	wrong(t, "another recipient in the text", strings.Replace(known, "<X@Y.example>", "<x@Y.example>", 1))
	wrong(t, "another case", strings.Replace(known, "Subject", "subject", 1))
	for cut := range len(known) {
		wrong(t, "cut", known[:cut])
		changed := []byte(known)
		changed[cut] ^= 1
		if _, _, _, e := report.Read(changed); e == api.OK && !strings.Contains(known[max(0, cut-20):cut+1], "To: <") {
			t.Errorf("%q is no report", changed)
		}
	}
	b := []byte(known)
	if _, _, _, e := report.Read(b[:len(b)-1]); e != api.ErrForm {
		t.Error("memory beyond the length was read")
	}
}

// TestInverse is promise P16.2.
func TestInverse(t *testing.T) {
	long := strings.Repeat(strings.Repeat("d", 63)+".", 4)[:255]
	paths := []api.Path{box("a", "b"), box("A.b!#$%&'*+-/=?^_`{|}~", "C-d.example"), box(strings.Repeat("l", 64), long), box("To", "Reporting-MTA")}
	for _, site := range []string{"s", "S.example", long} {
		for _, sender := range paths {
			for _, rcpt := range paths {
				b, e := report.Build(site, sender, rcpt)
				before := bytes.Clone(b)
				gotSite, gotSender, gotRcpt, e2 := report.Read(b)
				if e != api.OK || e2 != api.OK || gotSite != site || gotSender != sender || gotRcpt != rcpt || !bytes.Equal(b, before) {
					t.Error(site, sender, rcpt, gotSite, gotSender, gotRcpt, e, e2)
				}
			}
		}
	}
}
