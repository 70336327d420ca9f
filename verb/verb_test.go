package verb_test

import (
	"math/rand"
	"reflect"
	"regexp"
	"slices"
	"strings"
	"testing"

	"wherry/api"
	"wherry/verb"
)

const (
	atoms   = "[A-Za-z0-9!#$%&'*+\\-/=?^_`{|}~]+(?:\\.[A-Za-z0-9!#$%&'*+\\-/=?^_`{|}~]+)*"
	domains = `[A-Za-z0-9](?:[A-Za-z0-9-]{0,61}[A-Za-z0-9])?(?:\.[A-Za-z0-9](?:[A-Za-z0-9-]{0,61}[A-Za-z0-9])?)*`
)

var (
	firstForm  = regexp.MustCompile(`^(?i:ehlo|helo|mail|rcpt|data|rset|quit|noop|vrfy|etrn|auth|atrn)(?: |$)`)
	ehloForm   = regexp.MustCompile(`^(?i:EHLO|HELO) (` + domains + `)$`)
	mailForm   = regexp.MustCompile(`^(?i:MAIL FROM:)<(?:(` + atoms + `)@(` + domains + `))?>((?: [A-Za-z]+=[0-9A-Za-z]*)*)$`)
	rcptForm   = regexp.MustCompile(`^(?i:RCPT TO:)<(` + atoms + `)@(` + domains + `)>((?: [A-Za-z]+=[0-9A-Za-z]*)*)$`)
	plainForm  = regexp.MustCompile(`^(?i:(DATA)|(RSET)|(QUIT)|(NOOP)(?: .*)?|(AUTH CRAM-MD5)|(ATRN))$`)
	vrfyForm   = regexp.MustCompile(`^(?i:VRFY) (.+)$`)
	etrnForm   = regexp.MustCompile(`^(?i:ETRN) (` + domains + `)$`)
	atrnForm   = regexp.MustCompile(`^(?i:ATRN) (` + domains + `)$`)
	authForm   = regexp.MustCompile(`^(?i:AUTH) [A-Za-z0-9-]+$`)
	numberForm = regexp.MustCompile(`^(?:0|[1-9][0-9]{0,8})$`)
)

// slowParams reads the parameters of a line by the words of the chapter.
func slowParams(kind int, s string) ([]api.Param, bool) {
	var l []api.Param
	for _, part := range strings.Fields(s) {
		key, val, _ := strings.Cut(strings.ToUpper(part), "=")
		good := false
		switch key {
		case "SIZE":
			good = kind == api.CmdMail && numberForm.MatchString(val)
		case "RET":
			good = kind == api.CmdMail && (val == "FULL" || val == "HDRS")
		case "NOTIFY":
			good = kind == api.CmdRcpt && (val == "NEVER" || val == "FAILURE")
		}
		for _, p := range l {
			good = good && p.Key != key
		}
		if !good {
			return nil, false
		}
		l = append(l, api.Param{Key: key, Val: val})
	}
	return l, true
}

func slowPathCommand(kind int, m []string) (api.Cmd, int) {
	l, ok := slowParams(kind, m[3])
	if !ok || len(m[1]) > 64 || len(m[2]) > 255 {
		return api.Cmd{}, 501
	}
	return api.Cmd{Kind: kind, Path: api.Path{Null: m[1] == "", Local: m[1], Domain: m[2]}, Params: l}, 0
}

func slowParse(line string) (api.Cmd, int) {
	for _, c := range []byte(line) {
		if c < 32 || c > 126 {
			return api.Cmd{}, 500
		}
	}
	if len(line) > 510 || !firstForm.MatchString(line) {
		return api.Cmd{}, 500
	}
	for form, kind := range map[*regexp.Regexp]int{ehloForm: api.CmdEhlo, vrfyForm: api.CmdVrfy, etrnForm: api.CmdEtrn, atrnForm: api.CmdAtrn} {
		if m := form.FindStringSubmatch(line); m != nil && (len(m[1]) <= 255 || kind == api.CmdVrfy) {
			return api.Cmd{Kind: kind, Text: m[1]}, 0
		}
	}
	if m := mailForm.FindStringSubmatch(line); m != nil {
		return slowPathCommand(api.CmdMail, m)
	}
	if m := rcptForm.FindStringSubmatch(line); m != nil {
		return slowPathCommand(api.CmdRcpt, m)
	}
	if m := plainForm.FindStringSubmatch(line); m != nil {
		kinds := []int{0, api.CmdData, api.CmdRset, api.CmdQuit, api.CmdNoop, api.CmdAuth, api.CmdAtrn}
		for i := 1; i < len(m); i++ {
			if m[i] != "" {
				return api.Cmd{Kind: kinds[i]}, 0
			}
		}
	}
	if authForm.MatchString(line) {
		return api.Cmd{}, 504
	}
	return api.Cmd{}, 501
}

func same(a, b api.Cmd) bool {
	return a.Kind == b.Kind && a.Text == b.Text && a.Path == b.Path && slices.Equal(a.Params, b.Params)
}

func box(local, domain string) api.Path { return api.Path{Local: local, Domain: domain} }

func long(n int) string { return strings.Repeat(strings.Repeat("d", 63)+".", 4)[:n] }

type line struct {
	s    string
	cmd  api.Cmd
	code int
}

func good(s string, c api.Cmd) line { return line{s: s, cmd: c} }
func bad(code int, s string) line   { return line{s: s, code: code} }

func lines() []line {
	ab, size5 := box("a", "b"), api.Param{Key: "SIZE", Val: "5"}
	mail := func(p api.Path, l ...api.Param) api.Cmd { return api.Cmd{Kind: api.CmdMail, Path: p, Params: l} }
	rcpt := func(p api.Path, l ...api.Param) api.Cmd { return api.Cmd{Kind: api.CmdRcpt, Path: p, Params: l} }
	text := func(kind int, s string) api.Cmd { return api.Cmd{Kind: kind, Text: s} }
	null := api.Path{Null: true}
	return []line{
		good("EHLO a.example", text(api.CmdEhlo, "a.example")), good("helo A.Example", text(api.CmdEhlo, "A.Example")), good("eHlO a", text(api.CmdEhlo, "a")), good("EHLO "+long(255), text(api.CmdEhlo, long(255))),
		bad(501, "EHLO"), bad(501, "EHLO "), bad(501, "EHLO  a"), bad(501, "EHLO a "), bad(501, "EHLO a b"), bad(501, "EHLO [1.2.3.4]"), bad(501, "HELO -a"), bad(501, "EHLO "+long(255)+"d"), good("EHLO "+long(192)+strings.Repeat("e", 61)+".e", text(api.CmdEhlo, long(192)+strings.Repeat("e", 61)+".e")), bad(501, "EHLO "+long(192)+strings.Repeat("e", 62)+".e"), bad(500, "EHLOa"), bad(500, "EHL a"), bad(500, " EHLO a"), bad(500, "HELOO a"),
		good("mail from:<> size=5", mail(null, size5)), good("MAIL FROM:<a@b>", mail(ab)), good("MAIL FROM:<a@b> SIZE=5 RET=full", mail(ab, size5, api.Param{Key: "RET", Val: "FULL"})), good("MAIL FROM:<a@b> ret=Hdrs Size=5", mail(ab, api.Param{Key: "RET", Val: "HDRS"}, size5)),
		good("MAIL FROM:<a@b> SIZE=0", mail(ab, api.Param{Key: "SIZE", Val: "0"})), good("MAIL FROM:<a@b> SIZE=999999999", mail(ab, api.Param{Key: "SIZE", Val: "999999999"})), good("MAIL FROM:<A@B>", mail(box("A", "B"))),
		good("MAIL FROM:<"+strings.Repeat("l", 64)+"@"+long(255)+">", mail(box(strings.Repeat("l", 64), long(255)))), bad(501, "MAIL FROM:<"+strings.Repeat("l", 65)+"@b>"), bad(501, "MAIL FROM:<l@"+long(255)+"d>"),
		bad(501, "MAIL"), bad(501, "MAIL "), bad(501, "MAIL FROM:"), bad(501, "MAIL FROM: <a@b>"), bad(501, "MAIL FROM<a@b>"), bad(501, "MAIL  FROM:<a@b>"), bad(501, "MAIL TO:<a@b>"), bad(501, "MAIL FROM:a@b"), bad(501, "MAIL FROM:<a@b"), bad(501, "MAIL FROM:<a@b>x"), bad(501, "MAIL FROM:<a@b>>"), bad(501, "MAIL FROM:<a b@c>"),
		bad(501, "MAIL FROM:<a@b> "), bad(501, "MAIL FROM:<a@b>  SIZE=5"), bad(501, "MAIL FROM:<a@b> SIZE=5 "), bad(501, "MAIL FROM:<a@b>SIZE=5"), bad(501, "MAIL FROM:<a@b> SIZE"), bad(501, "MAIL FROM:<a@b> SIZE="), bad(501, "MAIL FROM:<a@b> SIZE=05"), bad(501, "MAIL FROM:<a@b> SIZE=-5"), bad(501, "MAIL FROM:<a@b> SIZE=5a"), bad(501, "MAIL FROM:<a@b> SIZE=1000000000"), bad(501, "MAIL FROM:<a@b> SIZE=5=5"),
		bad(501, "MAIL FROM:<a@b> SIZE=5 SIZE=5"), bad(501, "MAIL FROM:<a@b> SIZE=5 size=6"), bad(501, "MAIL FROM:<a@b> RET=FULL RET=HDRS"), bad(501, "MAIL FROM:<a@b> RET=BODY"), bad(501, "MAIL FROM:<a@b> RET"), bad(501, "MAIL FROM:<a@b> BODY=8BITMIME"), bad(501, "MAIL FROM:<a@b> NOTIFY=NEVER"), bad(501, "MAIL FROM:<a@b> =5"), bad(501, "MAIL FROM:<a@b> SIZE=5 x"), bad(500, "MAILFROM:<a@b>"),
		good("RCPT TO:<a@b>", rcpt(ab)), good("rcpt to:<a@b> notify=never", rcpt(ab, api.Param{Key: "NOTIFY", Val: "NEVER"})), good("RCPT TO:<a@b> NOTIFY=Failure", rcpt(ab, api.Param{Key: "NOTIFY", Val: "FAILURE"})),
		bad(501, "RCPT TO:<>"), bad(501, "RCPT TO:<> NOTIFY=NEVER"), bad(501, "RCPT FROM:<a@b>"), bad(501, "RCPT TO:<a@b> NOTIFY=DELAY"), bad(501, "RCPT TO:<a@b> NOTIFY="), bad(501, "RCPT TO:<a@b> NOTIFY=NEVER NOTIFY=NEVER"), bad(501, "RCPT TO:<a@b> SIZE=5"), bad(501, "RCPT TO:<a@b> RET=FULL"), bad(501, "RCPT"),
		good("DATA", text(api.CmdData, "")), good("data", text(api.CmdData, "")), bad(501, "DATA "), bad(501, "DATA x"), bad(500, "DATAx"), good("Rset", text(api.CmdRset, "")), bad(501, "RSET "), good("QUIT", text(api.CmdQuit, "")), bad(501, "QUIT now"),
		good("NOOP", text(api.CmdNoop, "")), good("NOOP ", text(api.CmdNoop, "")), good("noop any  text ", text(api.CmdNoop, "")), bad(500, "NOOPx"), bad(500, "NOOP\tx"), bad(500, "NOOP \x7f"), bad(500, "NOOP \x1f"), bad(500, "NOOP \xff"), good("NOOP ~", text(api.CmdNoop, "")),
		good("VRFY x", text(api.CmdVrfy, "x")), good("vrfy  ", text(api.CmdVrfy, " ")), good("VRFY a b <c>", text(api.CmdVrfy, "a b <c>")), bad(501, "VRFY"), bad(501, "VRFY "), good("VRFY "+strings.Repeat("x", 505), text(api.CmdVrfy, strings.Repeat("x", 505))), bad(500, "VRFY "+strings.Repeat("x", 506)),
		good("ETRN b.example", text(api.CmdEtrn, "b.example")), bad(501, "ETRN"), bad(501, "ETRN @b"), bad(501, "ETRN "), bad(501, "ETRN a b"),
		good("AUTH CRAM-MD5", text(api.CmdAuth, "")), good("auth cram-md5", text(api.CmdAuth, "")), bad(504, "AUTH PLAIN"), bad(504, "auth x"), bad(504, "AUTH -"), bad(504, "AUTH 9"), bad(504, "AUTH CRAM-MD"), bad(504, "AUTH CRAM-MD55"), bad(501, "AUTH"), bad(501, "AUTH "), bad(501, "AUTH CRAM-MD5 "), bad(501, "AUTH CRAM-MD5 x"), bad(501, "AUTH PLAIN x"), bad(501, "AUTH  PLAIN"), bad(501, "AUTH PL_AIN"), bad(501, "AUTH PL.AIN"), bad(501, "AUTH @"), bad(501, "AUTH ["), bad(500, "AUTHPLAIN"),
		good("ATRN", text(api.CmdAtrn, "")), good("atrn b.example", text(api.CmdAtrn, "b.example")), bad(501, "ATRN "), bad(501, "ATRN a,b"), bad(501, "ATRN a b"),
		bad(500, ""), bad(500, " "), bad(500, "X"), bad(500, "HELP"), bad(500, "EXPN a"), bad(500, "\x00"), bad(500, "DATA\r"), bad(500, "DATA\r\n"), bad(500, "AUTH PLÄIN"), bad(500, "NOOP"+strings.Repeat(" ", 507)), good("NOOP"+strings.Repeat(" ", 506), text(api.CmdNoop, "")), bad(500, "AUTH "+strings.Repeat("x", 506)), bad(504, "AUTH "+strings.Repeat("x", 505)), bad(501, "MAIL "+strings.Repeat("x", 505)),
	}
}

func TestParse(t *testing.T) {
	for _, c := range lines() {
		slow, slowCode := slowParse(c.s)
		if !same(slow, c.cmd) || slowCode != c.code {
			t.Errorf("%q: the example is none: %v %d", c.s, slow, slowCode)
		}
		if got, code := verb.Parse(c.s); !same(got, c.cmd) || code != c.code {
			t.Errorf("%q: %v %d", c.s, got, code)
		}
	}
}

func TestParseLikeTheForms(t *testing.T) {
	rnd := rand.New(rand.NewSource(1))
	const some = " <>@.:=-0159aAzZ_~\x1f\x7f"
	l := lines()
	for range 40000 {
		b := []byte(l[rnd.Intn(len(l))].s)
		if len(b) > 80 {
			continue
		}
		for range 1 + rnd.Intn(3) {
			at := rnd.Intn(len(b) + 1)
			switch rnd.Intn(4) {
			case 0:
				b = slices.Insert(b, at, some[rnd.Intn(len(some))])
			case 1:
				b = slices.Delete(b, min(at, len(b)), min(at+1, len(b)))
			case 2:
				if at < len(b) && (b[at]|32) >= 'a' && (b[at]|32) <= 'z' {
					b[at] ^= 32
				}
			case 3:
				if at < len(b) {
					b[at] = some[rnd.Intn(len(some))]
				}
			}
		}
		want, wantCode := slowParse(string(b))
		if got, code := verb.Parse(string(b)); !same(got, want) || code != wantCode {
			t.Fatalf("%q: %v %d, not %v %d", b, got, code, want, wantCode)
		}
	}
}

func TestText(t *testing.T) {
	p := func(l ...string) []api.Param {
		var r []api.Param
		for i := 0; i < len(l); i += 2 {
			r = append(r, api.Param{Key: l[i], Val: l[i+1]})
		}
		return r
	}
	ab, null := box("a", "b"), api.Path{Null: true}
	huge := make([]api.Param, 2000)
	for k, c := range []struct {
		c    api.Cmd
		want string
	}{
		{api.Cmd{Kind: api.CmdEhlo, Text: "A.b"}, "EHLO A.b"}, {api.Cmd{Kind: api.CmdMail, Path: null}, "MAIL FROM:<>"}, {api.Cmd{Kind: api.CmdMail, Path: ab, Params: p("RET", "HDRS", "SIZE", "70")}, "MAIL FROM:<a@b> RET=HDRS SIZE=70"},
		{api.Cmd{Kind: api.CmdRcpt, Path: ab, Params: p("NOTIFY", "FAILURE")}, "RCPT TO:<a@b> NOTIFY=FAILURE"}, {api.Cmd{Kind: api.CmdRcpt, Path: ab, Params: p()}, "RCPT TO:<a@b>"},
		{api.Cmd{Kind: api.CmdData}, "DATA"}, {api.Cmd{Kind: api.CmdRset}, "RSET"}, {api.Cmd{Kind: api.CmdVrfy, Text: " x"}, "VRFY  x"}, {api.Cmd{Kind: api.CmdNoop}, "NOOP"}, {api.Cmd{Kind: api.CmdQuit}, "QUIT"}, {api.Cmd{Kind: api.CmdEtrn, Text: "b"}, "ETRN b"}, {api.Cmd{Kind: api.CmdAuth}, "AUTH CRAM-MD5"}, {api.Cmd{Kind: api.CmdAtrn}, "ATRN"}, {api.Cmd{Kind: api.CmdAtrn, Text: "B"}, "ATRN B"},
		{api.Cmd{Kind: api.CmdVrfy, Text: strings.Repeat("v", 505)}, "VRFY " + strings.Repeat("v", 505)},
		// What follows is the result of no line.
		{api.Cmd{}, ""}, {api.Cmd{Kind: 12}, ""}, {api.Cmd{Kind: -1}, ""}, {api.Cmd{Kind: 12, Text: "NOOP"}, ""}, {api.Cmd{Kind: api.CmdVrfy, Text: strings.Repeat("v", 506)}, ""}, {api.Cmd{Kind: api.CmdVrfy}, ""}, {api.Cmd{Kind: api.CmdVrfy, Text: "x\r\n"}, ""},
		{api.Cmd{Kind: api.CmdEhlo}, ""}, {api.Cmd{Kind: api.CmdEhlo, Text: "a b"}, ""}, {api.Cmd{Kind: api.CmdEhlo, Text: "a", Path: null}, ""}, {api.Cmd{Kind: api.CmdEhlo, Text: "a", Params: p("SIZE", "5")}, ""},
		{api.Cmd{Kind: api.CmdMail}, ""}, {api.Cmd{Kind: api.CmdMail, Path: ab, Text: "x"}, ""}, {api.Cmd{Kind: api.CmdMail, Path: ab, Params: p("SIZE", "05")}, ""}, {api.Cmd{Kind: api.CmdMail, Path: ab, Params: p("size", "5")}, ""}, {api.Cmd{Kind: api.CmdMail, Path: ab, Params: p("RET", "full")}, ""}, {api.Cmd{Kind: api.CmdMail, Path: ab, Params: p("SIZE", "5", "SIZE", "5")}, ""}, {api.Cmd{Kind: api.CmdMail, Path: ab, Params: p("SIZE", "5 RET=FULL")}, ""}, {api.Cmd{Kind: api.CmdMail, Path: ab, Params: p("NOTIFY", "NEVER")}, ""}, {api.Cmd{Kind: api.CmdMail, Path: ab, Params: p("", "")}, ""}, {api.Cmd{Kind: api.CmdMail, Path: ab, Params: huge}, ""}, {api.Cmd{Kind: api.CmdMail, Path: box("a", "b> SIZE=5")}, ""}, {api.Cmd{Kind: api.CmdMail, Path: api.Path{Null: true, Local: "a", Domain: "b"}}, ""},
		{api.Cmd{Kind: api.CmdRcpt, Path: null}, ""}, {api.Cmd{Kind: api.CmdRcpt, Path: ab, Params: p("SIZE", "5")}, ""}, {api.Cmd{Kind: api.CmdData, Text: "x"}, ""}, {api.Cmd{Kind: api.CmdData, Params: p("SIZE", "5")}, ""}, {api.Cmd{Kind: api.CmdNoop, Text: "x"}, ""}, {api.Cmd{Kind: api.CmdRset, Path: ab}, ""}, {api.Cmd{Kind: api.CmdQuit, Text: " "}, ""}, {api.Cmd{Kind: api.CmdAuth, Text: "CRAM-MD5"}, ""}, {api.Cmd{Kind: api.CmdEtrn}, ""}, {api.Cmd{Kind: api.CmdEtrn, Text: "b "}, ""}, {api.Cmd{Kind: api.CmdAtrn, Text: " b"}, ""}, {api.Cmd{Kind: api.CmdAtrn, Text: "a,b"}, ""},
	} {
		want := api.OK
		if c.want == "" {
			want = api.ErrForm
		}
		if got, e := verb.Text(c.c); got != c.want || e != want {
			t.Errorf("%d: %q %v", k, got, e)
		}
	}
}

func TestParam(t *testing.T) {
	c := api.Cmd{Params: []api.Param{{Key: "RET", Val: "FULL"}, {Key: "SIZE", Val: "5"}, {Key: "SIZE", Val: "6"}, {Key: "x", Val: ""}}}
	for k, x := range []struct {
		key, want string
		ok        bool
	}{{"SIZE", "5", true}, {"RET", "FULL", true}, {"x", "", true}, {"size", "", false}, {"", "", false}, {"NOTIFY", "", false}} {
		if got, ok := verb.Param(c, x.key); got != x.want || ok != x.ok {
			t.Error(k, got, ok)
		}
	}
	if got, ok := verb.Param(api.Cmd{Text: "SIZE"}, "SIZE"); got != "" || ok {
		t.Error(got, ok)
	}
}

// TestInverse is promise P12.2.
func TestInverse(t *testing.T) {
	n := 0
	for _, c := range lines() {
		got, code := verb.Parse(c.s)
		if code != 0 {
			continue
		}
		n++
		s, e := verb.Text(got)
		back, code := verb.Parse(s)
		if e != api.OK || code != 0 || !same(back, got) {
			t.Errorf("%q %q %v", c.s, s, e)
		}
	}
	if n < 30 {
		t.Error(n)
	}
}

func TestParamsAreNew(t *testing.T) {
	a, _ := verb.Parse("MAIL FROM:<> SIZE=5 RET=FULL")
	b, _ := verb.Parse("MAIL FROM:<> SIZE=5 RET=FULL")
	a.Params[0].Val = "x"
	if reflect.DeepEqual(a, b) || b.Params[0].Val != "5" {
		t.Error(b)
	}
}
