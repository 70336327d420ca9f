package path_test

import (
	"regexp"
	"strings"
	"testing"

	"wherry/api"
	"wherry/path"
)

func box(local, domain string) api.Path { return api.Path{Local: local, Domain: domain} }

var (
	localForm  = regexp.MustCompile("^[A-Za-z0-9!#$%&'*+\\-/=?^_`{|}~]+(\\.[A-Za-z0-9!#$%&'*+\\-/=?^_`{|}~]+)*$")
	domainForm = regexp.MustCompile(`^[A-Za-z0-9]([A-Za-z0-9-]{0,61}[A-Za-z0-9])?(\.[A-Za-z0-9]([A-Za-z0-9-]{0,61}[A-Za-z0-9])?)*$`)
)

func isLocal(s string) bool {
	return len(s) <= 64 && localForm.MatchString(s) && !strings.Contains(s, "\n")
}
func isDomain(s string) bool {
	return len(s) <= 255 && domainForm.MatchString(s) && !strings.Contains(s, "\n")
}

func long(n int) string {
	return strings.Repeat(strings.Repeat("d", 63)+".", 4)[:n]
}

func domains() []string {
	l := []string{
		"", "a", "A", "1", "-", "a-", "-a", "a-b", "a--b", ".", "a.", ".a", "a.b", "a..b", "a.b.c-d.example", "a.-b", "a-.b", "a.b-", "a_b", "a b", "a@b", "<a>", "ä", "a\x00", "a\n", "a\r\n", "1.2.3.4", "[1.2.3.4]",
		// 255 and 256 bytes, with labels that are not too long.
		long(192) + strings.Repeat("e", 61) + ".e", long(192) + strings.Repeat("e", 62) + ".e",
		strings.Repeat("x", 63), strings.Repeat("x", 64), strings.Repeat("x", 63) + ".y", "y." + strings.Repeat("x", 64), long(255), long(254) + "e", long(255) + "e", long(253), long(255)[:191] + "." + strings.Repeat("e", 64),
	}
	for c := range 256 {
		l = append(l, "a"+string([]byte{byte(c)})+"b", string([]byte{byte(c)}), "k.x"+string([]byte{byte(c)}))
	}
	return l
}

func locals() []string {
	l := []string{"", "a", ".", "a.", ".a", "a.b", "a..b", "a.b.c", "a b", "a@b", "!#$%&'*+-/=?^_`{|}~", "-", "-a-", "\"a\"", "a\n", "ä", strings.Repeat("l", 64), strings.Repeat("l", 65), strings.Repeat("l.", 32), strings.Repeat("l.", 31) + "ll", strings.Repeat("l.", 32) + "l"}
	for c := range 256 {
		l = append(l, "a"+string([]byte{byte(c)})+"b", string([]byte{byte(c)}))
	}
	return l
}

func TestDomain(t *testing.T) {
	good := 0
	for _, s := range domains() {
		if got := path.Domain(s); got != isDomain(s) {
			t.Errorf("%q %v", s, got)
		}
		if isDomain(s) {
			good++
		}
	}
	if good < 60 || !path.Domain(long(255)) || path.Domain(long(255)+"e") || path.Domain(long(256)) {
		t.Error(good)
	}
}

func TestCheckTextAndParse(t *testing.T) {
	try := func(p api.Path, valid bool, text string) {
		t.Helper()
		want := api.OK
		if !valid {
			want = api.ErrForm
		}
		if e := path.Check(p); e != want {
			t.Errorf("%v %v", p, e)
		}
		got, e := path.Text(p)
		if e != want || valid && got != text || !valid && got != "" {
			t.Errorf("%v %q %v", p, got, e)
		}
		back, e := path.Parse(text)
		if e != want || valid && back != p || !valid && back != (api.Path{}) {
			t.Errorf("%v %v %v", p, back, e)
		}
	}
	for _, s := range locals() {
		try(box(s, "b.example"), isLocal(s), "<"+s+"@b.example>")
	}
	for _, s := range domains() {
		try(box("a.b", s), isDomain(s), "<a.b@"+s+">")
	}
	try(api.Path{Null: true}, true, "<>")
	try(box(strings.Repeat("l", 64), long(255)), true, "<"+strings.Repeat("l", 64)+"@"+long(255)+">")
	try(box("", ""), false, "<@>")
	for k, p := range []api.Path{{Null: true, Local: "a"}, {Null: true, Domain: "b"}, {Null: true, Local: "a", Domain: "b"}, {}} {
		if e := path.Check(p); e != api.ErrForm {
			t.Error(k, e)
		}
		if s, e := path.Text(p); s != "" || e != api.ErrForm {
			t.Error(k, s, e)
		}
	}
}

func TestParseErrors(t *testing.T) {
	for _, s := range []string{
		"", "<", ">", "><", "< >", "<<>>", "<> ", " <>", "a@b", "<a@b", "a@b>", "<a@b>>", "<<a@b>", "<a@b> ", " <a@b>", "<a>", "<a@>", "<@b>", "<a@@b>", "<a@b@c>", "<a..b@c>", "<a@b..c>", "<@x:a@b>", "<a@b>\r\n", "<a @b>", "<a@ b>", "<Postmaster>", "<a@b", "\x00<a@b>",
	} {
		if p, e := path.Parse(s); e != api.ErrForm || p != (api.Path{}) {
			t.Errorf("%q %v %v", s, p, e)
		}
	}
	if p, e := path.Parse("<a.b@c-d.example>"); e != api.OK || p != box("a.b", "c-d.example") {
		t.Error(p, e)
	}
	if p, e := path.Parse("<A.b@C-D.Example>"); e != api.OK || p != box("A.b", "C-D.Example") {
		t.Error(p, e)
	}
}

func TestFold(t *testing.T) {
	for c := range 256 {
		s := "x" + string([]byte{byte(c)}) + "y"
		want := s
		if c >= 'A' && c <= 'Z' {
			want = "x" + string([]byte{byte(c + 32)}) + "y"
		}
		if got := path.Fold(s); got != want {
			t.Errorf("%q %q", s, got)
		}
	}
	if path.Fold("") != "" || path.Fold("ABCXYZ ÄÉ abcxyz") != "abcxyz ÄÉ abcxyz" {
		t.Error(path.Fold("ABCXYZ ÄÉ abcxyz"))
	}
}

func TestSame(t *testing.T) {
	null := api.Path{Null: true}
	for k, c := range []struct {
		a, b api.Path
		want bool
	}{
		{box("a", "b"), box("a", "b"), true}, {box("a", "b.Z"), box("a", "B.z"), true}, {box("a", "b"), box("A", "b"), false}, {box("a", "b"), box("a", "c"), false}, {box("c", "b"), box("a", "b"), false},
		{null, null, true}, {null, box("a", "b"), false}, {box("a", "b"), null, false}, {box("a", ""), box("a", ""), false}, {box("", "b"), box("", "b"), false}, {api.Path{}, api.Path{}, false}, {api.Path{}, null, false}, {null, api.Path{}, false},
		{box("a", "b"), box("a", "b_"), false}, {api.Path{Null: true, Local: "a", Domain: "b"}, api.Path{Null: true, Local: "a", Domain: "b"}, false}, {api.Path{Null: true, Local: "a", Domain: "b"}, box("a", "b"), false}, {box("a", "B_"), box("a", "b_"), false},
	} {
		if got := path.Same(c.a, c.b); got != c.want {
			t.Error(k, got)
		}
	}
}

func TestAt(t *testing.T) {
	for k, c := range []struct {
		p      api.Path
		domain string
		want   bool
	}{
		{box("a", "b.example"), "b.example", true}, {box("a", "b.EXAMPLE"), "B.example", true}, {box("A", "b.example"), "b.example", true}, {box("a", "b.example"), "c.example", false}, {box("a", "x.b.example"), "b.example", false}, {box("a", "b"), "", false}, {box("a", "b"), "b.", false},
		{api.Path{Null: true}, "", false}, {api.Path{Null: true, Domain: "b"}, "b", false}, {api.Path{}, "", false}, {box("", "b"), "b", false}, {box("a..b", "b"), "b", false}, {box("a", "b_"), "b_", false}, {box("a", "b"), "<b>", false},
	} {
		if got := path.At(c.p, c.domain); got != c.want {
			t.Error(k, got)
		}
	}
}

// TestInverse is promise P11.2.
func TestInverse(t *testing.T) {
	n := 0
	for _, l := range locals() {
		for _, d := range []string{"b", "B.c-D", long(255), "1"} {
			if s, e := path.Text(box(l, d)); e == api.OK {
				n++
				if p, e := path.Parse(s); e != api.OK || p != box(l, d) {
					t.Error(s, p, e)
				}
			}
		}
	}
	if p, e := path.Parse("<>"); e != api.OK || p != (api.Path{Null: true}) || n < 400 {
		t.Error(p, e, n)
	}
}
