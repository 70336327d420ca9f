package head_test

import (
	"bytes"
	"math"
	"math/rand"
	"regexp"
	"slices"
	"strconv"
	"strings"
	"testing"

	"wherry/api"
	"wherry/dots"
	"wherry/head"
)

var fieldForm = regexp.MustCompile(`^([!-9;-~]+):((?s:[^\r\n])*\r\n(?:[ \t][^\r\n]*\r\n)*)`)

// slowScan takes one field after the other from the beginning.
func slowScan(s string) (l []api.Field, end int) {
	for {
		m := fieldForm.FindStringSubmatch(s[end:])
		if m == nil {
			break
		}
		l = append(l, api.Field{Name: m[1], Body: strings.ReplaceAll(m[2], "\r\n", "")})
		end += len(m[0])
	}
	if strings.HasPrefix(s[end:], "\r\n") {
		end += 2
	}
	return l, end
}

func field(name, body string) api.Field { return api.Field{Name: name, Body: body} }

func texts() []string {
	l := []string{""}
	rnd := rand.New(rand.NewSource(1))
	for range 4000 {
		var s strings.Builder
		for range rnd.Intn(7) {
			s.WriteString([]string{"A: b\r\n", "Received: x\r\n", "RECEIVED:\r\n", "received:: y\r\n", " more\r\n", "\tmore \r\n", " \r\n", "\r\n", "a b: c\r\n", ":x\r\n", "no field\r\n", "Receivedx: z\r\n", "!~:!\r\n", "a\x7f:x\r\n", "Re\tceived: x\r\n", "B:c:d\r\n"}[rnd.Intn(16)])
		}
		l = append(l, s.String())
	}
	return l
}

func noBodies() []string {
	return []string{"a", "A: b", "A: b\n", "A: b\r", "\n", "A: b\r\nc", "A: b\n\r\n", "A: b\r\n\r", "A\r: b\r\n"}
}

func TestScanKnown(t *testing.T) {
	for _, c := range []struct {
		s    string
		want []api.Field
		end  int
	}{
		{"", nil, 0}, {"\r\n", nil, 2}, {"x\r\n", nil, 0}, {" x: y\r\n", nil, 0}, {"\tA: b\r\n", nil, 0}, {":\r\n", nil, 0}, {": x\r\n", nil, 0}, {"A b: c\r\n", nil, 0}, {"A\t: c\r\n", nil, 0}, {"A\x7f: c\r\n", nil, 0}, {"A\x80: c\r\n", nil, 0},
		{"A: b\r\n\r\nc\r\n", []api.Field{field("A", " b")}, 8}, {"A: b\r\n", []api.Field{field("A", " b")}, 6}, {"A: b\r\nc\r\n", []api.Field{field("A", " b")}, 6}, {"A:\r\n", []api.Field{field("A", "")}, 4}, {"A:b:c\r\n", []api.Field{field("A", "b:c")}, 7},
		{"A: b\r\n c\r\n\td \r\nE:f\r\n", []api.Field{field("A", " b c\td "), field("E", "f")}, 20}, {"A: b\r\n \r\n\r\n", []api.Field{field("A", " b ")}, 11}, {"A: b\r\n\r\nC: d\r\n", []api.Field{field("A", " b")}, 8}, {"A: b\r\n\r\n\r\n", []api.Field{field("A", " b")}, 8}, {"!~: \xff\r\n", []api.Field{field("!~", " \xff")}, 7}, {"A: b\r\n c: d\r\n", []api.Field{field("A", " b c: d")}, 13},
	} {
		if l, end, e := head.Scan([]byte(c.s)); !slices.Equal(l, c.want) || end != c.end || e != api.OK {
			t.Errorf("%q %v %d %v", c.s, l, end, e)
		}
	}
	for _, s := range noBodies() {
		if l, end, e := head.Scan([]byte(s)); len(l) != 0 || end != 0 || e != api.ErrForm {
			t.Errorf("%q %v %d %v", s, l, end, e)
		}
		if n, e := head.Hops([]byte(s)); n != 0 || e != api.ErrForm {
			t.Errorf("%q %d %v", s, n, e)
		}
	}
}

func TestScanAndHops(t *testing.T) {
	most := 0
	for _, s := range texts() {
		want, wantEnd := slowScan(s)
		if dots.Check([]byte(s)) != api.OK {
			t.Fatalf("%q is no body", s)
		}
		l, end, e := head.Scan([]byte(s))
		if !slices.Equal(l, want) || end != wantEnd || e != api.OK {
			t.Fatalf("%q %v %d %v", s, l, end, e)
		}
		hops := 0
		for _, f := range want {
			if strings.ToLower(f.Name) == "received" {
				hops++
			}
		}
		if n, e := head.Hops([]byte(s)); n != hops || e != api.OK {
			t.Fatalf("%q %d %v", s, n, e)
		}
		most = max(most, hops)
	}
	if most < 3 {
		t.Error(most)
	}
}

func TestStamp(t *testing.T) {
	for k, c := range []struct {
		helo, site string
		at         int
		want       string
		e          api.Errno
	}{
		{"a.example", "B.example", 7, "Received: from a.example by B.example with ESMTP; 7\r\n", 0}, {"a", "b", 0, "Received: from a by b with ESMTP; 0\r\n", 0}, {"a", "b", 1 << 40, "Received: from a by b with ESMTP; 1099511627776\r\n", 0},
		{"a", "b", 1<<40 + 1, "", api.ErrArg}, {"a", "b", -1, "", api.ErrArg}, {"a", "b", math.MaxInt, "", api.ErrArg}, {"a", "b", math.MinInt, "", api.ErrArg},
		{"", "b", 7, "", api.ErrForm}, {"a", "", 7, "", api.ErrForm}, {"a_", "b", 7, "", api.ErrForm}, {"a", "b c", 7, "", api.ErrForm}, {"a_", "b", -1, "", api.ErrForm}, {"a", "b\r\n", -1, "", api.ErrForm},
	} {
		if got, e := head.Stamp(c.helo, c.site, c.at); string(got) != c.want || e != c.e {
			t.Errorf("%d %q %v", k, got, e)
		}
	}
}

func TestPutErrors(t *testing.T) {
	for _, s := range noBodies() {
		if b, e := head.Put([]byte(s), "a", "b", -1); len(b) != 0 || e != api.ErrForm {
			t.Errorf("%q %q %v", s, b, e)
		}
	}
	for k, c := range []struct {
		helo, site string
		at         int
		e          api.Errno
	}{{"", "b", 7, api.ErrForm}, {"a", "-", -1, api.ErrForm}, {"a", "b", -1, api.ErrArg}, {"a", "b", 1<<40 + 1, api.ErrArg}} {
		if b, e := head.Put([]byte("x\r\n"), c.helo, c.site, c.at); len(b) != 0 || e != c.e {
			t.Errorf("%d %q %v", k, b, e)
		}
	}
}

// TestOneHopMore is promise P15.2.
func TestOneHopMore(t *testing.T) {
	for k, s := range texts() {
		b := []byte(s)
		got, e := head.Put(b, "a.example", "b", k)
		if e != api.OK || string(got) != "Received: from a.example by b with ESMTP; "+strconv.Itoa(k)+"\r\n"+s {
			t.Fatalf("%q %q %v", s, got, e)
		}
		before, _, _ := head.Scan(b)
		after, _, _ := head.Scan(got)
		// A body that begins with a continuation line continues the new field.
		if strings.HasPrefix(s, " ") || strings.HasPrefix(s, "\t") {
			continue
		}
		hops, _ := head.Hops(b)
		if n, e := head.Hops(got); n != hops+1 || e != api.OK {
			t.Fatalf("%q %d %v", s, n, e)
		}
		if len(after) == 0 || !slices.Equal(after[1:], before) {
			t.Fatalf("%q %v %v", s, before, after)
		}
		for i := range got {
			got[i] ^= 255
		}
		if !bytes.Equal(b, []byte(s)) {
			t.Fatal("the result shares memory with the argument")
		}
	}
}
