package number_test

import (
	"strings"
	"testing"

	"wherry/number"
)

func TestParse(t *testing.T) {
	for _, c := range []struct {
		s      string
		digits int
		want   int
		ok     bool
	}{
		{"0", 1, 0, true}, {"7", 1, 7, true}, {"10", 2, 10, true}, {"10", 1, 0, false}, {"999999999", 9, 999999999, true}, {"9999999999", 10, 9999999999, true}, {"10000000000", 10, 0, false},
		{"", 9, 0, false}, {"00", 9, 0, false}, {"01", 9, 0, false}, {"+1", 9, 0, false}, {"-1", 9, 0, false}, {"-0", 9, 0, false}, {"1 ", 9, 0, false}, {" 1", 9, 0, false}, {"1_0", 9, 0, false}, {"0x1", 9, 0, false}, {"1e1", 9, 0, false}, {"1/", 9, 0, false}, {"1:", 9, 0, false}, {"٣", 9, 0, false},
		{"1", 0, 0, false}, {"1", -1, 0, false}, {strings.Repeat("9", 18), 99, 999999999999999999, true}, {strings.Repeat("9", 19), 99, 0, false},
	} {
		if got, ok := number.Parse(c.s, c.digits); got != c.want || ok != c.ok {
			t.Errorf("%q %d %v", c.s, got, ok)
		}
	}
}
