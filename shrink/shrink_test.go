package shrink_test

import (
	"bytes"
	"compress/flate"
	"io"
	"math"
	"math/rand"
	"slices"
	"strings"
	"testing"

	"wherry/api"
	"wherry/canon"
	"wherry/match"
	"wherry/shrink"
	"wherry/sym"
	"wherry/tree"
)

// low writes the n bits of v, the lowest one first, as digits.
func low(v, n int) string {
	s := ""
	for i := range n {
		s += string(rune('0' + v>>i&1))
	}
	return s
}

// high writes the n bits of v, the highest one first.
func high(v, n int) string {
	b := []byte(low(v, n))
	slices.Reverse(b)
	return string(b)
}

// pack makes bytes of digits.
func pack(s string) []byte {
	b := make([]byte, (len(s)+7)/8)
	for i, c := range s {
		b[i/8] |= byte(c-'0') << (i % 8)
	}
	return b
}

func slowStored(b []byte) string {
	var s strings.Builder
	s.WriteString("10000000" + low(len(b), 16) + low(65535-len(b), 16))
	for _, x := range b {
		s.WriteString(low(int(x), 8))
	}
	return s.String()
}

func slowTokens(b []byte, lits, dists []int) string {
	var s strings.Builder
	litCodes, _ := canon.Codes(lits)
	distCodes, _ := canon.Codes(dists)
	l, _ := match.Tokens(b)
	for _, t := range l {
		if t.Len == 0 {
			s.WriteString(high(litCodes[t.Byte], lits[t.Byte]))
			continue
		}
		x, more, v, _ := sym.Len(t.Len)
		s.WriteString(high(litCodes[x], lits[x]) + low(v, more))
		x, more, v, _ = sym.Dist(t.Dist)
		s.WriteString(high(distCodes[x], dists[x]) + low(v, more))
	}
	return s.String() + high(litCodes[256], lits[256])
}

func slowFixed(b []byte) string {
	lits, dists := sym.Fixed()
	return "110" + slowTokens(b, lits, dists)
}

// slowRow gives symbols, extra values and how many extra bits each symbol has.
func slowRow(l []int) (syms, more, wide []int) {
	for at := 0; at < len(l); {
		r := 1
		for at+r < len(l) && l[at+r] == l[at] {
			r++
		}
		s, v, w, n := l[at], 0, 0, 1
		if l[at] == 0 && r >= 11 {
			n = min(r, 138)
			s, v, w = 18, n-11, 7
		} else if l[at] == 0 && r >= 3 {
			n = r
			s, v, w = 17, n-3, 3
		} else if l[at] != 0 && at > 0 && l[at-1] == l[at] && r >= 3 {
			n = min(r, 6)
			s, v, w = 16, n-3, 2
		}
		syms, more, wide = append(syms, s), append(more, v), append(wide, w)
		at += n
	}
	return syms, more, wide
}

func cut(l []int, least int) []int {
	for len(l) > least && l[len(l)-1] == 0 {
		l = l[:len(l)-1]
	}
	return l
}

func slowDynamic(b []byte) string {
	l, _ := match.Tokens(b)
	litWeights, distWeights, _ := sym.Weights(l)
	lits, _ := tree.Lengths(litWeights, 15)
	dists, _ := tree.Lengths(distWeights, 15)
	some, others := cut(lits, 257), cut(dists, 1)
	syms, more, wide := slowRow(slices.Concat(some, others))
	weights := make([]int, 19)
	for _, s := range syms {
		weights[s]++
	}
	row, _ := tree.Lengths(weights, 7)
	var order []int
	for _, s := range []int{16, 17, 18, 0, 8, 7, 9, 6, 10, 5, 11, 4, 12, 3, 13, 2, 14, 1, 15} {
		order = append(order, row[s])
	}
	order = cut(order, 4)
	s := "101" + low(len(some)-257, 5) + low(len(others)-1, 5) + low(len(order)-4, 4)
	for _, n := range order {
		s += low(n, 3)
	}
	codes, _ := canon.Codes(row)
	for i, x := range syms {
		s += high(codes[x], row[x]) + low(more[i], wide[i])
	}
	return s + slowTokens(b, lits, dists)
}

func texts() [][]byte {
	rnd := rand.New(rand.NewSource(1))
	draw := func(n, of int) []byte {
		b := make([]byte, n)
		for i := range b {
			b[i] = byte(rnd.Intn(of))
		}
		return b
	}
	l := [][]byte{nil, {0}, {255}, []byte("a"), []byte("aaaaa"), []byte(strings.Repeat("MAIL FROM:<a@b.example>\r\nRCPT TO:<c@d.example>\r\n", 60)), make([]byte, 4096), draw(4096, 256), draw(4096, 200), draw(4096, 3), draw(2048, 256)}
	for k := range 60 {
		l = append(l, draw(rnd.Intn(600), 1+rnd.Intn(1+k*4)))
	}
	all := make([]byte, 256)
	for i := range all {
		all[i] = byte(i)
	}
	// All literals, all lengths and many distances.
	l = append(l, all, slices.Concat(all, all, all))
	for n := 3; n <= 258; n += 17 {
		l = append(l, slices.Concat(draw(300+7*n, 256), bytes.Repeat([]byte{9}, n), draw(40, 256), bytes.Repeat([]byte{9}, n), all))
	}
	return l
}

func inflate(t *testing.T, b []byte) []byte {
	r := bytes.NewReader(b)
	got, err := io.ReadAll(flate.NewReader(r))
	if err != nil || r.Len() != 0 {
		t.Fatal(err, r.Len())
	}
	return got
}

func TestBlocks(t *testing.T) {
	for k, b := range texts() {
		before := bytes.Clone(b)
		slow := []string{slowStored(b), slowFixed(b), slowDynamic(b)}
		least := slow[0]
		for i, call := range []func([]byte) ([]byte, api.Errno){shrink.Stored, shrink.Fixed, shrink.Dynamic} {
			got, e := call(b)
			if e != api.OK || !bytes.Equal(got, pack(slow[i])) {
				t.Fatal(k, i, len(got), len(slow[i]), e)
			}
			if len(slow[i]) < len(least) {
				least = slow[i]
			}
		}
		got, e := shrink.Shrink(b)
		if e != api.OK || !bytes.Equal(got, pack(least)) {
			t.Fatal(k, e)
		}
		for i := range got {
			got[i] ^= 255
		}
		if !bytes.Equal(b, before) {
			t.Fatal(k, "the argument was changed")
		}
	}
}

func TestLiteralBlocks(t *testing.T) {
	for k, c := range []struct {
		call func([]byte) ([]byte, api.Errno)
		s    string
		want []byte
	}{
		{shrink.Shrink, "", []byte{3, 0}}, {shrink.Fixed, "", []byte{3, 0}}, {shrink.Stored, "", []byte{1, 0, 0, 255, 255}},
		{shrink.Stored, "ab", []byte{1, 2, 0, 253, 255, 'a', 'b'}}, {shrink.Fixed, "a", []byte{0x4b, 0x04, 0}}, {shrink.Shrink, "aaaaa", []byte{0x4b, 0x04, 0x01, 0}},
	} {
		if got, e := c.call([]byte(c.s)); e != api.OK || !bytes.Equal(got, c.want) {
			t.Error(k, got, e)
		}
	}
}

func TestTooLong(t *testing.T) {
	for k, call := range []func([]byte) ([]byte, api.Errno){shrink.Stored, shrink.Fixed, shrink.Dynamic, shrink.Shrink} {
		if got, e := call(make([]byte, api.MaxText+1)); e != api.ErrLen || len(got) != 0 {
			t.Error(k, len(got), e)
		}
		if got, e := call(make([]byte, api.MaxText)); e != api.OK || len(got) == 0 {
			t.Error(k, len(got), e)
		}
	}
}

func TestRow(t *testing.T) {
	z := func(n int) []int { return make([]int, n) }
	for k, c := range []struct{ l, syms, more []int }{
		{nil, nil, nil}, {z(1), []int{0}, z(1)}, {z(2), []int{0, 0}, z(2)}, {z(3), []int{17}, []int{0}}, {z(10), []int{17}, []int{7}}, {z(11), []int{18}, []int{0}}, {z(138), []int{18}, []int{127}}, {z(139), []int{18, 0}, []int{127, 0}}, {z(141), []int{18, 17}, []int{127, 0}}, {z(320), []int{18, 18, 18}, []int{127, 127, 33}},
		{[]int{5}, []int{5}, z(1)}, {[]int{5, 5, 5}, []int{5, 5, 5}, z(3)}, {[]int{5, 5, 5, 5}, []int{5, 16}, []int{0, 0}}, {slices.Repeat([]int{5}, 7), []int{5, 16}, []int{0, 3}}, {slices.Repeat([]int{5}, 8), []int{5, 16, 5}, []int{0, 3, 0}}, {slices.Repeat([]int{15}, 10), []int{15, 16, 16}, []int{0, 3, 0}},
		{[]int{0, 5, 5, 5, 0, 0, 0, 1}, []int{0, 5, 5, 5, 17, 1}, z(6)}, {[]int{1, 2, 2, 2, 2, 1}, []int{1, 2, 16, 1}, z(4)},
	} {
		syms, more, e := shrink.Row(c.l)
		if e != api.OK || !slices.Equal(syms, c.syms) || !slices.Equal(more, c.more) {
			t.Error(k, syms, more, e)
		}
	}
	for k, l := range [][]int{z(321), {16}, {-1}, {1, 2, math.MaxInt}, {0, math.MinInt}} {
		if syms, more, e := shrink.Row(l); e != api.ErrArg || len(syms) != 0 || len(more) != 0 {
			t.Error(k, syms, more, e)
		}
	}
	rnd := rand.New(rand.NewSource(2))
	for range 500 {
		var l []int
		for len(l) < 320 {
			x := rnd.Intn(16) * rnd.Intn(2)
			l = append(l, slices.Repeat([]int{x}, min(320-len(l), 1+rnd.Intn(1<<rnd.Intn(9))))...)
		}
		l = l[:rnd.Intn(321)]
		before := slices.Clone(l)
		syms, more, e := shrink.Row(l)
		wantSyms, wantMore, _ := slowRow(l)
		if e != api.OK || !slices.Equal(syms, wantSyms) || !slices.Equal(more, wantMore) || !slices.Equal(l, before) {
			t.Fatal(l, syms, more, e)
		}
	}
}

// TestLibraryReadsIt is promise P6.2, against a reader of DEFLATE that is not the project's.
func TestLibraryReadsIt(t *testing.T) {
	for k, b := range texts() {
		for i, call := range []func([]byte) ([]byte, api.Errno){shrink.Stored, shrink.Fixed, shrink.Dynamic, shrink.Shrink} {
			s, e := call(b)
			if e != api.OK || !bytes.Equal(inflate(t, s), b) {
				t.Fatal(k, i, e)
			}
		}
		if s, _ := shrink.Shrink(b); len(s) > len(b)+5 {
			t.Fatal(k, len(s), len(b))
		}
	}
}

func TestShrinkTakesTheFirstOfEquals(t *testing.T) {
	equal := func(b []byte, i, j func([]byte) string) bool { return len(i(b)) == len(j(b)) }
	// No byte occurs twice; 30 of them have nine bits in a fixed block.
	var high []byte
	for i := range 30 {
		high = append(high, byte(145+3*i+i%3), byte(5*i%144), byte((5*i+2)%144))
	}
	if !equal(high, slowStored, slowFixed) {
		t.Fatal("the example is none")
	}
	stored, _ := shrink.Stored(high)
	if got, e := shrink.Shrink(high); e != api.OK || !bytes.Equal(got, stored) {
		t.Error(got, e)
	}
	for _, s := range []string{"ebjiaeacajbbbijegeagdgah", "aacacaacbacccacbacccaabacccbaaabcbcacbbbaaabaacbacccaccbbcca", "bbbdedccbdeacbeabdaabab"} {
		if !equal([]byte(s), slowFixed, slowDynamic) {
			t.Fatal("the example is none")
		}
		fixed, _ := shrink.Fixed([]byte(s))
		if got, e := shrink.Shrink([]byte(s)); e != api.OK || !bytes.Equal(got, fixed) {
			t.Error(s, got, e)
		}
	}
}

// TestShrinkCountsBits has a byte string whose smallest two blocks differ in bits, but not in bytes.
func TestShrinkCountsBits(t *testing.T) {
	rnd := rand.New(rand.NewSource(7))
	met := 0
	for range 400 {
		b := make([]byte, 10+rnd.Intn(60))
		of := 1 + rnd.Intn(12)
		for i := range b {
			b[i] = byte('a' + rnd.Intn(of))
		}
		fixed, dynamic := slowFixed(b), slowDynamic(b)
		if len(dynamic) >= len(fixed) || len(pack(dynamic)) != len(pack(fixed)) {
			continue
		}
		met++
		if got, e := shrink.Shrink(b); e != api.OK || !bytes.Equal(got, pack(dynamic)) {
			t.Fatal(string(b), got, e)
		}
	}
	if met == 0 {
		t.Error("no such byte string was met")
	}
}

// skewed gives bytes of which each value is rarer than the one before it.
func skewed(seed int64, n int, base float64, of int) []byte {
	rnd := rand.New(rand.NewSource(seed))
	b := make([]byte, n)
	for i := range b {
		x := int(rnd.ExpFloat64() / math.Log(base))
		if x >= of {
			x = rnd.Intn(of)
		}
		b[i] = byte(x * 7)
	}
	return b
}

// distant gives bytes whose matches have distance symbols as often as Fibonacci's numbers say, which makes the longest codes.
func distant(seed int64) []byte {
	rnd := rand.New(rand.NewSource(seed))
	b := make([]byte, 1100)
	rnd.Read(b)
	often := []int{1, 1, 2, 3, 5, 8, 13, 21, 34, 55, 89, 144, 235, 382}
	// The far distances come last, when there is something at them.
	for k, n := range []int{8, 9, 10, 11, 12, 13, 14, 15, 16, 17, 18, 19, 20, 21} {
		least, more, _ := sym.DistOf(n)
		for range often[k] {
			for range 100000 {
				at := len(b) - least - rnd.Intn(1<<more)
				longer := append(slices.Clone(b), b[at:at+3]...)
				// One more byte tells that the match before does not go on.
				if length, dist := match.Best(longer, len(b)); length == 3 && dist == len(b)-at && b[at-1] != b[len(b)-1] && b[len(b)-3] != b[at] {
					b = longer
					break
				}
			}
		}
	}
	return b
}

// TestLongCodes has byte strings for which the code lengths, and the code for them, are as long as can be.
func TestLongCodes(t *testing.T) {
	b := distant(30)
	l, _ := match.Tokens(b)
	_, weights, _ := sym.Weights(l)
	lengths, _ := tree.Lengths(weights, 15)
	if slices.Max(lengths) < 13 {
		t.Fatal("the codes are too short", weights, lengths, len(b))
	}
	texts := [][]byte{b}
	for seed := range int64(40) {
		texts = append(texts, skewed(seed, 1558, 1.052, 176))
	}
	deep := 0
	for k, b := range texts {
		l, _ := match.Tokens(b)
		litWeights, distWeights, _ := sym.Weights(l)
		lits, _ := tree.Lengths(litWeights, 15)
		dists, _ := tree.Lengths(distWeights, 15)
		syms, _, _ := slowRow(slices.Concat(cut(lits, 257), cut(dists, 1)))
		weights := make([]int, 19)
		for _, s := range syms {
			weights[s]++
		}
		if row, _ := tree.Lengths(weights, 15); slices.Max(row) > 7 {
			deep++
		}
		if got, e := shrink.Dynamic(b); e != api.OK || !bytes.Equal(got, pack(slowDynamic(b))) || !bytes.Equal(inflate(t, got), b) {
			t.Error(k, e)
		}
	}
	if deep == 0 {
		t.Error("no code of code lengths is too deep")
	}
}
