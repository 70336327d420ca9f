package grow_test

import (
	"bytes"
	"compress/flate"
	"math"
	"math/rand"
	"slices"
	"strings"
	"testing"

	"wherry/api"
	"wherry/grow"
	"wherry/shrink"
)

// low writes the n bits of v, the lowest one first, as digits.
func low(v, n int) string {
	s := ""
	for i := range n {
		s += string(rune('0' + v>>i&1))
	}
	return s
}

// high writes the n bits of v, the highest one first.
func high(v, n int) string {
	b := []byte(low(v, n))
	slices.Reverse(b)
	return string(b)
}

// pack makes bytes of digits; blanks are for the eye.
func pack(s string) []byte {
	s = strings.ReplaceAll(s, " ", "")
	b := make([]byte, (len(s)+7)/8)
	for i, c := range s {
		b[i/8] |= byte(c-'0') << (i % 8)
	}
	return b
}

func unpack(b []byte) string {
	var s strings.Builder
	for _, x := range b {
		s.WriteString(low(int(x), 8))
	}
	return s.String()
}

// The code words of a fixed block.
func fixedLit(x int) string {
	switch {
	case x < 144:
		return high(0x30+x, 8)
	case x < 256:
		return high(0x190+x-144, 9)
	case x < 280:
		return high(x-256, 7)
	}
	return high(0xc0+x-280, 8)
}

func fixedDist(x int) string { return high(x, 5) }

const end = "0000000"

// canonical gives the code words of some lengths.
func canonical(lengths []int) []string {
	words := make([]string, len(lengths))
	code := 0
	for n := 1; n <= 15; n++ {
		code *= 2
		for s, m := range lengths {
			if m == n {
				words[s] = high(code, n)
				code++
			}
		}
	}
	return words
}

// header writes a dynamic block up to its tokens; every code length is written by itself, or as row says.
func header(final string, row []int, syms []int, more string, lits, dists int) string {
	order := []int{16, 17, 18, 0, 8, 7, 9, 6, 10, 5, 11, 4, 12, 3, 13, 2, 14, 1, 15}
	s := final + "01" + low(lits-257, 5) + low(dists-1, 5) + low(15, 4)
	for _, x := range order {
		s += low(row[x], 3)
	}
	words := canonical(row)
	extra := strings.Split(more, ",")
	for _, x := range syms {
		s += words[x]
		if x >= 16 {
			s += extra[0]
			extra = extra[1:]
		}
	}
	return s
}

// slow is a second reader of streams, by the words of the chapter, made of digits.
type slow struct {
	s      string
	out    []byte
	most   int
	blocks int
}

func (r *slow) fail(e api.Errno) { panic(e) }

func (r *slow) take(n int) int {
	if len(r.s) < n {
		r.fail(api.ErrBytes)
	}
	v := 0
	for i := range n {
		v |= int(r.s[i]-'0') << i
	}
	r.s = r.s[n:]
	return v
}

func (r *slow) word(words []string) int {
	for x, w := range words {
		if w != "" && strings.HasPrefix(r.s, w) {
			r.s = r.s[len(w):]
			return x
		}
	}
	r.fail(api.ErrBytes)
	return 0
}

func (r *slow) codeOf(lengths []int) []string {
	sum, used, ones := 0, 0, 0
	for _, n := range lengths {
		if n > 0 {
			sum += 1 << (15 - n)
			used++
		}
		if n == 1 {
			ones++
		}
	}
	if sum != 1<<15 && used != 0 && (used != 1 || ones != 1) {
		r.fail(api.ErrBytes)
	}
	return canonical(lengths)
}

func (r *slow) room(n int) {
	if len(r.out)+n > r.most {
		r.fail(api.ErrLen)
	}
}

func (r *slow) tokens(lits, dists []string) {
	least := []int{3, 4, 5, 6, 7, 8, 9, 10, 11, 13, 15, 17, 19, 23, 27, 31, 35, 43, 51, 59, 67, 83, 99, 115, 131, 163, 195, 227, 258}
	far := []int{1, 2, 3, 4, 5, 7, 9, 13, 17, 25, 33, 49, 65, 97, 129, 193, 257, 385, 513, 769, 1025, 1537, 2049, 3073, 4097, 6145, 8193, 12289, 16385, 24577}
	for {
		x := r.word(lits)
		if x == 256 {
			return
		}
		if x < 256 {
			r.room(1)
			r.out = append(r.out, byte(x))
			continue
		}
		if x > 285 {
			r.fail(api.ErrBytes)
		}
		more := 0
		if x >= 265 && x < 285 {
			more = (x - 261) / 4
		}
		n := least[x-257] + r.take(more)
		x = r.word(dists)
		if x > 29 {
			r.fail(api.ErrBytes)
		}
		d := far[x] + r.take(max(0, x/2-1))
		if d > len(r.out) {
			r.fail(api.ErrBytes)
		}
		r.room(n)
		for range n {
			r.out = append(r.out, r.out[len(r.out)-d])
		}
	}
}

func (r *slow) dynamic() {
	lits, dists, n := 257+r.take(5), 1+r.take(5), 4+r.take(4)
	if lits > 286 || dists > 30 {
		r.fail(api.ErrBytes)
	}
	row := make([]int, 19)
	for _, x := range []int{16, 17, 18, 0, 8, 7, 9, 6, 10, 5, 11, 4, 12, 3, 13, 2, 14, 1, 15}[:n] {
		row[x] = r.take(3)
	}
	words := r.codeOf(row)
	var l []int
	for len(l) < lits+dists {
		switch x := r.word(words); x {
		case 16:
			if len(l) == 0 {
				r.fail(api.ErrBytes)
			}
			l = append(l, slices.Repeat([]int{l[len(l)-1]}, 3+r.take(2))...)
		case 17:
			l = append(l, make([]int, 3+r.take(3))...)
		case 18:
			l = append(l, make([]int, 11+r.take(7))...)
		default:
			l = append(l, x)
		}
	}
	if len(l) > lits+dists || l[256] == 0 {
		r.fail(api.ErrBytes)
	}
	r.tokens(r.codeOf(l[:lits]), r.codeOf(l[lits:]))
}

func (r *slow) block() bool {
	r.blocks++
	last := r.take(1) == 1
	switch r.take(2) {
	case 0:
		if r.take(len(r.s)%8) != 0 {
			r.fail(api.ErrBytes)
		}
		n := r.take(16)
		if r.take(16) != 65535-n {
			r.fail(api.ErrBytes)
		}
		for range n {
			x := r.take(8)
			r.room(1)
			r.out = append(r.out, byte(x))
		}
	case 1:
		var lits, dists []string
		for x := range 288 {
			lits = append(lits, fixedLit(x))
		}
		for x := range 32 {
			dists = append(dists, fixedDist(x))
		}
		r.tokens(lits, dists)
	case 2:
		r.dynamic()
	default:
		r.fail(api.ErrBytes)
	}
	return last
}

func slowGrow(b []byte, most int) (out []byte, blocks int, e api.Errno) {
	r := &slow{s: unpack(b), most: most}
	defer func() {
		if x := recover(); x != nil {
			out, blocks, e = nil, 0, x.(api.Errno)
		}
	}()
	for !r.block() {
	}
	if len(r.s) >= 8 || strings.Contains(r.s, "1") {
		r.fail(api.ErrBytes)
	}
	return r.out, r.blocks, api.OK
}

func check(t *testing.T, name string, b []byte, most int, want string, e api.Errno) {
	t.Helper()
	got, err := grow.Grow(b, most)
	if err != e || string(got) != want {
		t.Errorf("%s, at most %d: %q, error %d, instead of %q, error %d", name, most, got, err, want, e)
	}
}

func TestFixedBlocks(t *testing.T) {
	a, b := fixedLit('a'), fixedLit('b')
	one := fixedDist(0)
	for _, c := range []struct {
		name, s string
		most    int
		want    string
		e       api.Errno
	}{
		{"empty", "110" + end, 0, "", 0}, {"empty", "110" + end, 4096, "", 0},
		{"a literal", "110" + a + end, 1, "a", 0}, {"a literal", "110" + a + end, 0, "", api.ErrLen},
		{"high literals", "110" + fixedLit(143) + fixedLit(144) + fixedLit(255) + end, 9, "\x8f\x90\xff", 0},
		{"a match", "110" + a + fixedLit(257) + one + end, 4, "aaaa", 0}, {"a match", "110" + a + fixedLit(257) + one + end, 3, "", api.ErrLen},
		{"a match of two", "110" + a + b + fixedLit(259) + fixedDist(1) + end, 9, "abababa", 0},
		{"extra bits", "110" + a + b + fixedLit(266) + "1" + one + end, 20, "abbbbbbbbbbbbbbb", 0},
		{"the longest", "110" + a + fixedLit(285) + one + end, 259, strings.Repeat("a", 259), 0},
		{"length 258 by symbol 284", "110" + a + fixedLit(284) + "11111" + one + end, 259, strings.Repeat("a", 259), 0},
		{"the longest", "110" + a + fixedLit(285) + one + end, 258, "", api.ErrLen},
		{"too far", "110" + a + fixedLit(257) + fixedDist(1) + end, 99, "", api.ErrBytes},
		{"nothing before", "110" + fixedLit(257) + one + end, 99, "", api.ErrBytes},
		{"too far and too long", "110" + a + fixedLit(257) + fixedDist(1) + end, 1, "", api.ErrBytes},
		{"symbol 286", "110" + a + fixedLit(286) + one + end, 99, "", api.ErrBytes}, {"symbol 287", "110" + a + fixedLit(287) + one + end, 99, "", api.ErrBytes},
		{"symbol 286", "110" + a + fixedLit(286) + one + end, 1, "", api.ErrBytes},
		{"distance symbol 30", "110" + a + fixedLit(257) + fixedDist(30) + end, 99, "", api.ErrBytes}, {"distance symbol 31", "110" + a + fixedLit(257) + fixedDist(31) + end, 1, "", api.ErrBytes},
		{"no end", "110" + a, 99, "", api.ErrBytes}, {"no end", "110" + a + "00000", 99, "", api.ErrBytes},
		{"nothing after the length", "110" + a + "0" + fixedLit(257), 99, "", api.ErrBytes},
		{"no blocks", "", 99, "", api.ErrBytes}, {"kind 3", "111" + end, 99, "", api.ErrBytes}, {"kind 3 alone", "111", 99, "", api.ErrBytes}, {"kind 3, not last", "011" + end, 99, "", api.ErrBytes},
		{"a bit behind", "110" + end + "000001", 99, "", api.ErrBytes}, {"a byte behind", "110" + end + "000000 00000000", 99, "", api.ErrBytes}, {"another byte behind", "110" + end + "000000 10000000", 99, "", api.ErrBytes},
		{"too long before what is behind", "110" + a + end + "111111 1", 0, "", api.ErrLen},
		{"only not the last one", "010" + a + end, 99, "", api.ErrBytes},
		{"a match cut in its distance, too long", "110" + fixedLit(200) + fixedLit(200) + fixedLit(257), 2, "", api.ErrBytes},
		{"a match cut in its extra bits, too long", "110" + a + fixedLit(284) + "11111", 1, "", api.ErrBytes},
	} {
		check(t, c.name, pack(c.s), c.most, c.want, c.e)
	}
}

func TestStoredBlocks(t *testing.T) {
	size := func(n int) string { return low(n, 16) + low(65535-n, 16) }
	text := unpack([]byte("abc"))
	for _, c := range []struct {
		name, s string
		most    int
		want    string
		e       api.Errno
	}{
		{"empty", "100 00000" + size(0), 0, "", 0}, {"three", "100 00000" + size(3) + text, 3, "abc", 0}, {"three", "100 00000" + size(3) + text, 2, "", api.ErrLen},
		{"a bit in the pad", "100 00001" + size(3) + text, 3, "", api.ErrBytes}, {"another bit in the pad", "100 10000" + size(3) + text, 3, "", api.ErrBytes},
		{"the complement", "100 00000" + low(3, 16) + low(65531, 16) + text, 3, "", api.ErrBytes}, {"no complement", "100 00000" + low(3, 16) + low(3, 16) + text, 3, "", api.ErrBytes},
		{"cut", "100 00000" + size(4) + text, 99, "", api.ErrBytes}, {"cut, and then too long", "100 00000" + size(5) + text, 3, "", api.ErrBytes}, {"too long, and then cut", "100 00000" + size(5) + text, 2, "", api.ErrLen},
		{"no lengths", "100 00000" + low(0, 16), 99, "", api.ErrBytes}, {"half a length", "100 00000" + low(0, 8), 99, "", api.ErrBytes}, {"nothing", "100", 99, "", api.ErrBytes},
		{"more behind", "100 00000" + size(3) + text + low(0, 8), 99, "", api.ErrBytes},
		{"two blocks", "000 00000" + size(3) + text + "100 00000" + size(1) + unpack([]byte("d")), 4, "abcd", 0},
		{"a stored one behind a fixed one", "010" + end + "100 000" + size(3) + text, 4, "abc", 0}, {"the same with a bit in the pad", "010" + end + "100 001" + size(3) + text, 4, "", api.ErrBytes},
		{"a match into the block before", "000 00000" + size(3) + text + "110" + fixedLit(257) + fixedDist(2) + end, 6, "abcabc", 0},
		{"a match farther than the block before", "000 00000" + size(3) + text + "110" + fixedLit(257) + fixedDist(3) + end, 99, "", api.ErrBytes},
	} {
		check(t, c.name, pack(c.s), c.most, c.want, c.e)
	}
}

// rowOf gives a code for code lengths in which the symbols used have the length 5, and the others fill it up.
func rowOf() []int {
	l := slices.Repeat([]int{5}, 19)
	for i := 6; i < 19; i++ {
		l[i] = 4
	}
	return l
}

func TestDynamicBlocks(t *testing.T) {
	row := rowOf()
	zeros := func(n int) []int { return make([]int, n) }
	// 97 zeros, a, 158 zeros, 256 of length 1; one distance of length 0.
	lean := slices.Concat(zeros(97), []int{1}, zeros(158), []int{1}, []int{0})
	// Lengths 1 for a, 2 for 256 and 257, and two distances.
	rich := slices.Concat(zeros(97), []int{1}, zeros(158), []int{2, 2}, []int{1, 1})
	lone := slices.Concat(zeros(97), []int{1}, zeros(158), []int{2, 2}, []int{0, 1})
	for _, c := range []struct {
		name, s string
		most    int
		want    string
		e       api.Errno
	}{
		{"two literals", header("1", row, lean, "", 257, 1) + "0 0 1", 2, "aa", 0}, {"two literals", header("1", row, lean, "", 257, 1) + "0 0 1", 1, "", api.ErrLen},
		{"a match", header("1", row, rich, "", 258, 2) + "0 0 11 1 10", 9, "aaaaa", 0}, {"a match", header("1", row, rich, "", 258, 2) + "0 0 11 1 10", 4, "", api.ErrLen},
		{"a lone distance", header("1", row, lone, "", 258, 2) + "0 0 11 0 10", 9, "aaaaa", 0}, {"no such distance", header("1", row, lone, "", 258, 2) + "0 0 11 1 10", 9, "", api.ErrBytes},
		{"a match, but no distances", header("1", row, slices.Concat(rich[:258], []int{0}), "", 258, 1) + "0 0 11 0 10", 9, "", api.ErrBytes},
		{"no end symbol", header("1", row, slices.Concat(zeros(97), []int{1, 1}, zeros(158), []int{0}), "", 257, 1) + "0 0 1", 9, "", api.ErrBytes},
		{"no end symbol, and no room", header("1", row, slices.Concat(zeros(97), []int{1, 1}, zeros(158), []int{0}), "", 257, 1) + "0 0 1", 0, "", api.ErrBytes},
		{"no codes at all", header("1", row, zeros(258), "", 257, 1) + "000", 9, "", api.ErrBytes},
		{"the end alone", header("1", row, slices.Concat(zeros(256), []int{1, 0}), "", 257, 1) + "0", 9, "", 0}, {"the end alone, not taken", header("1", row, slices.Concat(zeros(256), []int{1, 0}), "", 257, 1) + "1", 9, "", api.ErrBytes},
		{"the end alone, of length 2", header("1", row, slices.Concat(zeros(256), []int{2, 0}), "", 257, 1) + "00", 9, "", api.ErrBytes},
		{"too few codes", header("1", row, slices.Concat(zeros(97), []int{1}, zeros(158), []int{2, 0}), "", 257, 1) + "0 10", 9, "", api.ErrBytes},
		{"too many codes", header("1", row, slices.Concat(zeros(96), []int{1, 1}, zeros(158), []int{1, 0}), "", 257, 1) + "0 1", 9, "", api.ErrBytes},
		{"distances that form no code", header("1", row, slices.Concat(lean[:257], []int{2}), "", 257, 1) + "0 0 1", 9, "", api.ErrBytes}, {"too many distances", header("1", row, slices.Concat(lean[:257], []int{1, 1, 1}), "", 257, 3) + "0 0 1", 9, "", api.ErrBytes},
		{"286 and 30", header("1", row, slices.Concat(lean[:257], zeros(29+30)), "", 286, 30) + "0 0 1", 9, "aa", 0},
		{"287", header("1", row, slices.Concat(lean[:257], zeros(30+30)), "", 287, 30) + "0 0 1", 9, "", api.ErrBytes}, {"31", header("1", row, slices.Concat(lean[:257], zeros(29+31)), "", 286, 31) + "0 0 1", 9, "", api.ErrBytes},
		{"repeated zeros", header("1", row, []int{18, 1, 18, 17, 17, 17, 1, 0}, low(86, 7)+","+low(127, 7)+","+low(7, 3)+","+low(4, 3)+","+low(0, 3), 257, 1) + "0 1", 9, "a", 0},
		{"as many zeros as are left", header("1", row, slices.Concat(lean[:257], []int{17}), low(0, 3), 257, 3) + "0 1", 9, "a", 0},
		{"more zeros than are left", header("1", row, slices.Concat(lean[:257], []int{17}), low(1, 3), 257, 3) + "0 1", 9, "", api.ErrBytes}, {"many more zeros than are left", header("1", row, slices.Concat(lean[:257], []int{18}), low(0, 7), 257, 10) + "0 1", 9, "", api.ErrBytes},
		{"again over the border", header("1", row, slices.Concat(zeros(97), []int{2, 0}, zeros(154), []int{2, 0, 1, 16}), "00", 257, 2) + "0", 9, "", api.ErrBytes},
		{"again at the border", header("1", row, slices.Concat(zeros(253), []int{2, 2, 2}, []int{2, 16}), low(0, 2), 257, 3) + "00 01 10 11", 9, "", api.ErrBytes},
		{"again", header("1", row, slices.Concat(zeros(253), []int{2, 16, 0}), low(0, 2), 257, 1) + "00 01 10 11", 9, "\xfd\xfe\xff", 0},
		{"again, both kinds", header("1", row, slices.Concat(zeros(97), []int{1}, zeros(158), []int{1, 16}), low(0, 2), 257, 3) + "0 1", 9, "", api.ErrBytes},
		{"again, both kinds, good", header("1", row, slices.Concat(zeros(253), []int{2, 2, 2, 2, 16}), low(1, 2), 257, 4) + "00 01 10 11", 9, "\xfd\xfe\xff", 0},
		{"again, the longest", header("1", row, slices.Concat(zeros(250), []int{3, 16, 3, 0}), low(3, 2), 257, 1) + "000 111", 9, "", api.ErrBytes},
		{"again first", header("1", row, slices.Concat([]int{16}, zeros(93), []int{1}, zeros(158), []int{1, 0}), low(0, 2), 257, 1) + "0 1", 9, "", api.ErrBytes},
		{"again first, of zeros", header("1", row, slices.Concat([]int{16}, zeros(94), []int{1}, zeros(158), []int{1, 0}), low(0, 2), 257, 1) + "0 1", 9, "", api.ErrBytes},
		{"again more than are left", header("1", row, slices.Concat(zeros(253), []int{2, 2, 2, 2, 16}), low(2, 2), 257, 4) + "00 01 10 11", 9, "", api.ErrBytes},
		{"a row that forms no code", header("1", slices.Concat([]int{1, 2}, zeros(17)), lean, "", 257, 1) + "0 0 1", 9, "", api.ErrBytes},
		{"an empty row", header("1", zeros(19), nil, "", 257, 1) + strings.Repeat("0", 300), 9, "", api.ErrBytes},
		{"cut in the row", header("1", row, lean, "", 257, 1)[:60], 9, "", api.ErrBytes}, {"cut in the lengths", header("1", row, lean, "", 257, 1)[:200], 9, "", api.ErrBytes}, {"cut in the numbers", "101 0000", 9, "", api.ErrBytes},
		{"the next block", header("0", row, lean, "", 257, 1) + "0 0 1" + header("1", row, rich, "", 258, 2) + "11 1 10", 9, "aaaaa", 0},
	} {
		out, _, e := slowGrow(pack(c.s), c.most)
		if string(out) != c.want || e != c.e {
			t.Errorf("%s: the example is none: %q %d", c.name, out, e)
		}
		check(t, c.name, pack(c.s), c.most, c.want, c.e)
	}
}

func TestArguments(t *testing.T) {
	for _, most := range []int{-1, 4097, math.MaxInt, math.MinInt} {
		check(t, "most", []byte{3, 0}, most, "", api.ErrArg)
		check(t, "most and length", make([]byte, 5001), most, "", api.ErrArg)
	}
	check(t, "length", make([]byte, 5001), 4096, "", api.ErrLen)
	check(t, "length", append([]byte{3}, make([]byte, 5000)...), 0, "", api.ErrLen)
	check(t, "length", append([]byte{3}, make([]byte, 4999)...), 0, "", api.ErrBytes)
	check(t, "nothing", nil, 0, "", api.ErrBytes)
	// Five empty blocks in the greatest length.
	long := append(bytes.Repeat([]byte{0, 0, 0, 255, 255}, 999), 1, 0, 0, 255, 255)
	check(t, "the greatest length", long, 0, "", api.OK)
	if n, e := grow.Blocks(long); n != 1000 || e != api.OK {
		t.Error(n, e)
	}
	b := []byte{3, 0, 7}
	check(t, "memory behind the length", b[:2], 5, "", api.OK)
}

func TestBlocks(t *testing.T) {
	for k, c := range []struct {
		b []byte
		n int
		e api.Errno
	}{
		{[]byte{3, 0}, 1, 0}, {pack("010" + end + "110" + end), 2, 0}, {pack("010" + end + "010" + end + "100 0" + low(0, 16) + low(65535, 16)), 3, 0},
		{nil, 0, api.ErrBytes}, {[]byte{2, 0}, 0, api.ErrBytes}, {[]byte{3, 0, 0}, 0, api.ErrBytes}, {make([]byte, 5001), 0, api.ErrLen},
		{pack("110" + fixedLit('a') + strings.Repeat(fixedLit(285)+fixedDist(0), 15) + fixedLit(284) + low(224-227+3+0, 5) + fixedDist(0) + end), 0, api.ErrLen},
		{pack("110" + fixedLit('a') + strings.Repeat(fixedLit(285)+fixedDist(0), 15) + fixedLit(283) + low(225-195, 5) + fixedDist(0) + end), 1, 0},
	} {
		if n, e := grow.Blocks(c.b); n != c.n || e != c.e {
			t.Error(k, n, e)
		}
	}
}

func texts() [][]byte {
	rnd := rand.New(rand.NewSource(1))
	l := [][]byte{nil, []byte("a"), []byte(strings.Repeat("RCPT TO:<c@d.example>\r\n", 30)), make([]byte, 4096)}
	for k := range 40 {
		b := make([]byte, rnd.Intn(300+k*5))
		of := 1 + rnd.Intn(256)
		for i := range b {
			b[i] = byte(rnd.Intn(of))
		}
		l = append(l, b)
	}
	return l
}

// streams gives valid streams: the project's own ones, and those of another writer of DEFLATE, of several blocks.
func streams(t *testing.T) [][]byte {
	rnd := rand.New(rand.NewSource(2))
	var l [][]byte
	for _, b := range texts() {
		for _, call := range []func([]byte) ([]byte, api.Errno){shrink.Stored, shrink.Fixed, shrink.Dynamic} {
			s, _ := call(b)
			l = append(l, s)
		}
		var s bytes.Buffer
		w, err := flate.NewWriter(&s, rnd.Intn(12)-2)
		if err != nil {
			t.Fatal(err)
		}
		for len(b) > 0 {
			n := 1 + rnd.Intn(len(b))
			w.Write(b[:n])
			b = b[n:]
			if rnd.Intn(2) == 0 {
				w.Flush()
			}
		}
		w.Close()
		l = append(l, s.Bytes())
	}
	return l
}

func TestLikeASecondReader(t *testing.T) {
	rnd := rand.New(rand.NewSource(3))
	good := 0
	for k, s := range streams(t) {
		for round := range 12 {
			b := bytes.Clone(s)
			most := 4096
			if round > 0 && len(b) > 0 {
				for range rnd.Intn(3) {
					b[rnd.Intn(min(len(b), 1<<(1+rnd.Intn(12))))] ^= 1 << rnd.Intn(8)
				}
				if rnd.Intn(4) == 0 {
					b = b[:rnd.Intn(len(b)+1)]
				}
				if rnd.Intn(8) == 0 {
					b = append(b, byte(rnd.Intn(2)))
				}
				if rnd.Intn(2) == 0 {
					most = rnd.Intn(500)
				}
			}
			before := bytes.Clone(b)
			out, blocks, e := slowGrow(b, most)
			got, e2 := grow.Grow(b, most)
			if e2 != e || !bytes.Equal(got, out) {
				t.Fatal(k, round, b, most, got, e2, e)
			}
			for i := range got {
				got[i] ^= 255
			}
			if !bytes.Equal(b, before) {
				t.Fatal(k, round, "the result shares memory with the argument")
			}
			if e == api.OK {
				good++
			}
			if most == 4096 {
				if n, e2 := grow.Blocks(b); n != blocks || e2 != e {
					t.Fatal(k, round, n, blocks, e2, e)
				}
			}
		}
	}
	if good < 200 {
		t.Error(good)
	}
}

// TestInverse is promise P7.2.
func TestInverse(t *testing.T) {
	for k, b := range texts() {
		for i, call := range []func([]byte) ([]byte, api.Errno){shrink.Stored, shrink.Fixed, shrink.Dynamic, shrink.Shrink} {
			s, _ := call(b)
			got, e := grow.Grow(s, len(b))
			if e != api.OK || !bytes.Equal(got, b) {
				t.Fatal(k, i, e)
			}
			if n, e := grow.Blocks(s); n != 1 || e != api.OK {
				t.Fatal(k, i, n, e)
			}
			if len(b) > 0 {
				if got, e := grow.Grow(s, len(b)-1); e != api.ErrLen || len(got) != 0 {
					t.Fatal(k, i, e)
				}
			}
		}
	}
}
