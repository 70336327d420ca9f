package shrink

import "wherry/api"

// The symbols that stand for more than one code length.
const (
	rowAgain     = 16
	rowZeros     = 17
	rowManyZeros = 18
	rowSyms      = 19
)

const mostRow = 320

// rowOrder is the order in which the code length code lengths are written.
var rowOrder = [rowSyms]int{16, 17, 18, 0, 8, 7, 9, 6, 10, 5, 11, 4, 12, 3, 13, 2, 14, 1, 15}

// Row returns the symbols that encode a sequence of code lengths, and the values of their extra bits.
func Row(lengths []int) (syms []int, more []int, e api.Errno) {
	if len(lengths) > mostRow {
		return nil, nil, api.ErrArg
	}
	for _, n := range lengths {
		if n < 0 || n > mostCodeLen {
			return nil, nil, api.ErrArg
		}
	}
	for at := 0; at < len(lengths); {
		s, v, n := rowStep(lengths, at)
		syms = append(syms, s)
		more = append(more, v)
		at += n
	}
	return syms, more, api.OK
}

// rowStep returns the symbol at position at, the value of its extra bits, and how many elements it represents.
func rowStep(lengths []int, at int) (s, v, n int) {
	x := lengths[at]
	r := 1
	for at+r < len(lengths) && lengths[at+r] == x {
		r++
	}
	switch {
	case x == 0 && r >= 11:
		n = min(r, 138)
		return rowManyZeros, n - 11, n
	case x == 0 && r >= 3:
		return rowZeros, r - 3, r
	case x != 0 && r >= 3 && at > 0 && lengths[at-1] == x:
		n = min(r, 6)
		return rowAgain, n - 3, n
	}
	return x, 0, 1
}

// rowMore returns the number of extra bits of a symbol.
func rowMore(s int) int {
	switch s {
	case rowAgain:
		return 2
	case rowZeros:
		return 3
	case rowManyZeros:
		return 7
	}
	return 0
}
