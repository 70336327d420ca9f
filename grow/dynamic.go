package grow

import (
	"wherry/api"
	"wherry/canon"
)

const (
	leastLits  = 257
	mostLits   = 286
	leastDists = 1
	mostDists  = 30
	leastOrder = 4
)

// The symbols that stand for more than one code length.
const (
	rowAgain     = 16
	rowZeros     = 17
	rowManyZeros = 18
	rowSyms      = 19
)

// rowOrder is the order in which the code length code lengths are written.
var rowOrder = [rowSyms]int{16, 17, 18, 0, 8, 7, 9, 6, 10, 5, 11, 4, 12, 3, 13, 2, 14, 1, 15}

// dynamic reads the rest of a dynamic block.
func (s *stream) dynamic() api.Errno {
	lits, e := s.number(5)
	if e != api.OK {
		return e
	}
	dists, e := s.number(5)
	if e != api.OK {
		return e
	}
	lits, dists = lits+leastLits, dists+leastDists
	if lits > mostLits || dists > mostDists {
		return api.ErrBytes
	}
	row, e := s.rowLengths()
	if e != api.OK {
		return e
	}
	l, e := s.row(row, lits+dists)
	if e != api.OK {
		return e
	}
	if canon.Check(l[:lits]) != api.OK || canon.Check(l[lits:]) != api.OK || l[endSym] == 0 {
		return api.ErrBytes
	}
	return s.tokens(l[:lits], l[lits:])
}

// rowLengths reads the code length code lengths.
func (s *stream) rowLengths() ([]int, api.Errno) {
	n, e := s.number(4)
	if e != api.OK {
		return nil, e
	}
	lengths := make([]int, rowSyms)
	for i := range n + leastOrder {
		if lengths[rowOrder[i]], e = s.number(3); e != api.OK {
			return nil, e
		}
	}
	if canon.Check(lengths) != api.OK {
		return nil, api.ErrBytes
	}
	return lengths, api.OK
}

// row reads the sequence of n code lengths.
func (s *stream) row(code []int, n int) ([]int, api.Errno) {
	var l []int
	for len(l) < n {
		x, e := s.symbol(code)
		if e != api.OK {
			return nil, e
		}
		value, least, more := x, 1, 0
		switch x {
		case rowAgain:
			if len(l) == 0 {
				return nil, api.ErrBytes
			}
			value, least, more = l[len(l)-1], 3, 2
		case rowZeros:
			value, least, more = 0, 3, 3
		case rowManyZeros:
			value, least, more = 0, 11, 7
		}
		v, e := s.number(more)
		if e != api.OK {
			return nil, e
		}
		if least+v > n-len(l) {
			return nil, api.ErrBytes
		}
		for range least + v {
			l = append(l, value)
		}
	}
	return l, api.OK
}
