package shrink

import "wherry/bits"

// writer holds a bit string that grows in place; bits.Put would copy the whole string for each number.
type writer struct {
	b []byte
	n int
}

// put appends the n bits of v, which has no more bits, the lowest one first.
func (w *writer) put(v, n int) {
	rest := uint32(v)
	for n > 0 {
		used := w.n % 8
		if used == 0 {
			w.b = append(w.b, 0)
		}
		part := min(8-used, n)
		w.b[len(w.b)-1] |= byte(rest << used)
		rest >>= part
		w.n += part
		n -= part
	}
}

// putSym appends the code of a symbol, the highest bit first.
func (w *writer) putSym(c code, s int) {
	turned, _ := bits.Turn(c.codes[s], c.lengths[s])
	w.put(turned, c.lengths[s])
}
