package bundle

import (
	"bytes"
	"strings"

	"wherry/api"
	"wherry/dots"
	"wherry/number"
	"wherry/path"
	"wherry/sums"
)

const numberDigits = 10

// header holds the numbers of the first line, but for the number of mails, which follows from the commands.
type header struct {
	origin, number, size, sum int
}

// Read returns the bundle whose bytes are t.
func Read(t []byte) (api.Bundle, api.Errno) {
	line, c, found := bytes.Cut(t, []byte(lineEnd))
	h, ok := parseHeader(string(line))
	if !found || !ok || len(c) != h.size {
		return api.Bundle{}, api.ErrForm
	}
	if sums.Long(c) != h.sum {
		return api.Bundle{}, api.ErrSum
	}
	b := api.Bundle{Origin: h.origin, Number: h.number, Mails: parseMails(c)}
	// Whatever else is wrong makes other bytes of b, or none.
	same, e := Bytes(b)
	if e != api.OK || !bytes.Equal(same, t) {
		return api.Bundle{}, api.ErrForm
	}
	return b, api.OK
}

// parseHeader reads the first line, without its line end.
func parseHeader(line string) (header, bool) {
	words := strings.Split(line, " ")
	if len(words) != 6 || words[0] != firstWord {
		return header{}, false
	}
	var l [5]int
	for i, w := range words[1:] {
		n, ok := number.Parse(w, numberDigits)
		if !ok {
			return header{}, false
		}
		l[i] = n
	}
	h := header{origin: l[0], number: l[1], size: l[3], sum: l[4]}
	return h, h.origin <= 1
}

// parseMails reads mails as far as there are commands of one, and of at most one more than a bundle has.
func parseMails(c []byte) []api.Mail {
	var l []api.Mail
	for len(l) <= api.MaxBundle {
		m, rest, ok := parseMail(c)
		if !ok {
			break
		}
		l = append(l, m)
		c = rest
	}
	return l
}

// parseMail reads the commands of one mail, and returns what follows them.
func parseMail(c []byte) (m api.Mail, rest []byte, ok bool) {
	m.From, c, ok = parsePath(c, fromWord)
	if !ok {
		return api.Mail{}, nil, false
	}
	for len(m.To) <= api.MaxRcpts {
		to, rest, ok := parsePath(c, toWord)
		if !ok {
			break
		}
		m.To = append(m.To, to)
		c = rest
	}
	c, ok = bytes.CutPrefix(c, []byte(dataWord+lineEnd))
	if !ok {
		return api.Mail{}, nil, false
	}
	body, next, e := dots.Strip(c)
	if e != api.OK {
		return api.Mail{}, nil, false
	}
	m.Body = body
	return m, c[next:], true
}

// parsePath reads a line that consists of a word and the text of a path, and returns what follows it.
func parsePath(c []byte, word string) (p api.Path, rest []byte, ok bool) {
	line, rest, found := bytes.Cut(c, []byte(lineEnd))
	text, begins := strings.CutPrefix(string(line), word)
	if !found || !begins {
		return api.Path{}, nil, false
	}
	p, e := path.Parse(text)
	return p, rest, e == api.OK
}
