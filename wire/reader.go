package wire

import "strings"

// reader takes bytes from the front of a string. Once they did not suffice it has failed,
// and there is nothing left in it.
type reader struct {
	rest   string
	failed bool
}

// take takes so many bytes.
func (in *reader) take(n int) string {
	if n > len(in.rest) {
		in.rest = ""
		in.failed = true
		return ""
	}
	s := in.rest[:n]
	in.rest = in.rest[n:]
	return s
}

// number takes a number of so many bytes.
func (in *reader) number(size int) int {
	n := 0
	s := in.take(size)
	for i := range len(s) {
		n |= int(s[i]) << (8 * i)
	}
	return n
}

// text takes a text. It is copied, so that it does not hold on to all the bytes it stood in.
func (in *reader) text() string {
	return strings.Clone(in.take(in.number(1)))
}

// texts takes a count and so many texts.
func (in *reader) texts() []string {
	out := make([]string, in.number(1))
	for i := range out {
		out[i] = in.text()
	}
	return out
}
