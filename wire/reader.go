package wire

import "strings"

// Reader takes bytes from the front of a string. Once they did not suffice it has failed,
// and there is nothing left in it.
type Reader struct {
	rest   string
	failed bool
}

// NewReader makes a reader of a string.
func NewReader(s string) *Reader { return &Reader{rest: s} }

// Left tells how many bytes are left.
func (in *Reader) Left() int { return len(in.rest) }

// Failed tells whether the bytes did not suffice.
func (in *Reader) Failed() bool { return in.failed }

// Take takes so many bytes.
func (in *Reader) Take(n int) string {
	if n > len(in.rest) {
		in.rest = ""
		in.failed = true
		return ""
	}
	s := in.rest[:n]
	in.rest = in.rest[n:]
	return s
}

// Number takes a number of so many bytes.
func (in *Reader) Number(size int) int {
	n := 0
	s := in.Take(size)
	for i := range len(s) {
		n |= int(s[i]) << (8 * i)
	}
	return n
}

// Long takes a number of so many bytes, and as many bytes as it tells.
// They are copied, so that they do not hold on to all those they stood among.
func (in *Reader) Long(size int) string {
	return strings.Clone(in.Take(in.Number(size)))
}

// Text takes a text.
func (in *Reader) Text() string { return in.Long(1) }

// Texts takes a count and so many texts.
func (in *Reader) Texts() []string {
	out := make([]string, in.Number(1))
	for i := range out {
		out[i] = in.Text()
	}
	return out
}
