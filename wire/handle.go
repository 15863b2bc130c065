package wire

// handleSize is how many bytes a handle has.
const handleSize = 8

// Handle is what a handle tells: a message's queue, its sequence number, and how often it was received.
type Handle struct {
	Queue    byte
	Number   int
	Received int
}

// ReadHandle reads a handle, if the string has the form of one.
func ReadHandle(s string) (Handle, bool) {
	if len(s) != handleSize || s[0] != 'H' || !isQueue(s[1]) {
		return Handle{}, false
	}
	in := NewReader(s[2:])
	h := Handle{Queue: s[1]}
	h.Number = in.Number(4)
	h.Received = in.Number(2)
	return h, true
}

// AppendHandle puts a handle behind other bytes.
func AppendHandle(out []byte, h Handle) []byte {
	out = append(out, 'H', h.Queue)
	out = AppendNumber(out, h.Number, 4)
	return AppendNumber(out, h.Received, 2)
}

// isQueue tells whether a byte is a queue's letter.
func isQueue(letter byte) bool {
	row := rows[queueField]
	return int(letter) >= row.least && int(letter) <= row.most
}
