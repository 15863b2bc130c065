package queue

import (
	"slices"

	"wharf/api"
	"wharf/wire"
)

// settingsSize is how many bytes a queue's letter and its settings have.
const settingsSize = 8

// Append puts the queue behind other bytes, as Read takes it: its letter, and what Show tells.
func (q *Queue) Append(out []byte) []byte {
	return q.appendAll(append(out, q.letter))
}

// Read takes a queue: nil, if what comes is none. The letter and the settings stand as in a C,
// and are right if that is.
func Read(in *wire.Reader) *Queue {
	r, e := wire.Parse("C" + in.Take(settingsSize))
	if e != api.OK {
		return nil
	}
	q := New(r)
	q.next = in.Number(4)
	q.messages = readList(in, readMessage)
	q.ready = in.Texts()
	q.dedups = readList(in, readDedup)
	q.attempts = readList(in, readAttempt)
	if in.Failed() || !q.isSound() {
		return nil
	}
	return q
}

// readList takes a count and so many things.
func readList[T any](in *wire.Reader, read func(*wire.Reader) T) []T {
	out := make([]T, in.Number(1))
	for i := range out {
		out[i] = read(in)
	}
	return out
}

func readMessage(in *wire.Reader) message {
	return message{number: in.Number(4), group: in.Text(), body: in.Text(), received: in.Number(2), until: in.Number(4)}
}

func readDedup(in *wire.Reader) dedup {
	return dedup{id: in.Text(), number: in.Number(4), until: in.Number(4)}
}

func readAttempt(in *wire.Reader) attempt {
	return attempt{id: in.Text(), until: in.Number(4), answer: in.Long(2)}
}

// isSound tells whether the messages and ready groups are such as a queue can have, for all that is done with them
// counts on it: numbers rise, of a group the head alone may be in flight, and what is ready can be received, once.
func (q *Queue) isSound() bool {
	last := 0
	for i, m := range q.messages {
		if m.number <= last || m.until > 0 && q.head(m.group) != i {
			return false
		}
		last = m.number
	}
	for i, group := range q.ready {
		head := q.head(group)
		if head < 0 || q.messages[head].until > 0 || slices.Contains(q.ready[:i], group) {
			return false
		}
	}
	return last < q.next
}
