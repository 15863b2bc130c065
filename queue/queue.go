// Package queue: one queue of a broker, with its messages, ready groups, dedups and attempts.
// What a request asks of a queue is answered at once, but changes nothing yet:
// beside the answer stands a closure that makes the change, or nil, if there is none to make.
package queue

import (
	"slices"

	"wharf/api"
)

// Queue is a queue.
type Queue struct {
	letter   byte
	dead     byte
	visible  int
	window   int
	receives int
	quota    int

	next     int
	messages []message // by rising numbers
	ready    []string
	dedups   []dedup
	attempts []attempt
}

// message is a message. Its time is 0, if it is not in flight: no time that is set is 0,
// because it lies ahead of a NOW that is never below 0.
type message struct {
	number   int
	group    string
	body     string
	received int
	until    int
}

// dedup tells the number of what was sent under an id.
type dedup struct {
	id     string
	number int
	until  int
}

// attempt tells what was answered to an R under an id.
type attempt struct {
	id     string
	until  int
	answer string
}

// New makes the queue that a C asks for.
func New(r api.Request) *Queue {
	return &Queue{
		letter:   r.Queue,
		dead:     r.Dead,
		visible:  r.Visible,
		window:   r.Window,
		receives: r.Receives,
		quota:    r.Quota,
		next:     1,
	}
}

// Copy makes a queue that has the same, and shares nothing that changes with this one.
func (q *Queue) Copy() *Queue {
	out := *q
	out.messages = slices.Clone(q.messages)
	out.ready = slices.Clone(q.ready)
	out.dedups = slices.Clone(q.dedups)
	out.attempts = slices.Clone(q.attempts)
	return &out
}

// Letter tells the queue's letter.
func (q *Queue) Letter() byte { return q.letter }

// Dead tells the letter of the queue that groups are put aside into, or '-'.
func (q *Queue) Dead() byte { return q.dead }

// Purge lets the messages go (P). The dedups stay, so that what was sent is not taken again.
func (q *Queue) Purge(int, api.Request) ([]byte, func(), api.Errno) {
	change := func() {
		q.messages = nil
		q.ready = nil
		q.attempts = nil
	}
	return nil, change, api.OK
}

// head tells where the first message of a group stands, or -1.
func (q *Queue) head(group string) int {
	return slices.IndexFunc(q.messages, func(m message) bool { return m.group == group })
}

// find tells where the message of a number stands, or -1.
func (q *Queue) find(number int) int {
	return slices.IndexFunc(q.messages, func(m message) bool { return m.number == number })
}

// put puts a message behind the others.
func (q *Queue) put(group, body string) {
	if q.head(group) < 0 {
		q.ready = append(q.ready, group)
	}
	q.messages = append(q.messages, message{number: q.next, group: group, body: body})
	q.next++
}
