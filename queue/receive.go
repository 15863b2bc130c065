package queue

import (
	"math"
	"slices"

	"wharf/api"
	"wharf/wire"
)

// Receive gives out the heads of the first ready groups,
// or tells again what was answered under the same id (R).
func (q *Queue) Receive(now int, r api.Request) ([]byte, func(), api.Errno) {
	if i := q.findAttempt(r.Attempt); i >= 0 {
		return []byte(q.attempts[i].answer), nil, api.OK
	}
	count := min(r.Max, len(q.ready))
	answer := wire.AppendNumber(nil, count, 1)
	if count == 0 {
		return answer, nil, api.OK
	}
	until := now + q.visible
	heads := make([]int, count)
	for k, group := range q.ready[:count] {
		heads[k] = q.head(group)
		answer = q.appendGiven(answer, q.messages[heads[k]])
	}
	change := func() {
		for _, i := range heads {
			m := &q.messages[i]
			m.received = oftener(m.received)
			m.until = until
		}
		q.ready = slices.Delete(q.ready, 0, count)
		q.remember(attempt{id: r.Attempt, until: until, answer: string(answer)})
	}
	return answer, change, api.OK
}

// findAttempt tells where the attempt of an id stands, or -1. None has the empty id.
func (q *Queue) findAttempt(id string) int {
	return slices.IndexFunc(q.attempts, func(a attempt) bool { return a.id == id })
}

// remember keeps an attempt, if it has an id, and of all attempts the last ones.
func (q *Queue) remember(a attempt) {
	if a.id == "" {
		return
	}
	q.attempts = append(q.attempts, a)
	if len(q.attempts) > api.MaxAttempts {
		q.attempts = slices.Delete(q.attempts, 0, 1)
	}
}

// appendGiven puts behind other bytes what a receiver is told of a message that it is given.
func (q *Queue) appendGiven(out []byte, m message) []byte {
	out = wire.AppendHandle(out, wire.Handle{Queue: q.letter, Number: m.number, Received: oftener(m.received)})
	out = wire.AppendText(out, m.group)
	return wire.AppendText(out, m.body)
}

// oftener tells how often a message was received when it is received once more:
// it stays at the greatest number that a handle has room for.
func oftener(received int) int {
	return min(received+1, math.MaxUint16)
}
