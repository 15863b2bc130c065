package queue

import (
	"slices"

	"wharf/api"
	"wharf/wire"
)

// Flies tells whether a handle is of a message that is in flight here.
func (q *Queue) Flies(h wire.Handle) bool {
	i := q.find(h.Number)
	return i >= 0 && q.messages[i].until > 0 && q.messages[i].received == h.Received
}

// Drop takes away a message that is in flight.
func (q *Queue) Drop(number int) {
	i := q.find(number)
	group := q.messages[i].group
	q.messages = slices.Delete(q.messages, i, i+1)
	if q.head(group) >= 0 {
		q.ready = append(q.ready, group)
	}
}

// Extend sets the time of a message that is in flight anew.
func (q *Queue) Extend(number, until int) {
	q.messages[q.find(number)].until = until
}

// ComeBack lets a message that is in flight come back. Its group moves to the dead queue (nil,
// if that is not there), if the message was received too often and there is room, or is ready here again.
func (q *Queue) ComeBack(number int, dead *Queue) {
	m := &q.messages[q.find(number)]
	m.until = 0
	if q.givesUp(*m) && dead != nil && dead.hasRoom(q.count(m.group)) {
		q.move(m.group, dead)
		return
	}
	q.ready = append(q.ready, m.group)
}

// givesUp tells whether a message was received as often as it may be.
func (q *Queue) givesUp(m message) bool {
	return q.receives > 0 && m.received >= q.receives
}

// count tells how many messages of a group there are.
func (q *Queue) count(group string) int {
	n := 0
	for _, m := range q.messages {
		if m.group == group {
			n++
		}
	}
	return n
}

// hasRoom tells whether so many messages may be put into the queue.
func (q *Queue) hasRoom(count int) bool {
	return len(q.messages)+count <= q.quota && q.next+count <= api.MaxSeq+1
}

// move puts the messages of a group, of which none is in flight or ready, into another queue.
func (q *Queue) move(group string, to *Queue) {
	for _, m := range q.messages {
		if m.group == group {
			to.put(m.group, m.body)
		}
	}
	q.messages = slices.DeleteFunc(q.messages, func(m message) bool { return m.group == group })
}
