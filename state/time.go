package state

import (
	"wharf/api"
	"wharf/queue"
)

// goOn lets the time go on (T).
func (s *State) goOn(r api.Request) ([]byte, func(), api.Errno) {
	later := s.now + r.Ticks
	if later > api.MaxNow {
		return nil, nil, api.ErrTime
	}
	return nil, func() { s.set(later) }, api.OK
}

// set sets the time, and lets go and come back what is over by then.
// Queue goes behind queue, because what comes back in one may fill another.
func (s *State) set(now int) {
	s.now = now
	for _, q := range s.there() {
		q.Forget(now)
	}
	for _, q := range s.there() {
		s.bringBack(q)
	}
}

// bringBack lets the messages of a queue come back whose time is over.
func (s *State) bringBack(q *queue.Queue) {
	dead := s.deadOf(q)
	for _, number := range q.Due(s.now) {
		q.ComeBack(number, dead)
	}
}
