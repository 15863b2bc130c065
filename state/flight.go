package state

import (
	"wharf/api"
	"wharf/queue"
	"wharf/wire"
)

// acknowledge lets a message go that is in flight (A).
func (s *State) acknowledge(r api.Request) ([]byte, func(), api.Errno) {
	q, number, e := s.find(r.Handle)
	if e != api.OK {
		return nil, nil, e
	}
	return nil, func() { q.Drop(number) }, api.OK
}

// extend sets the time of a message anew, or lets it come back (E).
func (s *State) extend(r api.Request) ([]byte, func(), api.Errno) {
	q, number, e := s.find(r.Handle)
	if e != api.OK {
		return nil, nil, e
	}
	if r.Ticks == 0 {
		return nil, func() { q.ComeBack(number, s.deadOf(q)) }, api.OK
	}
	return nil, func() { q.Extend(number, s.now+r.Ticks) }, api.OK
}

// find finds the queue and the number of the message in flight that a handle is of.
func (s *State) find(handle string) (*queue.Queue, int, api.Errno) {
	h, ok := wire.ReadHandle(handle)
	if !ok {
		return nil, 0, api.ErrHandle
	}
	q := s.at(h.Queue)
	if q == nil || !q.Flies(h) {
		return nil, 0, api.ErrStale
	}
	return q, h.Number, api.OK
}

// deadOf finds the queue that a queue's groups are put aside into: nil, if it is not there.
func (s *State) deadOf(q *queue.Queue) *queue.Queue {
	if q.Dead() == '-' {
		return nil
	}
	return s.at(q.Dead())
}
