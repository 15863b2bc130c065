package state

import (
	"wharf/api"
	"wharf/queue"
)

// at finds the queue of a letter: nil, if there is none.
func (s *State) at(letter byte) *queue.Queue {
	return s.queues[letter-'a']
}

// there tells the queues that are there, by their letters.
func (s *State) there() []*queue.Queue {
	var out []*queue.Queue
	for _, q := range s.queues {
		if q != nil {
			out = append(out, q)
		}
	}
	return out
}

// create makes a queue (C).
func (s *State) create(r api.Request) ([]byte, func(), api.Errno) {
	if s.at(r.Queue) != nil {
		return nil, nil, api.ErrExists
	}
	return nil, func() { s.queues[r.Queue-'a'] = queue.New(r) }, api.OK
}

// remove lets a queue go (X).
func (s *State) remove(r api.Request) ([]byte, func(), api.Errno) {
	if s.at(r.Queue) == nil {
		return nil, nil, api.ErrQueue
	}
	return nil, func() { s.queues[r.Queue-'a'] = nil }, api.OK
}

// within makes a deed of what one queue alone does.
func within(do func(q *queue.Queue, now int, r api.Request) ([]byte, func(), api.Errno)) deed {
	return func(s *State, r api.Request) ([]byte, func(), api.Errno) {
		q := s.at(r.Queue)
		if q == nil {
			return nil, nil, api.ErrQueue
		}
		return do(q, s.now, r)
	}
}
