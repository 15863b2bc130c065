package state

import (
	"wharf/api"
	"wharf/wire"
)

// batch does requests one behind the other (B). They are done on a copy of the state, since each one
// must find what those ahead of it changed, while nothing may be changed here yet.
func (s *State) batch(r api.Request) ([]byte, func(), api.Errno) {
	after := s.copy()
	answers := make([]string, len(r.Batch))
	changed := false
	for i, request := range r.Batch {
		answer, change := after.planInner(request)
		if change != nil {
			change()
			changed = true
		}
		answers[i] = answer
	}
	out := wire.AppendTexts(nil, answers)
	if !changed {
		return out, nil, api.OK
	}
	return out, func() { s.queues = after.queues }, api.OK
}

// planInner plans a request of a batch. What may not stand in one is no request there.
func (s *State) planInner(request string) (string, func()) {
	r, e := wire.Parse(request)
	if e != api.OK || !isInner(r.Op) {
		return Refusal(api.ErrForm), nil
	}
	return s.Plan(r)
}

// isInner tells whether requests of an Op may stand in a batch.
func isInner(op byte) bool {
	return op == 'S' || op == 'A' || op == 'E'
}

// copy makes a state that shares no queue with this one.
func (s *State) copy() *State {
	out := *s
	for i, q := range s.queues {
		if q != nil {
			out.queues[i] = q.Copy()
		}
	}
	return &out
}
