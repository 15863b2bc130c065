package state

import (
	"wharf/queue"
	"wharf/wire"
)

// Whole tells all that the state has, as Read reads it.
func (s *State) Whole() string {
	out := wire.AppendNumber(nil, s.now, 4)
	for _, q := range s.there() {
		out = q.Append(out)
	}
	return string(out)
}

// Read makes a state that has what Whole told, if that is what the string is.
func Read(whole string) (*State, bool) {
	s := New()
	in := wire.NewReader(whole)
	s.now = in.Number(4)
	for in.Left() > 0 {
		q := queue.Read(in)
		if q == nil {
			return nil, false
		}
		s.queues[q.Letter()-'a'] = q
	}
	if in.Failed() {
		return nil, false
	}
	return s, true
}
