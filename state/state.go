// Package state: what a broker has, and what it does with each kind of request.
package state

import (
	"wharf/api"
	"wharf/queue"
)

// State is a broker's time and its queues.
type State struct {
	now    int
	queues [8]*queue.Queue // by letter, from a on; nil where there is none
	deeds  [26]deed
}

// deed is what is done with a request of one Op: what is answered behind the error,
// and a closure that makes the change, or nil, if there is none to make.
type deed func(s *State, r api.Request) ([]byte, func(), api.Errno)

// New makes a state at time 0, without queues.
func New() *State {
	return &State{deeds: deeds()}
}

// deeds makes the table of what is done by the Op's letter, from A on.
// It is kept in the state, because functions may not stand in a table at package level.
func deeds() [26]deed {
	return [26]deed{
		'A' - 'A': (*State).acknowledge,
		'B' - 'A': (*State).batch,
		'C' - 'A': (*State).create,
		'E' - 'A': (*State).extend,
		'P' - 'A': within((*queue.Queue).Purge),
		'R' - 'A': within((*queue.Queue).Receive),
		'S' - 'A': within((*queue.Queue).Send),
		'T' - 'A': (*State).goOn,
		'V' - 'A': within((*queue.Queue).Show),
		'X' - 'A': (*State).remove,
	}
}

// Plan tells what a right request is answered, and what makes the change it asks for:
// nil, if nothing is to be changed.
func (s *State) Plan(r api.Request) (string, func()) {
	answer, change, e := s.deeds[r.Op-'A'](s, r)
	if e != api.OK {
		return Refusal(e), nil
	}
	return string(append([]byte{byte(api.OK)}, answer...)), change
}

// Do does a right request, and answers it.
func (s *State) Do(r api.Request) string {
	answer, change := s.Plan(r)
	if change != nil {
		change()
	}
	return answer
}

// Refusal is the answer to a request that is not done.
func Refusal(e api.Errno) string {
	return string([]byte{byte(e)})
}
