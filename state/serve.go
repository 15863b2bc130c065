package state

import (
	"sync"

	"wharf/api"
	"wharf/wire"
)

// order is a right request of a list, and the place of its answer.
type order struct {
	request api.Request
	answer  *string
}

// lanes has the orders that wait to be done, by the letter of the one queue that each concerns, from a on.
type lanes [8][]order

// Serve does requests, and answers each as if they were done one behind the other. Those that concern
// one queue alone wait until one comes that does not: then each queue does its own, all queues at once.
func (s *State) Serve(requests []string) []string {
	answers := make([]string, len(requests))
	var waiting lanes
	for i, request := range requests {
		r, e := wire.Parse(request)
		if letter, ok := queueOf(r); ok {
			lane := &waiting[letter-'a']
			*lane = append(*lane, order{request: r, answer: &answers[i]})
			continue
		}
		s.work(&waiting)
		answers[i] = s.alone(r, e)
	}
	s.work(&waiting)
	return answers
}

// alone does what concerns no queue, or more than one, or is no request.
func (s *State) alone(r api.Request, e api.Errno) string {
	if e != api.OK {
		return Refusal(e)
	}
	return s.Do(r)
}

// queueOf tells the letter of the queue that a request concerns, if it is one queue alone.
// An E is none of these, since a group may move by it.
func queueOf(r api.Request) (byte, bool) {
	switch r.Op {
	case 'P', 'S', 'R', 'V':
		return r.Queue, true
	case 'A':
		h, ok := wire.ReadHandle(r.Handle)
		return h.Queue, ok
	default:
		return 0, false
	}
}

// work does the orders that wait, each queue's in a goroutine of its own, and waits for all of them.
// Each touches its queue and the places of its answers alone; what they share, none of them changes.
func (s *State) work(waiting *lanes) {
	var all sync.WaitGroup
	for _, lane := range waiting {
		if len(lane) > 0 {
			all.Go(func() { s.follow(lane) })
		}
	}
	all.Wait()
	*waiting = lanes{}
}

// follow does orders one behind the other.
func (s *State) follow(lane []order) {
	for _, o := range lane {
		*o.answer = s.Do(o.request)
	}
}
