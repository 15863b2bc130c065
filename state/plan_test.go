package state_test

import (
	"math/rand/v2"
	"testing"

	"wharf/api"
	"wharf/state"
	"wharf/wire"
)

// all tells what V says of each queue.
func all(s *state.State) [8]string {
	var out [8]string
	for i := range out {
		out[i], _ = s.Plan(api.Request{Op: 'V', Queue: 'a' + byte(i)})
	}
	return out
}

// source makes requests over few queues and groups, so that they often meet.
type source struct{ *rand.Rand }

func (g source) letter() byte { return "abh"[g.IntN(3)] }

func (g source) text(list ...string) string { return list[g.IntN(len(list))] }

func (g source) handle() string {
	return string(wire.AppendHandle(nil, wire.Handle{Queue: g.letter(), Number: 1 + g.IntN(12), Received: 1 + g.IntN(2)}))
}

func (g source) create() api.Request {
	r := api.Request{Op: 'C', Queue: g.letter(), Visible: 1 + g.IntN(9), Window: g.IntN(9), Receives: g.IntN(3), Dead: g.letter(), Quota: 1 + g.IntN(12)}
	if r.Dead == r.Queue {
		r.Dead = '-'
	}
	return r
}

func (g source) send() api.Request {
	return api.Request{Op: 'S', Queue: g.letter(), Group: g.text("g", "h", "k"), Body: g.text("", "1", "2", "3", "4", "5", "6")}
}

func (g source) handled() api.Request {
	if g.IntN(2) == 0 {
		return api.Request{Op: 'A', Handle: g.handle()}
	}
	return api.Request{Op: 'E', Handle: g.handle(), Ticks: g.IntN(3)}
}

func (g source) batch() api.Request {
	var list []string
	for range 1 + g.IntN(10) {
		r := g.handled()
		if g.IntN(2) == 0 {
			r = g.send()
		}
		s, _ := wire.Print(r)
		list = append(list, s)
	}
	return api.Request{Op: 'B', Batch: list}
}

func (g source) next() api.Request {
	switch n := g.IntN(20); {
	case n == 0:
		return api.Request{Op: "XP"[g.IntN(2)], Queue: g.letter()}
	case n < 3:
		return g.create()
	case n < 8:
		return g.send()
	case n < 12:
		return api.Request{Op: 'R', Queue: g.letter(), Attempt: g.text("", "t", "u"), Max: 1 + g.IntN(3)}
	case n < 16:
		return g.handled()
	case n < 19:
		return g.batch()
	default:
		return api.Request{Op: 'T', Ticks: []int{1, 2, 3, 4, 700}[g.IntN(5)]}
	}
}

// TestPlanChangesNothing: what a request asks for is changed by the closure, and by nothing ahead of it.
func TestPlanChangesNothing(t *testing.T) {
	for game := range 20 {
		g := source{rand.New(rand.NewPCG(uint64(game), 1))}
		s, other := state.New(), state.New()
		for range 1000 {
			r := g.next()
			was := all(s)
			first, _ := s.Plan(r)
			again, change := s.Plan(r)
			if all(s) != was || first != again {
				t.Fatalf("Plan(%+v) changes something ahead of its closure", r)
			}
			if done := other.Do(r); done != first {
				t.Fatalf("Plan(%+v) answers %q, Do %q", r, first, done)
			}
			if change != nil {
				change()
			}
			if all(s) != all(other) {
				t.Fatalf("the closure of Plan(%+v) leaves other queues than Do", r)
			}
		}
	}
}

// TestPlanWithoutAChange: no closure stands beside what changes nothing.
func TestPlanWithoutAChange(t *testing.T) {
	g := source{rand.New(rand.NewPCG(1, 2))}
	s := state.New()
	for range 10000 {
		r := g.next()
		was := all(s)
		answer, change := s.Plan(r)
		if answer[0] != byte(api.OK) && change != nil {
			t.Fatalf("P1: Plan(%+v) answers the error %d, and has a closure", r, answer[0])
		}
		if change != nil {
			change()
		} else if all(s) != was {
			t.Fatalf("Plan(%+v) has no closure, and changed something", r)
		}
	}
}
