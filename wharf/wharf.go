// Package wharf: queues that keep their order group by group, and outlive a crash: see DOC.md.
package wharf

import (
	"wharf/api"
	"wharf/disk"
	"wharf/journal"
	"wharf/state"
	"wharf/wire"
)

// Broker has queues.
type Broker struct {
	state   *state.State
	journal *journal.Journal
}

// Check makes the check of some bytes (P3).
func Check(s string) uint32 { return wire.Check(s) }

// Parse reads a request (P3).
func Parse(s string) (api.Request, api.Errno) { return wire.Parse(s) }

// Print writes a request (P3).
func Print(r api.Request) (string, api.Errno) { return wire.Print(r) }

// Open makes a broker of what is on a disk (P4, P13).
func Open(d *disk.Disk) (*Broker, api.Errno) {
	if d == nil || d.Stopped() {
		return nil, api.ErrDown
	}
	laid, whole, requests := journal.Open(d)
	s, ok := restore(whole, requests)
	if !ok {
		return nil, api.ErrDown
	}
	return &Broker{state: s, journal: laid}, api.OK
}

// restore makes the state that was laid down. There is none, if anybody else wrote on the disk.
func restore(whole string, requests []string) (*state.State, bool) {
	if whole == "" {
		return state.New(), true
	}
	s, ok := state.Read(whole)
	if !ok {
		return nil, false
	}
	for _, request := range requests {
		if r, e := wire.Parse(request); e == api.OK {
			s.Do(r)
		}
	}
	return s, true
}

// Do does a request, and answers it (P4 to P11, P14).
func (b *Broker) Do(request string) string {
	if b.journal.Down() {
		return ""
	}
	r, e := wire.Parse(request)
	if e != api.OK {
		return state.Refusal(e)
	}
	answer, change := b.state.Plan(r)
	if change == nil {
		return answer
	}
	if !b.journal.Lay(journal.AppendRecord(nil, request), b.state.Whole) {
		return ""
	}
	change()
	return answer
}

// Serve does requests, and answers each (P12, P14). They are laid down first, piece by piece,
// since the disk has no room for a list of any length; behind a piece that was refused nothing is answered.
func (b *Broker) Serve(requests []string) []string {
	answers := make([]string, len(requests))
	for from := 0; from < len(requests); {
		count, records := piece(requests[from:])
		if !b.journal.Lay(records, b.state.Whole) {
			break
		}
		copy(answers[from:], b.state.Serve(requests[from:from+count]))
		from += count
	}
	return answers
}

// piece tells how many first requests of a list are done at once, and their records:
// of all that may change something, since what they will change hangs on those ahead of them.
func piece(requests []string) (int, []byte) {
	var records []byte
	for i, request := range requests {
		if mayChange(request) {
			records = journal.AppendRecord(records, request)
		}
		if len(records) >= journal.Room {
			return i + 1, records
		}
	}
	return len(requests), records
}

// mayChange tells whether a request is one that changes something, unless it is refused.
func mayChange(request string) bool {
	r, e := wire.Parse(request)
	return e == api.OK && r.Op != 'V'
}
