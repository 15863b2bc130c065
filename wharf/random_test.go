package wharf_test

import (
	"math/rand/v2"
	"strings"
	"testing"

	"wharf/api"
	"wharf/wharf"
)

func within(n, least, most int) bool { return n >= least && n <= most }

// plainRight says Op by Op what makes a request right, as the document does.
func plainRight(r api.Request) bool {
	only := api.Request{Op: r.Op} // r without what its Op does not have
	var ok bool
	switch r.Op {
	case 'C':
		only.Visible, only.Window, only.Receives, only.Dead, only.Quota = r.Visible, r.Window, r.Receives, r.Dead, r.Quota
		ok = within(r.Visible, 1, 1000) && within(r.Window, 0, 1000) && within(r.Receives, 0, 9) && within(r.Quota, 1, 50)
		ok = ok && (r.Dead == '-' || within(int(r.Dead), 'a', 'h') && r.Dead != r.Queue)
	case 'X', 'P', 'V':
		ok = true
	case 'S':
		only.Group, only.Dedup, only.Body = r.Group, r.Dedup, r.Body
		ok = within(len(r.Group), 1, 8) && len(r.Dedup) <= 8 && !strings.HasPrefix(r.Dedup, "\x00") && len(r.Body) <= 255
	case 'R':
		only.Attempt, only.Max = r.Attempt, r.Max
		ok = len(r.Attempt) <= 8 && within(r.Max, 1, 10)
	case 'A':
		only.Handle = r.Handle
		ok = len(r.Handle) <= 255
	case 'E':
		only.Handle, only.Ticks = r.Handle, r.Ticks
		ok = len(r.Handle) <= 255 && within(r.Ticks, 0, 1000)
	case 'T':
		only.Ticks = r.Ticks
		ok = within(r.Ticks, 1, 1000)
	case 'B':
		only.Batch = r.Batch
		ok = within(len(r.Batch), 1, 10)
		for _, s := range r.Batch {
			ok = ok && len(s) <= 255
		}
	}
	if strings.IndexByte("CXPSRV", r.Op) >= 0 {
		only.Queue = r.Queue
		ok = ok && within(int(r.Queue), 'a', 'h')
	}
	return ok && same(only, r)
}

// wantSound wants what Parse says of some bytes to hang together.
func wantSound(t *testing.T, s string) {
	t.Helper()
	r, e := wharf.Parse(s)
	if e != api.OK {
		wantNotParsed(t, s)
		return
	}
	if !plainRight(r) {
		t.Errorf("P3: Parse(%.60x) is %+v, which is not right", s, r)
	}
	wantPrinted(t, r, s)
}

// wantJudged wants Print to take just the right requests, and Parse to read what it wrote.
func wantJudged(t *testing.T, r api.Request) {
	t.Helper()
	if !plainRight(r) {
		wantNotPrinted(t, r)
		return
	}
	s, _ := wharf.Print(r)
	wantPrinted(t, r, s)
	wantParsed(t, s, r)
}

// spoil changes one field to a number, a letter or a text near an edge.
func spoil(g *rand.Rand, r *api.Request) {
	numbers := []int{-1, 0, 1, 9, 10, 11, 50, 51, 255, 256, 1000, 1001, 65536, 65537}
	lengths := []int{0, 1, 7, 8, 9, 254, 255, 256}
	letters := "abgh`i-\x00AC"
	n := numbers[g.IntN(len(numbers))]
	text := strings.Repeat(string([]byte{byte(g.IntN(3))}), lengths[g.IntN(len(lengths))])
	at := letters[g.IntN(len(letters))]
	changes := []func(){
		func() { r.Op = ops[g.IntN(len(ops))] },
		func() { r.Queue = at }, func() { r.Dead = at },
		func() { r.Visible = n }, func() { r.Window = n }, func() { r.Receives = n },
		func() { r.Quota = n }, func() { r.Max = n }, func() { r.Ticks = n },
		func() { r.Group = text }, func() { r.Dedup = text }, func() { r.Body = text },
		func() { r.Attempt = text }, func() { r.Handle = text },
		func() { r.Batch = append([]string{text}, make([]string, g.IntN(12))...) },
	}
	changes[g.IntN(len(changes))]()
}

func TestSpoiltRequests(t *testing.T) {
	g := rand.New(rand.NewPCG(1, 2))
	list := samples()
	for range 200000 {
		r := list[g.IntN(len(list))].r
		for range g.IntN(3) {
			spoil(g, &r)
		}
		wantJudged(t, r)
	}
}

func TestSpoiltBytes(t *testing.T) {
	g := rand.New(rand.NewPCG(3, 4))
	list := samples()
	for range 200000 {
		s := []byte(list[g.IntN(len(list))].s)
		for range 1 + g.IntN(3) {
			s[g.IntN(min(len(s), 12))] = byte(g.IntN(256))
		}
		wantSound(t, string(s))
	}
}

func TestEveryByteChanged(t *testing.T) {
	for _, c := range samples() {
		for i := range min(len(c.s), 20) {
			for b := range 256 {
				wantSound(t, c.s[:i]+string([]byte{byte(b)})+c.s[i+1:])
			}
		}
	}
}

func TestLongRubbish(t *testing.T) {
	for b := range 256 {
		wantNotParsed(t, strings.Repeat(string([]byte{byte(b)}), 100000))
	}
}

func FuzzParse(f *testing.F) {
	for _, c := range samples() {
		f.Add(c.s)
	}
	f.Fuzz(func(t *testing.T, s string) { wantSound(t, s) })
}
