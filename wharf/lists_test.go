package wharf_test

import (
	"slices"
	"strings"
	"sync"
	"testing"

	"wharf/api"
	"wharf/wharf"
)

func TestPrintLeavesTheListAlone(t *testing.T) {
	long := strings.Repeat("x", 256)
	for _, whole := range [][]string{
		{"A\x00", "x", "spare", "more"},          // right
		{"A\x00", long, "spare", "more"},         // a string that is too long
		slices.Repeat([]string{"x", "spare"}, 8), // too many
	} {
		for n := range len(whole) + 1 {
			for _, op := range []byte("BX") { // X has no list: wrong
				backing := slices.Clone(whole)
				wharf.Print(api.Request{Op: op, Batch: backing[:n]})
				if !slices.Equal(backing, whole) {
					t.Errorf("P2: Print wrote into the list or its spare room: %q, was %q", backing, whole)
				}
			}
		}
	}
}

func TestPrintDoesNotKeepTheList(t *testing.T) {
	list := []string{"one", "two"}
	first, _ := wharf.Print(api.Request{Op: 'B', Batch: list})
	list[0], list[1] = "1", "2"
	if first != "B\x02\x03one\x03two" {
		t.Errorf("P2: what Print answered is now %q", first)
	}
	wantPrinted(t, api.Request{Op: 'B', Batch: list}, "B\x02\x011\x012")
	wantPrinted(t, api.Request{Op: 'B', Batch: []string{"one", "two"}}, first)
}

func TestParseGivesFreshLists(t *testing.T) {
	const s = "B\x02\x03one\x03two"
	want := []string{"one", "two"}
	a, _ := wharf.Parse(s)
	b, _ := wharf.Parse(s)
	a.Batch[0] = "changed"
	_ = append(a.Batch, "behind")
	clear(a.Batch[:cap(a.Batch)])
	if !slices.Equal(b.Batch, want) {
		t.Errorf("P2: two answers of Parse share a list: %q", b.Batch)
	}
	wantParsed(t, s, api.Request{Op: 'B', Batch: want})
}

func TestParseSharesNoListWithPrint(t *testing.T) {
	list := []string{"one", "two"}
	s, _ := wharf.Print(api.Request{Op: 'B', Batch: list})
	r, _ := wharf.Parse(s)
	r.Batch[0] = "changed"
	if list[0] != "one" {
		t.Errorf("P2: Parse answered a list that Print was given")
	}
	list[1] = "changed"
	if r.Batch[1] != "two" {
		t.Errorf("P2: Print kept a list that Parse answered")
	}
	wantPrinted(t, r, "B\x02\x07changed\x03two")
}

func TestAnswersHangOnArgumentsAlone(t *testing.T) {
	var all sync.WaitGroup
	for range 8 {
		all.Go(func() {
			for range 50 {
				for _, c := range slices.Backward(samples()) {
					wantNotParsed(t, c.s[1:]+"\x00rest")
					wantBoth(t, c.r, c.s)
					wantNotPrinted(t, api.Request{Batch: c.r.Batch})
				}
			}
		})
	}
	all.Wait()
}
