package wharf_test

import (
	"reflect"
	"slices"
	"strings"
	"testing"

	"wharf/api"
	"wharf/wharf"
)

// sample is a right request and its bytes.
type sample struct {
	r api.Request
	s string
}

// samples has right requests of each Op, among them those with the least and the greatest of all fields.
func samples() []sample {
	longest := strings.Repeat("\xff", 255)
	return []sample{
		{api.Request{Op: 'C', Queue: 'a', Visible: 30, Window: 5, Receives: 2, Dead: 'b', Quota: 10}, "Ca\x1e\x00\x05\x00\x02b\x0a"},
		{api.Request{Op: 'C', Queue: 'a', Visible: 1, Dead: '-', Quota: 1}, "Ca\x01\x00\x00\x00\x00-\x01"},
		{api.Request{Op: 'C', Queue: 'h', Visible: 1000, Window: 1000, Receives: 9, Dead: 'g', Quota: 50}, "Ch\xe8\x03\xe8\x03\x09g\x32"},
		{api.Request{Op: 'C', Queue: 'd', Visible: 256, Window: 255, Receives: 1, Dead: 'a', Quota: 49}, "Cd\x00\x01\xff\x00\x01a\x31"},
		{api.Request{Op: 'X', Queue: 'a'}, "Xa"},
		{api.Request{Op: 'X', Queue: 'h'}, "Xh"},
		{api.Request{Op: 'P', Queue: 'a'}, "Pa"},
		{api.Request{Op: 'P', Queue: 'h'}, "Ph"},
		{api.Request{Op: 'S', Queue: 'a', Group: "g", Body: "hi"}, "Sa\x01g\x00\x02hi"},
		{api.Request{Op: 'S', Queue: 'h', Group: "\x00"}, "Sh\x01\x00\x00\x00"},
		{api.Request{Op: 'S', Queue: 'b', Group: "grp45678", Dedup: "dup45678", Body: longest}, "Sb\x08grp45678\x08dup45678\xff" + longest},
		{api.Request{Op: 'S', Queue: 'c', Group: "\x00\xff", Dedup: "\x01\x00", Body: "\x00"}, "Sc\x02\x00\xff\x02\x01\x00\x01\x00"},
		{api.Request{Op: 'R', Queue: 'a', Max: 1}, "Ra\x00\x01"},
		{api.Request{Op: 'R', Queue: 'h', Attempt: "\x002345678", Max: 10}, "Rh\x08\x002345678\x0a"},
		{api.Request{Op: 'A'}, "A\x00"},
		{api.Request{Op: 'A', Handle: "Ha\x01\x00\x00\x00\x01\x00"}, "A\x08Ha\x01\x00\x00\x00\x01\x00"},
		{api.Request{Op: 'A', Handle: longest}, "A\xff" + longest},
		{api.Request{Op: 'E'}, "E\x00\x00\x00"},
		{api.Request{Op: 'E', Handle: "h", Ticks: 258}, "E\x01h\x02\x01"},
		{api.Request{Op: 'E', Handle: longest, Ticks: 1000}, "E\xff" + longest + "\xe8\x03"},
		{api.Request{Op: 'T', Ticks: 1}, "T\x01\x00"},
		{api.Request{Op: 'T', Ticks: 1000}, "T\xe8\x03"},
		{api.Request{Op: 'V', Queue: 'a'}, "Va"},
		{api.Request{Op: 'V', Queue: 'h'}, "Vh"},
		{api.Request{Op: 'B', Batch: []string{""}}, "B\x01\x00"},
		{api.Request{Op: 'B', Batch: []string{"A\x00", "no request", "\xff"}}, "B\x03\x02A\x00\x0ano request\x01\xff"},
		{api.Request{Op: 'B', Batch: slices.Repeat([]string{longest}, 10)}, "B\x0a" + strings.Repeat("\xff"+longest, 10)},
	}
}

// firstOf tells the first sample of an Op.
func firstOf(t *testing.T, op byte) sample {
	t.Helper()
	for _, c := range samples() {
		if c.r.Op == op {
			return c
		}
	}
	t.Fatalf("no sample of the Op %c", op)
	return sample{}
}

// same tells whether two requests are the same; a list that is empty may be nil.
func same(a, b api.Request) bool {
	lists := slices.Equal(a.Batch, b.Batch)
	a.Batch, b.Batch = nil, nil
	return lists && reflect.DeepEqual(a, b)
}

func wantParsed(t *testing.T, s string, want api.Request) {
	t.Helper()
	if r, e := wharf.Parse(s); e != api.OK || !same(r, want) {
		t.Errorf("P3: Parse(%.60x) is %+v, %d, want %+v", s, r, e, want)
	}
}

func wantPrinted(t *testing.T, r api.Request, want string) {
	t.Helper()
	if s, e := wharf.Print(r); e != api.OK || s != want {
		t.Errorf("P3: Print(%+v) is %.60x, %d, want %.60x", r, s, e, want)
	}
}

// wantBoth wants a request and its bytes to be turned into one another.
func wantBoth(t *testing.T, r api.Request, s string) {
	t.Helper()
	wantPrinted(t, r, s)
	wantParsed(t, s, r)
}

func wantNotParsed(t *testing.T, s string) {
	t.Helper()
	if r, e := wharf.Parse(s); e != api.ErrForm || !same(r, api.Request{}) {
		t.Errorf("P3, P1: Parse(%.60x), of %d bytes, is %+v, %d, want ErrForm and nothing", s, len(s), r, e)
	}
}

func wantNotPrinted(t *testing.T, r api.Request) {
	t.Helper()
	if s, e := wharf.Print(r); e != api.ErrForm || s != "" {
		t.Errorf("P3, P1: Print(%+v) is %.60x, %d, want ErrForm and nothing", r, s, e)
	}
}
