package journal_test

import (
	"slices"
	"strings"
	"testing"

	"wharf/disk"
	"wharf/journal"
)

// file is the name of the file, and newFile that of one that is being made.
const file, newFile = "journal", "journal.new"

// lay lays one request down; what is laid down in a new file is told by a text.
func lay(j *journal.Journal, request, whole string) bool {
	return j.Lay(journal.AppendRecord(nil, request), func() string { return whole })
}

// finds wants a disk to have this laid down.
func finds(t *testing.T, d *disk.Disk, whole string, requests ...string) *journal.Journal {
	t.Helper()
	j, gotWhole, got := journal.Open(d)
	if j == nil || gotWhole != whole || !slices.Equal(got, requests) {
		t.Fatalf("found are %q and %q, want %q and %q", gotWhole, got, whole, requests)
	}
	return j
}

// withFile is a disk with a file of these bytes.
func withFile(bytes string) *disk.Disk {
	d := disk.New()
	d.Append(file, bytes)
	d.Sync(file)
	return d
}

func TestNothingIsLaidDown(t *testing.T) {
	d := disk.New()
	finds(t, d, "")
	if len(d.Names()) > 0 {
		t.Errorf("Open makes files: %q", d.Names())
	}
}

func TestWhatIsLaidDownIsFound(t *testing.T) {
	d := disk.New()
	j := finds(t, d, "")
	want := []string{"one", "", "\x00", strings.Repeat("long", 500)}
	for i, s := range want {
		if !lay(j, s, "whole") {
			t.Fatalf("Lay is refused")
		}
		finds(t, d, "whole", want[:i+1]...)
		finds(t, d.Crash(0), "whole", want[:i+1]...)
	}
	j = finds(t, d, "whole", want...)
	if !lay(j, "last", "other") {
		t.Fatalf("Lay is refused")
	}
	finds(t, d, "whole", append(want, "last")...)
	if names := d.Names(); !slices.Equal(names, []string{file}) {
		t.Errorf("there are the files %q", names)
	}
}

func TestNoRecordIsLaidDown(t *testing.T) {
	d := disk.New()
	j := finds(t, d, "")
	if !j.Lay(nil, func() string { return "" }) || len(d.Names()) > 0 {
		t.Errorf("Lay of nothing is refused, or lays something down")
	}
}

// TestOpenDoesNoStep: what is found is found by reading alone.
func TestOpenDoesNoStep(t *testing.T) {
	for cut := range 60 {
		bytes := string(journal.AppendRecord(journal.AppendRecord(nil, "whole"), "request"))
		d := withFile(bytes[:min(cut, len(bytes))])
		d.Append(newFile, "left")
		d.Stop(1)
		journal.Open(d)
		if d.Stopped() {
			t.Fatalf("Open does a step")
		}
	}
}

// TestPieces: of a file that is cut off anywhere the whole records are found, and behind them there is room again.
func TestPieces(t *testing.T) {
	records := []string{"whole", "one", "", "three", strings.Repeat("x", 300)}
	var bytes []byte
	var ends []int
	for _, s := range records {
		bytes = journal.AppendRecord(bytes, s)
		ends = append(ends, len(bytes))
	}
	for cut := range len(bytes) + 1 {
		d := withFile(string(bytes[:cut]))
		n := 0
		for n < len(ends) && ends[n] <= cut {
			n++
		}
		whole, requests := "", []string(nil)
		if n > 0 {
			whole, requests = "whole", records[1:n]
		}
		j := finds(t, d, whole, requests...)
		if !lay(j, "more", "all that was") {
			t.Fatalf("Lay is refused")
		}
		if slices.Contains(ends, cut) {
			finds(t, d, whole, append(slices.Clone(requests), "more")...)
		} else {
			finds(t, d, "all that was", "more")
		}
	}
}

// TestOtherBytes: behind a byte that is another nothing is found.
func TestOtherBytes(t *testing.T) {
	bytes := string(journal.AppendRecord(nil, "whole"))
	end := len(bytes)
	bytes = string(journal.AppendRecord([]byte(bytes), "request"))
	for i := range len(bytes) {
		other := []byte(bytes)
		other[i] ^= 1
		if i < end {
			finds(t, withFile(string(other)), "")
		} else {
			finds(t, withFile(string(other)), "whole")
		}
	}
	finds(t, withFile(strings.Repeat("\xff", 100)), "")
}

// TestNewFile: when there is no room left, a file begins with all that was then.
func TestNewFile(t *testing.T) {
	d := disk.New()
	j := finds(t, d, "")
	was := 0
	for i := range 20000 {
		if !lay(j, "a request", "whole "+strings.Repeat("x", i%7)) {
			t.Fatalf("Lay is refused")
		}
		n := len(d.Read(file))
		if n > journal.Room+100 {
			t.Fatalf("the file has %d bytes", n)
		}
		if n < was {
			finds(t, d, "whole "+strings.Repeat("x", i%7), "a request")
		}
		was = n
		if i%9 == 0 {
			j, _, _ = journal.Open(d)
		}
	}
	if len(d.Names()) != 1 {
		t.Errorf("there are the files %q", d.Names())
	}
}

// TestLeftNewFile: what a crash left of a new file is not found, and does not stand in the next one.
func TestLeftNewFile(t *testing.T) {
	d := withFile(string(journal.AppendRecord(journal.AppendRecord(nil, "whole"), "one")))
	d.Append(newFile, "left")
	j := finds(t, d, "whole", "one")
	if !lay(j, "two", "with one") {
		t.Fatalf("Lay is refused")
	}
	finds(t, d, "with one", "two")
	if len(d.Names()) != 1 {
		t.Errorf("there are the files %q", d.Names())
	}
}

// TestMoreThanThereIsRoomFor: records are laid down whole, however many they are.
func TestMoreThanThereIsRoomFor(t *testing.T) {
	d := disk.New()
	j := finds(t, d, "")
	var records []byte
	var want []string
	for len(records) < 3*journal.Room {
		records = journal.AppendRecord(records, "a request")
		want = append(want, "a request")
	}
	for range 3 {
		if !j.Lay(records, func() string { return "whole" }) {
			t.Fatalf("Lay is refused")
		}
		finds(t, d, "whole", want...)
	}
}

// TestRefused: the disk stops at each step; what was not laid down is not found, and nothing is laid down from then on.
func TestRefused(t *testing.T) {
	whole := withFile(string(journal.AppendRecord(nil, "whole")) + "left")
	whole.Append(newFile, "left too")
	for n := 0; ; n++ {
		d := whole.Crash(100)
		j := finds(t, d, "whole")
		d.Stop(n)
		if j.Down() {
			t.Fatalf("Down ahead of a step that is refused")
		}
		if lay(j, "request", "all") {
			if n != 6 {
				t.Errorf("Lay needs %d steps, want 6", n)
			}
			finds(t, d, "all", "request")
			return
		}
		if !j.Down() || j.Lay(nil, nil) || lay(j, "request", "all") {
			t.Fatalf("Lay is done behind a step that was refused")
		}
		if n < 4 {
			finds(t, d.Crash(0), "whole")
		} else {
			finds(t, d.Crash(0), "all")
		}
	}
}
