package wharf_test

import (
	"math/rand/v2"
	"slices"
	"strings"
	"testing"

	"wharf/api"
	"wharf/disk"
	"wharf/wharf"
)

// tale is a list of requests, what each is answered, and what a broker is behind each number of first ones.
type tale struct {
	requests []string
	answers  []string
	marks    []mark
}

// tell makes a tale of requests.
func tell(requests ...string) tale {
	m := newModel()
	out := tale{requests: requests, marks: []mark{m.mark()}}
	for _, s := range requests {
		out.answers = append(out.answers, m.do(s))
		out.marks = append(out.marks, m.mark())
	}
	return out
}

// played makes a tale of a player's requests, behind some that make queues.
func played(p *player, count int) tale {
	m := newModel()
	requests := []string{create('a', 5, 6, 2, 'b', 20), create('b', 9, 0, 0, '-', 20)}
	for _, s := range requests {
		m.do(s)
	}
	for range count {
		s := p.next()
		requests = append(requests, s)
		p.note(s, m.do(s))
	}
	return tell(requests...)
}

// find tells how many requests are done on what is left of a disk: at least, and at most, so many.
func (s tale) find(t *testing.T, d *disk.Disk, keep, least, most int) int {
	t.Helper()
	got := markOf(t, d, keep)
	for i := least; i <= most; i++ {
		if s.marks[i] == got {
			return i
		}
	}
	t.Fatalf("P14: behind a crash (%d loose bytes kept) the broker is %v, which is not behind %d to %d requests, %v to %v", keep, got, least, most, s.marks[least], s.marks[most])
	return 0
}

// do does requests from one on, one behind the other, until one is not answered. It tells how many are done then.
func (s tale) do(t *testing.T, b trial, from int) int {
	t.Helper()
	for i, request := range s.requests[from:] {
		switch answer := b.b.Do(request); answer {
		case "":
			return from + i
		case s.answers[from+i]:
		default:
			t.Fatalf("P14: the request %d, %q, is answered %q, want %q", from+i, request, answer, s.answers[from+i])
		}
	}
	return len(s.requests)
}

// serve does the same with the requests up to one, as one list.
func (s tale) serve(t *testing.T, b trial, from, to int) int {
	t.Helper()
	out := b.b.Serve(s.requests[from:to])
	if len(out) != to-from {
		t.Fatalf("P12: %d answers to %d requests", len(out), to-from)
	}
	done := from
	for done < to && out[done-from] == s.answers[done] {
		done++
	}
	for i, answer := range out[done-from:] {
		if answer != "" {
			t.Fatalf("P14: the request %d of a list, %q, is answered %q, want %q or nothing from %d on", done+i, s.requests[done+i], answer, s.answers[done+i], done)
		}
	}
	return done
}

// isDown wants a broker to answer nothing any more.
func (t trial) isDown(d *disk.Disk) {
	t.Helper()
	if !d.Stopped() {
		t.Fatalf("P14: nothing is answered, and the disk is not stopped")
	}
	list := append(mixture(), "", "V", show('h'), goOn(1))
	for range 2 {
		for _, s := range list {
			t.gets(s, "")
		}
		t.serves(list, make([]string, len(list)))
	}
	t.serves(nil, nil)
	for i := range list {
		t.serves(list[i:i+1], []string{""})
	}
}

// keeps are numbers of loose bytes: all small ones, and some great ones.
func keeps() []int {
	out := []int{-1, 1 << 30}
	for keep := range 80 {
		out = append(out, keep)
	}
	for keep := 80; keep < 4000; keep += keep / 6 {
		out = append(out, keep)
	}
	return out
}

// something is a tale with something of everything.
func something() tale {
	list := []string{create('a', 5, 6, 2, 'b', 20), create('b', 9, 0, 0, '-', 20), create('b', 1, 0, 0, '-', 1), send('a', "g", "", "1"), send('a', "g", "", "2"), send('a', "h", "d", "3"), send('a', "h", "d", "3"),
		receive('a', "t", 1), receive('a', "t", 1), goOn(5), receive('a', "u", 9), show('a'), acknowledge(handle('a', 3, 1)), acknowledge(handle('a', 3, 1)), extend(handle('a', 1, 2), 7), "x", extend(handle('a', 1, 2), 0),
		batch(send('a', "k", "", "4"), send('b', "k", "", "5"), acknowledge(handle('a', 1, 9)), "x"), receive('b', "", 3), batch(acknowledge(handle('b', 1, 1)), extend(handle('b', 3, 1), 0), send('b', "k", "", "6")),
		batch("x"), goOn(1000), purge('b'), send('b', "l", "", "7"), remove('a'), remove('a'), create('a', 1, 1, 0, '-', 50), goOn(1), send('a', "m", "", "8")}
	return tell(list...)
}

// TestStopAtEachStep: Do behind Do, the disk stops at any step, and any number of loose bytes is kept.
func TestStopAtEachStep(t *testing.T) {
	s := something()
	for n := 0; ; n++ {
		d := disk.New()
		b := on(t, d)
		d.Stop(n)
		done := s.do(t, b, 0)
		if done == len(s.requests) {
			return
		}
		b.isDown(d)
		for _, keep := range keeps() {
			i := s.find(t, d, keep, done, done+1)
			left := d.Crash(keep)
			if end := s.do(t, on(t, left), i); end != len(s.requests) {
				t.Fatalf("P14: the broker behind a crash stops at %d", end)
			}
			if got := markOf(t, left, 0); got != s.marks[len(s.requests)] {
				t.Fatalf("P14: a broker that went on behind a crash is %v, want %v", got, s.marks[len(s.requests)])
			}
		}
	}
}

// TestStopWithinAList: likewise, with lists of every length.
func TestStopWithinAList(t *testing.T) {
	s := something()
	for length := 1; length <= len(s.requests); length++ {
		for n := 0; ; n++ {
			d := disk.New()
			b := on(t, d)
			d.Stop(n)
			done, from, to := 0, 0, 0
			for done == to && to < len(s.requests) {
				from, to = to, min(to+length, len(s.requests))
				done = s.serve(t, b, from, to)
			}
			if done == len(s.requests) {
				break
			}
			b.isDown(d)
			for _, keep := range keeps() {
				if length%4 == 1 || keep%5 == 0 {
					s.find(t, d, keep, done, to)
				}
			}
		}
	}
}

// TestStopDuringOpen: the disk stops at any step of an Open behind a crash, and of what comes behind it.
func TestStopDuringOpen(t *testing.T) {
	whole := something()
	for done := range len(whole.requests) {
		d := disk.New()
		whole.serve(t, on(t, d), 0, done)
		s := tell(append(slices.Clone(whole.requests[:done]), goOn(7), goOn(2), goOn(4))...)
		for _, keep := range []int{0, 3, 20, 1 << 30} {
			left := cutOff(t, d, goOn(7), keep)
			from := s.find(t, left, 0, done, done+1)
			for n := range 12 {
				s.openWithSteps(t, left.Crash(0), n, keep, from)
			}
		}
	}
}

// openWithSteps opens a broker on a disk on which some requests are done, and lets it go on with the tale until the disk stops.
func (s tale) openWithSteps(t *testing.T, d *disk.Disk, n, keep, from int) {
	t.Helper()
	d.Stop(n)
	b, e := wharf.Open(d)
	switch {
	case e == api.OK && b != nil && n > 0:
		done := s.do(t, trial{t, b}, from)
		s.find(t, d, keep, done, min(done+1, len(s.requests)))
	case e == api.ErrDown && b == nil && d.Stopped():
		s.find(t, d, keep, from, from)
	default:
		t.Fatalf("P13: Open with %d steps left is %v, %d", n, b, e)
	}
}

// TestABatchIsWhole: whatever is kept of a B, all that it asks for is done, or nothing.
func TestABatchIsWhole(t *testing.T) {
	s := tell(create('a', 5, 5, 1, 'b', 20), create('b', 5, 5, 0, '-', 20), send('a', "g", "", "1"), receive('a', "", 1),
		batch(send('a', "h", "", "2"), send('b', "h", "", "3"), extend(handle('a', 1, 1), 0), send('b', "h", "", "4"), acknowledge("x"), send('a', "g", "", "5")))
	last := len(s.requests)
	seen := map[int]int{}
	for _, inList := range []bool{false, true} {
		for n := range 10 {
			for keep := range 100 {
				d := disk.New()
				b := on(t, d)
				s.serve(t, b, 0, last-1)
				d.Stop(n)
				done := last - 1
				if inList {
					done = s.serve(t, b, last-1, last)
				} else {
					done = s.do(t, b, last-1)
				}
				seen[s.find(t, d, keep, done, last)]++
			}
		}
	}
	if len(seen) != 2 {
		t.Errorf("the B is always done, or never: %v", seen)
	}
}

// TestCrashAgainAndAgain: a long tale that is told through by brokers whose disks all stop somewhere.
func TestCrashAgainAndAgain(t *testing.T) {
	for game := range 120 {
		r := rand.New(rand.NewPCG(uint64(game), 31))
		p := &player{Rand: r, queues: []string{"ab", "abc", "abcdefgh"}[game%3], mild: true, hasty: game%9 == 0}
		s := played(p, 400)
		d := disk.New()
		for done, crashes := 0, 0; done < len(s.requests); crashes++ {
			if crashes > 0 {
				d.Stop(r.IntN([]int{6, 20, 100}[game/3%3]))
			}
			done = s.goOn(t, r, d, done)
		}
		if got := markOf(t, d, 0); got != s.marks[len(s.requests)] {
			t.Fatalf("P14: in the end: %v, want %v", got, s.marks[len(s.requests)])
		}
	}
}

// goOn lets a broker go on with a tale until its disk stops, and crashes the disk. It tells how many requests are done then.
func (s tale) goOn(t *testing.T, r *rand.Rand, d *disk.Disk, done int) int {
	t.Helper()
	to := done
	if b, e := wharf.Open(d); e == api.OK {
		for done == to && to < len(s.requests) {
			if to = min(done+1+r.IntN(3), len(s.requests)); r.IntN(2) == 0 {
				done = s.serve(t, trial{t, b}, done, to)
				continue
			}
			to = done + 1
			if a := b.Do(s.requests[done]); a == s.answers[done] {
				done++
			} else if a != "" {
				t.Fatalf("P14: the request %d, %q, is answered %q, want %q", done, s.requests[done], a, s.answers[done])
			}
		}
	} else if e != api.ErrDown || b != nil || !d.Stopped() {
		t.Fatalf("P13: Open is %v, %d", b, e)
	}
	keep := []int{0, r.IntN(60), 1 << 30}[r.IntN(3)]
	done = s.find(t, d, keep, done, to)
	*d = *d.Crash(keep)
	return done
}

// long is a tale that is so long that not all of it can lie on the disk. Each of its requests leaves something else, if it is done twice.
func long() tale {
	var list []string
	for i := range 1500 {
		if i%190 == 0 {
			list = append(list, create('a', 500, 0, 0, '-', 50), create('b', 500, 500, 0, '-', 50))
		}
		list = append(list, send('a', group(i%50), "", numberBytes(i, 2)+strings.Repeat("b", 38)), goOn(1), receive('a', "", 1), acknowledge(handle('a', 1+i%190, 1)))
		if i%190 == 189 {
			list = append(list, remove('a'), remove('b'))
		}
	}
	return tell(list...)
}

// size tells how many bytes the files of a disk have together.
func size(d *disk.Disk) int {
	sum := 0
	for _, name := range d.Names() {
		sum += len(d.Read(name))
	}
	return sum
}

// TestStopWhereFilesShrink: the disk stops at each step of those requests behind which less lies on the disk than ahead of them.
func TestStopWhereFilesShrink(t *testing.T) {
	s := long()
	d := disk.New()
	b := on(t, d)
	shrunk := 0
	for i, request := range s.requests {
		ahead := d.Crash(0)
		b.gets(request, s.answers[i])
		if size(d) < size(ahead) {
			s.stopAtEachStep(t, ahead, i)
			shrunk++
		}
	}
	if shrunk < 2 {
		t.Errorf("P15: the files shrank %d times", shrunk)
	}
}

// stopAtEachStep stops what is left of a disk at each step of a request, crashes it with any loose bytes, and goes on for a while.
func (s tale) stopAtEachStep(t *testing.T, ahead *disk.Disk, i int) {
	t.Helper()
	for n := 0; ; n++ {
		d := ahead.Crash(0)
		b := on(t, d)
		d.Stop(n)
		answer := b.b.Do(s.requests[i])
		if answer == s.answers[i] {
			return
		}
		b.gets(s.requests[i], "")
		for _, keep := range keeps() {
			done := s.find(t, d, keep, i, i+1)
			left := d.Crash(keep)
			later := min(i+5, len(s.requests))
			s.serve(t, on(t, left), done, later)
			s.find(t, left, 0, later, later)
		}
	}
}

// TestStopWithinALongList: likewise, in one list.
func TestStopWithinALongList(t *testing.T) {
	s := long()
	cuts := map[int]int{}
	for n := 0; ; n++ {
		d := disk.New()
		b := on(t, d)
		d.Stop(n)
		done := s.serve(t, b, 0, len(s.requests))
		if done == len(s.requests) {
			break
		}
		cuts[done]++
		b.isDown(d)
		for _, keep := range []int{0, 5, 30, 1000, 30000, 1 << 30} {
			s.find(t, d, keep, done, len(s.requests))
		}
	}
	if cuts[0] == 0 {
		t.Errorf("P14: a list is answered on a disk that does no step")
	}
}

// TestStoppedButNotDown: once the disk is stopped, what lays nothing down is answered as ever or not,
// and from the first time that it is not nothing is.
func TestStoppedButNotDown(t *testing.T) {
	nothing := []string{show('a'), "x", send('a', "g", "", "1"), receive('b', "", 1), create('a', 1, 0, 0, '-', 1), acknowledge("x"), extend(handle('a', 7, 7), 1), batch("x"), receive('h', "", 1), remove('h')}
	for _, serve := range []bool{false, true} {
		d := disk.New()
		b := on(t, d)
		b.done(create('a', 9, 9, 0, '-', 9), create('b', 9, 9, 0, '-', 9))
		b.sends('a', "g", 1, "1")
		var want []string
		for _, s := range nothing {
			want = append(want, b.b.Do(s))
		}
		d.Stop(0)
		down := false
		for range 2 {
			got := make([]string, len(nothing))
			for i, s := range nothing {
				if serve {
					got[i] = b.b.Serve([]string{s})[0]
				} else {
					got[i] = b.b.Do(s)
				}
				if down = down || got[i] == ""; down && got[i] != "" || !down && got[i] != want[i] {
					t.Fatalf("P14: on a stopped disk %q is answered %q", s, got[i])
				}
			}
		}
		if got := b.b.Do(goOn(1)); got != "" {
			t.Fatalf("P14: T is answered %q on a stopped disk", got)
		}
		b.isDown(d)
	}
}

// TestAListWithoutAnswers: a broker that is down answers each request of a list with an empty string.
func TestAListWithoutAnswers(t *testing.T) {
	d := disk.New()
	b := on(t, d)
	d.Stop(0)
	list := []string{create('a', 1, 0, 0, '-', 1), "x", show('a'), ""}
	b.serves(list, make([]string, 4))
	b.serves(list[1:2], make([]string, 1))
	b.isDown(d)
}
