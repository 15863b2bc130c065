package wharf_test

import (
	"math/rand/v2"
	"strconv"
	"strings"
	"testing"

	"wharf/api"
	"wharf/disk"
	"wharf/wharf"
)

// on opens a broker on a disk.
func on(t *testing.T, d *disk.Disk) trial {
	t.Helper()
	b, e := wharf.Open(d)
	if b == nil || e != api.OK {
		t.Fatalf("P13: Open of a disk that is not stopped is %v, %d", b, e)
	}
	return trial{t, b}
}

// mark is all that can be told of a broker.
type mark struct {
	now   int
	shown [8]string
}

func (m mark) String() string {
	out := "at " + strconv.Itoa(m.now)
	for i, s := range m.shown {
		if s != "\x02" {
			out += " " + string([]byte{'a' + byte(i)}) + " " + strconv.Quote(s)
		}
	}
	return out
}

// mark tells the model's.
func (m *model) mark() mark {
	out := mark{now: m.now}
	for i := range out.shown {
		out.shown[i] = m.do(show('a' + byte(i)))
	}
	return out
}

// markOf tells that of a broker that is opened on what a crash leaves of a disk.
func markOf(t *testing.T, d *disk.Disk, keep int) mark {
	t.Helper()
	b := on(t, d.Crash(keep))
	return mark{shown: b.all(), now: b.moment()}
}

// moment tells NOW. It costs the broker its queue h.
func (t trial) moment() int {
	t.Helper()
	t.b.Do(remove('h'))
	t.done(create('h', 1, 0, 0, '-', 1))
	t.sends('h', "g", 1, "")
	t.gets(receive('h', "", 1), gives('h', given{1, 1, "g", ""}))
	s := t.b.Do(show('h'))
	until := s[len(s)-7 : len(s)-3]
	return int(until[0]) + int(until[1])<<8 + int(until[2])<<16 + int(until[3])<<24 - 1
}

// TestMoment: what the other tests tell NOW by.
func TestMoment(t *testing.T) {
	b := begin(t)
	now := 0
	for _, ticks := range []int{1, 255, 1000, 3} {
		if got := b.moment(); got != now {
			t.Errorf("P9: NOW is %d, want %d", got, now)
		}
		b.done(goOn(ticks))
		now += ticks
	}
}

func TestOpenAgainBehindNothing(t *testing.T) {
	d := disk.New()
	for range 3 {
		if b := on(t, d); b.all() != begin(t).all() {
			t.Errorf("P13: a broker that was asked for nothing has queues when it is opened again")
		}
	}
	if now := on(t, d).moment(); now != 0 {
		t.Errorf("P13: NOW is %d behind nothing", now)
	}
}

// TestOpenAgainBehindEachRequest: all kinds of requests, those that are refused too, each done by another broker.
func TestOpenAgainBehindEachRequest(t *testing.T) {
	list := append([]string{create('a', 30, 50, 2, 'b', 10), create('b', 10, 0, 0, '-', 50), goOn(2), send('a', "g", "", "one"), send('a', "g", "", "two"), receive('a', "t", 1)}, mixture()...)
	for _, afresh := range []bool{false, true} {
		d, m := disk.New(), newModel()
		for _, s := range list {
			b := on(t, d)
			b.gets(s, m.do(s))
			if afresh {
				d = torn(b, d)
			}
			if got, want := markOf(t, d, 0), m.mark(); got != want {
				t.Fatalf("P13: opened again behind %q: %v, want %v", s, got, want)
			}
		}
	}
}

func TestOpenAgainBehindAList(t *testing.T) {
	list := mixture()
	for i := range list {
		d, m := disk.New(), newModel()
		for _, part := range [][]string{{create('a', 30, 50, 2, 'b', 10), create('b', 10, 0, 0, '-', 50)}, list[:i], list[i:]} {
			var want []string
			for _, s := range part {
				want = append(want, m.do(s))
			}
			on(t, d).serves(part, want)
		}
		if got, want := markOf(t, d, 0), m.mark(); got != want {
			t.Fatalf("P13: opened again behind lists: %v, want %v", got, want)
		}
	}
}

// TestOpenChangesNothing: a broker that is opened again and asked for nothing leaves what was.
func TestOpenChangesNothing(t *testing.T) {
	d := disk.New()
	b := on(t, d)
	for _, s := range scenario() {
		b.b.Do(s)
	}
	was := markOf(t, d, 0)
	for range 5 {
		b = on(t, d)
		b.all()
		if got := markOf(t, d, 0); got != was {
			t.Fatalf("P13: behind an Open: %v, want %v", got, was)
		}
	}
}

// torn is what is left of a broker's disk behind a crash in the midst of a request. A broker that is opened on it
// can't put anything behind the piece that is left, so that all that it has must be laid down anew.
func torn(b trial, d *disk.Disk) *disk.Disk {
	d.Stop(1)
	b.b.Do(goOn(1))
	return d.Crash(3)
}

// TestOpenAgainAgainstTheModel: games in which the broker is opened again every now and then.
func TestOpenAgainAgainstTheModel(t *testing.T) {
	for game := range 60 {
		p := &player{Rand: rand.New(rand.NewPCG(uint64(game), 21)), queues: []string{"ab", "abc", "abcdefgh", "ha"}[game%4], mild: true, lasting: game%5 == 0, hasty: game%7 == 0}
		often := []int{30, 400, 5, 30}[game%4]
		if game < 3 {
			often = 1
		}
		d, m := disk.New(), newModel()
		b := on(t, d)
		for range 1000 {
			s := p.next()
			answer := m.do(s)
			b.gets(s, answer)
			p.note(s, answer)
			if p.IntN(often) == 0 {
				if p.IntN(2) == 0 {
					d = torn(b, d)
				}
				b = on(t, d)
				for i := range p.queues {
					b.gets(show(p.queues[i]), m.do(show(p.queues[i])))
				}
			}
		}
		if got, want := markOf(t, d, 0), m.mark(); got != want {
			t.Fatalf("P13: in the end: %v, want %v", got, want)
		}
	}
}

// TestWhatABrokerKnowsAgain: messages, ready groups, dedups, attempts, handles, numbers and time.
func TestWhatABrokerKnowsAgain(t *testing.T) {
	knowsAgain(t, func(_ trial, d *disk.Disk) *disk.Disk { return d })
	knowsAgain(t, func(_ trial, d *disk.Disk) *disk.Disk { return d.Crash(0) })
	knowsAgain(t, torn)
}

// knowsAgain opens a broker again and again, on what is left of its disk.
func knowsAgain(t *testing.T, left func(trial, *disk.Disk) *disk.Disk) {
	t.Helper()
	d := disk.New()
	b := on(t, d)
	b.done(create('a', 300, 1000, 2, 'b', 50), create('b', 10, 0, 0, '-', 50), goOn(1000), goOn(1000))
	b.sends('a', "\x00\xff", 1, "", "\x00", strings.Repeat("\xff", 40))
	b.sends('a', "12345678", 4, "x", "y")
	b.gets(send('a', "h", "12345678", "z"), numbered(6))
	first := gives('a', given{1, 1, "\x00\xff", ""}, given{4, 1, "12345678", "x"})
	b.gets(receive('a', "\x00\x00", 2), first)

	d = left(b, d)
	b = on(t, d)
	b.looks('a', view{visible: 300, window: 1000, receives: 2, dead: 'b', quota: 50, next: 7,
		messages: []shownMessage{{1, "\x00\xff", "", 1, 2300}, {2, "\x00\xff", "\x00", 0, 0}, {3, "\x00\xff", strings.Repeat("\xff", 40), 0, 0}, {4, "12345678", "x", 1, 2300}, {5, "12345678", "y", 0, 0}, {6, "h", "z", 0, 0}},
		ready:    []string{"h"},
		dedups:   []shownDedup{{made(""), 1, 3000}, {made("\x00"), 2, 3000}, {made(strings.Repeat("\xff", 40)), 3, 3000}, {made("x"), 4, 3000}, {made("y"), 5, 3000}, {"12345678", 6, 3000}},
		attempts: []shownAttempt{{"\x00\x00", 2300, first}},
	})
	b.gets(receive('a', "\x00\x00", 9), first)
	b.gets(send('a', "other", "12345678", "other"), numbered(6))
	b.done(acknowledge(handle('a', 1, 1)))

	d = left(b, d)
	b = on(t, d)
	b.refused(acknowledge(handle('a', 1, 1)), api.ErrStale)
	b.gets(receive('a', "", 1), gives('a', given{6, 1, "h", "z"}))
	b.done(extend(handle('a', 4, 1), 301))

	d = left(b, d)
	b = on(t, d)
	b.done(goOn(300))
	b.gets(receive('a', "", 9), gives('a', given{2, 1, "\x00\xff", "\x00"}, given{6, 2, "h", "z"}))
	b.done(extend(handle('a', 6, 2), 0), goOn(1))

	d = left(b, d)
	b = on(t, d)
	b.gets(receive('a', "", 9), gives('a', given{4, 2, "12345678", "x"}))
	b.gets(receive('b', "", 9), gives('b', given{1, 1, "h", "z"}))
}

// TestWornAgain: numbers and time that have run out stay so, and a message that was received as often as can be told.
func TestWornAgain(t *testing.T) {
	d := disk.New()
	b := on(t, d)
	b.done(create('a', 1000, 0, 0, '-', 50), create('b', 1000, 0, 0, '-', 50))
	for i := range 200 {
		b.gets(send('a', "g", "", ""), numbered(1+i))
		if i%50 == 49 {
			b.done(purge('a'))
		}
	}
	b.sends('b', "g", 1, "x")
	for range 60 {
		b.done(goOn(1000))
	}
	for i := range 700 {
		var list []string
		for k := range 100 {
			list = append(list, receive('b', "", 1), extend(handle('b', 1, min(100*i+k+1, 65535)), 0))
		}
		b.b.Serve(list)
	}
	for range 2 {
		b = on(t, d)
		b.refused(send('a', "g", "", ""), api.ErrSeq)
		b.refused(goOn(1), api.ErrTime)
		b.gets(receive('b', "", 1), gives('b', given{1, 65535, "g", "x"}))
		b.done(extend(handle('b', 1, 65535), 0))
	}
}

func TestOpenOfAStoppedDisk(t *testing.T) {
	down := func(d *disk.Disk, what string) {
		t.Helper()
		if b, e := wharf.Open(d); b != nil || e != api.ErrDown {
			t.Errorf("P13: Open of a disk that %s is %v, %d", what, b, e)
		}
	}
	d := disk.New()
	d.Stop(0)
	down(d, "never did a step")
	d.Stop(-1)
	down(d, "is stopped for good")

	d = disk.New()
	b := on(t, d)
	b.done(create('a', 1, 0, 0, '-', 1))
	d.Stop(0)
	down(d, "has no step left")
	if b.b.Do(goOn(1)) != "" {
		t.Errorf("P14: Do is answered on a disk that has no step left")
	}
	down(d, "has refused a broker's step")
	d = disk.New()
	d.Stop(1)
	for d.Append("x", "") {
	}
	down(d, "has refused a step")
}

// cutOff is what is left of a disk, if it stopped one step ahead of a request's answer, and crashed.
func cutOff(t *testing.T, d *disk.Disk, request string, keep int) *disk.Disk {
	t.Helper()
	var left *disk.Disk
	for n := 1; ; n++ {
		try := d.Crash(0)
		b := on(t, try)
		try.Stop(n)
		if b.b.Do(request) != "" {
			return left
		}
		left = try.Crash(keep)
	}
}

// TestDisksBesideOneAnother: what is on one disk is on no other.
func TestDisksBesideOneAnother(t *testing.T) {
	one, other := disk.New(), disk.New()
	a, b := on(t, one), on(t, other)
	a.done(create('a', 5, 0, 0, '-', 9))
	b.done(create('b', 5, 0, 0, '-', 9))
	a.sends('a', "g", 1, "1")
	one.Stop(0)
	b.sends('b', "h", 1, "2")
	if s := a.b.Do(goOn(1)); s != "" {
		t.Errorf("P14: a stopped disk: %q", s)
	}
	b.done(goOn(3))
	c := on(t, one.Crash(0))
	c.refused(show('b'), api.ErrQueue)
	c.gets(receive('a', "", 1), gives('a', given{1, 1, "g", "1"}))
	if got := c.moment(); got != 0 {
		t.Errorf("P2: the time of another disk's broker: %d", got)
	}
	b = on(t, other)
	b.refused(show('a'), api.ErrQueue)
	b.gets(receive('b', "", 1), gives('b', given{1, 1, "h", "2"}))
	if got := b.moment(); got != 3 {
		t.Errorf("P2: the time of another disk's broker: %d", got)
	}
}

// TestOpenOfOtherFiles: nothing is promised of a disk on which anybody else wrote, but that Open ends.
func TestOpenOfOtherFiles(t *testing.T) {
	d := disk.New()
	b := on(t, d)
	for _, s := range scenario() {
		b.b.Do(s)
	}
	for _, name := range d.Names() {
		bytes := d.Read(name)
		for i := range len(bytes) {
			other := []byte(bytes)
			other[i] ^= 255
			x := disk.New()
			x.Append(name, string(other))
			if b, e := wharf.Open(x); e == api.OK {
				for _, s := range mixture() {
					b.Do(s)
				}
			}
		}
	}
	if b, e := wharf.Open(nil); b != nil || e != api.ErrDown {
		t.Errorf("P1: Open of no disk is %v, %d", b, e)
	}
	if b, e := wharf.Open(&disk.Disk{}); b != nil || e != api.ErrDown {
		t.Errorf("P13: Open of a disk that does no step is %v, %d", b, e)
	}
}
