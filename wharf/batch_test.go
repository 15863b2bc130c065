package wharf_test

import (
	"math/rand/v2"
	"slices"
	"strings"
	"testing"

	"wharf/api"
	"wharf/wharf"
)

func TestBatchOfEachOp(t *testing.T) {
	b := busy(t) // at 2; the message 1 of a is in flight, until 32
	b.gets(receive('a', "", 1), gives('a', given{3, 1, "h", "three"}))
	b.gets(batch(send('a', "k", "d", "four"), acknowledge(handle('a', 1, 1)), extend(handle('a', 3, 1), 9)),
		replies(numbered(4), "\x00", "\x00"))
	b.looks('a', view{visible: 30, window: 50, receives: 2, dead: 'b', quota: 10, next: 5, ready: []string{"k", "g"},
		messages: []shownMessage{{2, "g", "two", 0, 0}, {3, "h", "three", 1, 11}, {4, "k", "four", 0, 0}},
		dedups:   []shownDedup{{made("one"), 1, 52}, {made("two"), 2, 52}, {made("three"), 3, 52}, {"d", 4, 52}},
		attempts: []shownAttempt{{"t", 32, gives('a', given{1, 1, "g", "one"})}}})
	b.looks('b', view{visible: 10, dead: '-', quota: 50, next: 1})
}

func TestBatchOfOneAndOfTen(t *testing.T) {
	b := begin(t)
	b.done(create('a', 30, 0, 0, '-', 50))
	b.gets(batch(send('a', "g", "", "x")), replies(numbered(1)))
	var requests, want []string
	for i := range 10 {
		requests = append(requests, send('a', group(i), "", "x"))
		want = append(want, numbered(2+i))
	}
	b.gets(batch(requests...), replies(want...))
	b.gets(batch(""), replies("\x01"))
	b.gets(batch(slices.Repeat([]string{""}, 10)...), replies(slices.Repeat([]string{"\x01"}, 10)...))
}

func TestBatchThatIsNoRequest(t *testing.T) {
	b := busy(t)
	s := send('a', "k", "", "four")
	for _, request := range []string{
		"B", "B\x00", "B\x00" + text(s), batch(slices.Repeat([]string{s}, 11)...), "B\xff" + strings.Repeat(text(s), 255),
		batch(s) + "\x00", batch(s)[:len(batch(s))-1], "B\x02" + text(s), "B\x01" + text(s) + text(s), "B\x01" + s, "b\x01" + text(s), "B\x01\x00\x00" + text(s),
	} {
		b.refused(request, api.ErrForm)
	}
}

func TestWhatMayNotStandInABatch(t *testing.T) {
	b := busy(t)
	list := []string{
		create('c', 30, 5, 0, '-', 10), create('a', 30, 5, 0, '-', 10), remove('a'), remove('b'), remove('c'), purge('a'), receive('a', "", 1), receive('a', "t", 1),
		goOn(1), goOn(1000), show('a'), show('c'), batch(send('a', "k", "", "four")), batch(batch(acknowledge(handle('a', 1, 1)))), batch(""),
		"", "\x00", "x", "S", "A", "E", "Sa", "SAE", "Si\x01g\x00\x00", "Sa\x00\x00\x00", send('a', "k", "", "four") + "\x00", send('a', "123456789", "", ""), send('a', "k", "\x00", ""),
		acknowledge(handle('a', 1, 1)) + "\x00", "A\x09" + handle('a', 1, 1), extend(handle('a', 1, 1), 1001), "E" + text(handle('a', 1, 1)) + "\x00", "E" + text(handle('a', 1, 1)),
		strings.ToLower(acknowledge(handle('a', 1, 1))), strings.Repeat("S", 255),
	}
	was := b.all()
	for _, s := range list {
		b.gets(batch(s), replies("\x01"))
		b.gets(batch(s, acknowledge("x"), s), replies("\x01", "\x07", "\x01"))
	}
	for part := range slices.Chunk(list, 10) {
		b.gets(batch(part...), replies(slices.Repeat([]string{"\x01"}, len(part))...))
	}
	if b.all() != was {
		t.Errorf("P11: what may not stand in a B changed something")
	}
	b.gets(batch(list[0], send('a', "k", "", "four"), list[2], acknowledge(handle('a', 1, 1)), list[8]), replies("\x01", numbered(4), "\x01", "\x00", "\x01"))
	b.refused(show('c'), api.ErrQueue)
	b.gets(receive('a', "", 10), gives('a', given{3, 1, "h", "three"}, given{4, 1, "k", "four"}, given{2, 1, "g", "two"}))
}

func TestErrorsWithinABatch(t *testing.T) {
	b := begin(t)
	b.done(create('a', 30, 0, 0, '-', 2), create('b', 30, 0, 0, '-', 50))
	for i := range 200 {
		b.sends('b', "g", i+1, "x")
		b.gets(receive('b', "", 1), gives('b', given{i + 1, 1, "g", "x"}))
		b.done(acknowledge(handle('b', i+1, 1)))
	}
	long := strings.Repeat("x", 41)
	was := b.all()
	b.gets(batch(send('c', "g", "", long), send('a', "g", "", long), send('b', "g", "", "x"), acknowledge("x"), extend("", 0), acknowledge(handle('a', 1, 1)), extend(handle('c', 1, 1), 5)),
		replies("\x02", "\x04", "\x06", "\x07", "\x07", "\x08", "\x08"))
	if b.all() != was {
		t.Errorf("P1: requests of a B that are answered with errors changed something")
	}
	b.gets(batch(send('a', "g", "", "x"), send('b', "g", "", "x"), send('a', "g", "", "y"), send('a', "g", "", "z"), send('a', "g", "", long)),
		replies(numbered(1), "\x06", numbered(2), "\x05", "\x04"))
	b.looks('a', view{visible: 30, dead: '-', quota: 2, next: 3, ready: []string{"g"},
		messages: []shownMessage{{1, "g", "x", 0, 0}, {2, "g", "y", 0, 0}}})
}

func TestWhatABatchChangedIsThereForTheNext(t *testing.T) {
	b := begin(t)
	b.done(create('a', 30, 5, 1, 'b', 3), create('b', 30, 0, 0, '-', 10))
	b.gets(batch(send('a', "g", "d", "1"), send('a', "h", "d", "2"), send('a', "g", "", "3"), send('a', "g", "", "3"), send('a', "h", "", "4"), send('a', "h", "", "5")),
		replies(numbered(1), numbered(1), numbered(2), numbered(2), numbered(3), "\x05"))
	b.gets(receive('a', "", 10), gives('a', given{1, 1, "g", "1"}, given{3, 1, "h", "4"}))
	b.gets(batch(send('a', "k", "", "6"), acknowledge(handle('a', 3, 1)), acknowledge(handle('a', 3, 1)), send('a', "k", "", "6"), send('a', "k", "", "7")),
		replies("\x05", "\x00", "\x08", numbered(4), "\x05"))
	// the group moves to b, in between what is sent there
	b.gets(batch(send('b', "g", "", "8"), extend(handle('a', 1, 1), 7), extend(handle('a', 1, 1), 0), extend(handle('a', 1, 1), 0), send('b', "g", "", "9"), send('a', "g", "", "10"), send('a', "g", "", "11")),
		replies(numbered(1), "\x00", "\x00", "\x08", numbered(4), numbered(5), numbered(6)))
	b.looks('a', view{visible: 30, window: 5, receives: 1, dead: 'b', quota: 3, next: 7, ready: []string{"k", "g"},
		messages: []shownMessage{{4, "k", "6", 0, 0}, {5, "g", "10", 0, 0}, {6, "g", "11", 0, 0}},
		dedups:   []shownDedup{{"d", 1, 5}, {made("3"), 2, 5}, {made("4"), 3, 5}, {made("6"), 4, 5}, {made("10"), 5, 5}, {made("11"), 6, 5}}})
	b.looks('b', view{visible: 30, dead: '-', quota: 10, next: 5, ready: []string{"g"},
		messages: []shownMessage{{1, "g", "8", 0, 0}, {2, "g", "1", 0, 0}, {3, "g", "3", 0, 0}, {4, "g", "9", 0, 0}}})
}

func TestBatchAtItsTime(t *testing.T) {
	b := begin(t)
	b.done(create('a', 30, 5, 0, '-', 5), goOn(100))
	b.gets(batch(send('a', "g", "d", "1")), replies(numbered(1)))
	b.gets(receive('a', "", 1), gives('a', given{1, 1, "g", "1"}))
	b.gets(batch(extend(handle('a', 1, 1), 3)), replies("\x00"))
	b.looks('a', view{visible: 30, window: 5, dead: '-', quota: 5, next: 2,
		messages: []shownMessage{{1, "g", "1", 1, 103}}, dedups: []shownDedup{{"d", 1, 105}}})
	b.done(goOn(3))
	b.gets(batch(acknowledge(handle('a', 1, 1))), replies("\x08"))
	b.done(goOn(2))
	b.gets(batch(send('a', "g", "d", "1")), replies(numbered(2)))
}

func TestBatchOfOneBrokerAlone(t *testing.T) {
	one, other := busy(t), busy(t)
	was := other.all()
	one.gets(batch(send('a', "k", "", "four"), acknowledge(handle('a', 1, 1))), replies(numbered(4), "\x00"))
	if other.all() != was {
		t.Errorf("P2: a B changed the broker of another disk")
	}
	other.gets(batch(acknowledge(handle('a', 1, 1)), send('a', "k", "", "more")), replies("\x00", numbered(4)))
}

// TestBatchIsAsOneBehindTheOther holds a B against its requests, each of which is done alone.
func TestBatchIsAsOneBehindTheOther(t *testing.T) {
	for game := range 100 {
		p := &player{Rand: rand.New(rand.NewPCG(uint64(game), 10)), queues: "abc", mild: true, lasting: true}
		b, other := begin(t), begin(t)
		for range 200 {
			s := p.next()
			answer := b.b.Do(s)
			p.note(s, answer)
			r, _ := wharf.Parse(s)
			if r.Op != 'B' {
				other.gets(s, answer)
				continue
			}
			var want []string
			for _, inner := range r.Batch {
				one := "\x01"
				if inner != "" && strings.Contains("SAE", inner[:1]) {
					one = other.b.Do(inner)
				}
				want = append(want, one)
			}
			if answer != replies(want...) || b.all() != other.all() {
				t.Fatalf("P11: Do(%q) is %q, one behind the other %q", s, answer, want)
			}
		}
	}
}
