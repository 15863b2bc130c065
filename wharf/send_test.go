package wharf_test

import (
	"strings"
	"testing"

	"wharf/api"
)

func TestSend(t *testing.T) {
	b := begin(t)
	b.done(create('a', 30, 5, 0, '-', 10), goOn(3))
	b.gets(send('a', "g", "d", "one"), numbered(1))
	b.gets(send('a', "h", "", ""), numbered(2))
	b.gets(send('a', "g", "e", "one"), numbered(3)) // another id, the same body
	b.gets(send('a', "g", "", "one"), numbered(4))
	b.looks('a', view{visible: 30, window: 5, dead: '-', quota: 10, next: 5,
		messages: []shownMessage{{1, "g", "one", 0, 0}, {2, "h", "", 0, 0}, {3, "g", "one", 0, 0}, {4, "g", "one", 0, 0}},
		ready:    []string{"g", "h"},
		dedups:   []shownDedup{{"d", 1, 8}, {"\x00\x00\x00\x00\x00", 2, 8}, {"e", 3, 8}, {made("one"), 4, 8}},
	})
}

func TestBodies(t *testing.T) {
	b := begin(t)
	b.done(create('a', 30, 5, 0, '-', 10))
	for n := 41; n <= 255; n++ {
		b.refused(send('a', "g", "", strings.Repeat("b", n)), api.ErrBody)
	}
	longest := strings.Repeat("\x00", 40)
	b.gets(send('a', "12345678", "12345678", longest), numbered(1))
	b.gets(send('a', "\x00", "", ""), numbered(2))
	b.gets(receive('a', "", 2), gives('a', given{1, 1, "12345678", longest}, given{2, 1, "\x00", ""}))
}

func TestDedup(t *testing.T) {
	b := begin(t)
	b.done(create('a', 30, 5, 0, '-', 10), create('b', 30, 5, 0, '-', 10))
	b.gets(send('a', "g", "d", "one"), numbered(1))
	b.gets(send('a', "g", "", "two"), numbered(2))
	was := b.all()
	b.gets(send('a', "g", "d", "one"), numbered(1))
	b.gets(send('a', "h", "d", "other"), numbered(1))
	b.gets(send('a', "h", "", "two"), numbered(2))
	if b.all() != was {
		t.Errorf("P6: what was sent again changed something")
	}
	b.gets(send('b', "g", "d", "one"), numbered(1)) // of the queue b alone
	b.gets(send('a', "g", "D", "one"), numbered(3))
	b.gets(send('a', "g", "", "one"), numbered(4)) // sent under an id that was given, not made
}

func TestDedupEnds(t *testing.T) {
	b := begin(t)
	b.done(create('a', 30, 5, 0, '-', 10))
	b.gets(send('a', "g", "d", "one"), numbered(1))
	b.done(goOn(4))
	b.gets(send('a', "g", "", "two"), numbered(2))
	b.gets(send('a', "g", "d", "one"), numbered(1)) // its time is not set anew
	b.done(goOn(1))
	b.gets(send('a', "g", "d", "one"), numbered(3))
	b.gets(send('a', "g", "", "two"), numbered(2))
	b.done(goOn(4))
	b.gets(send('a', "g", "d", "one"), numbered(3))
	b.gets(send('a', "g", "", "two"), numbered(4))
}

func TestDedupOutlivesItsMessage(t *testing.T) {
	b := begin(t)
	b.done(create('a', 30, 5, 0, '-', 10))
	b.gets(send('a', "g", "d", "one"), numbered(1))
	b.gets(receive('a', "", 1), gives('a', given{1, 1, "g", "one"}))
	b.done(acknowledge(handle('a', 1, 1)))
	b.gets(send('a', "g", "d", "one"), numbered(1))
	b.gets(receive('a', "", 1), gives('a'))
}

func TestWindowZero(t *testing.T) {
	b := begin(t)
	b.done(create('a', 30, 0, 0, '-', 10))
	b.gets(send('a', "g", "d", "one"), numbered(1))
	b.gets(send('a', "g", "d", "one"), numbered(2))
	b.gets(send('a', "g", "", "one"), numbered(3))
	b.gets(send('a', "g", "", "one"), numbered(4))
	b.looks('a', view{visible: 30, dead: '-', quota: 10, next: 5, ready: []string{"g"},
		messages: []shownMessage{{1, "g", "one", 0, 0}, {2, "g", "one", 0, 0}, {3, "g", "one", 0, 0}, {4, "g", "one", 0, 0}}})
}

func TestQuota(t *testing.T) {
	for _, quota := range []int{1, 2, 49, 50} {
		b := begin(t)
		b.done(create('a', 30, 5, 0, '-', quota))
		for i := range quota {
			b.gets(send('a', "g", numberBytes(i+1, 1), "x"), numbered(i+1))
		}
		b.refused(send('a', "g", "", "y"), api.ErrQuota)
		b.refused(send('a', "h", "new", "x"), api.ErrQuota)
		b.gets(receive('a', "", 1), gives('a', given{1, 1, "g", "x"}))
		b.refused(send('a', "h", "new", "x"), api.ErrQuota) // what is in flight counts
		b.done(acknowledge(handle('a', 1, 1)))
		b.gets(send('a', "h", "new", "x"), numbered(quota+1))
		b.refused(send('a', "h", "newer", "x"), api.ErrQuota)
	}
}

// worn is a broker whose queue a, of a Quota of 2, has nothing in it and NEXT at some number.
func worn(t *testing.T, next int) trial {
	t.Helper()
	b := begin(t)
	b.done(create('a', 30, 5, 0, '-', 2))
	wear(b, 'a', next)
	return b
}

// wear sends to an empty queue, and purges it, until NEXT is at some number and no dedup is there.
func wear(b trial, queue byte, next int) {
	b.Helper()
	for i := 1; i < next; i++ {
		b.gets(send(queue, "g", "wear", "x"), numbered(i))
		b.done(purge(queue), goOn(5))
	}
}

func TestLastNumber(t *testing.T) {
	b := worn(t, 200)
	b.gets(send('a', "g", "last", "x"), numbered(200))
	b.refused(send('a', "g", "", "y"), api.ErrSeq)
	b.done(purge('a'))
	b.refused(send('a', "g", "", "y"), api.ErrSeq)
	b.looks('a', view{visible: 30, window: 5, dead: '-', quota: 2, next: 201, dedups: []shownDedup{{"last", 200, 199*5 + 5}}})
}

func TestErrorsOfSendInTheirOrder(t *testing.T) {
	long := strings.Repeat("b", 41)
	b := worn(t, 199)
	b.refused(send('b', "g", "", long), api.ErrQueue)
	b.gets(send('a', "g", "d", "x"), numbered(199))
	b.refused(send('a', "g", "d", long), api.ErrBody) // ahead of the dedup
	b.gets(send('a', "g", "e", "x"), numbered(200))
	b.refused(send('a', "g", "", long), api.ErrBody)
	b.refused(send('a', "g", "", "y"), api.ErrQuota) // full, and no number is left
	b.gets(send('a', "g", "d", "y"), numbered(199))  // the dedup is asked ahead of ErrQuota
	b.gets(receive('a', "", 1), gives('a', given{199, 1, "g", "x"}))
	b.done(acknowledge(handle('a', 199, 1)))
	b.refused(send('a', "g", "", "y"), api.ErrSeq)
	b.gets(send('a', "g", "d", "y"), numbered(199)) // and ahead of ErrSeq
	b.gets(send('a', "g", "e", "y"), numbered(200))
	b.refused(send('a', "g", "d", long), api.ErrBody)
}

func TestManyDedups(t *testing.T) {
	b := begin(t)
	b.done(create('a', 30, 1000, 0, '-', 50))
	want := view{visible: 30, window: 1000, dead: '-', quota: 50, next: 201}
	for i := range 200 {
		id := four(i + 1)
		b.gets(send('a', "g", id, "x"), numbered(i+1))
		b.done(purge('a'))
		want.dedups = append(want.dedups, shownDedup{id, i + 1, 1000})
	}
	b.looks('a', want)
	for i := range 200 {
		b.gets(send('a', "g", four(i+1), "x"), numbered(i+1))
	}
}
