package wharf_test

import (
	"strconv"
	"testing"
)

// tired is a broker whose queue a has messages one, two and four of the group g, of which the head
// is in flight and was received so often, and three of the group h. The requests come ahead of all.
func tired(t *testing.T, receives int, dead byte, often int, requests ...string) trial {
	t.Helper()
	b := begin(t)
	b.done(requests...)
	b.done(create('a', 30, 0, receives, dead, 10))
	b.sends('a', "g", 1, "one", "two")
	for i := range often {
		b.gets(receive('a', "", 1), gives('a', given{1, i + 1, "g", "one"}))
		if i+1 < often {
			b.done(extend(handle('a', 1, i+1), 0))
		}
	}
	b.sends('a', "h", 3, "three")
	b.sends('a', "g", 4, "four")
	return b
}

// stays wants the group g to be ready in a, behind h.
func (t trial) stays(receives int, dead byte, often int) {
	t.Helper()
	t.looks('a', view{visible: 30, receives: receives, dead: dead, quota: 10, next: 5, ready: []string{"h", "g"},
		messages: []shownMessage{{1, "g", "one", often, 0}, {2, "g", "two", 0, 0}, {3, "h", "three", 0, 0}, {4, "g", "four", 0, 0}}})
}

// moved wants the group g not to be in a any more.
func (t trial) moved(receives int, dead byte) {
	t.Helper()
	t.looks('a', view{visible: 30, receives: receives, dead: dead, quota: 10, next: 5, ready: []string{"h"},
		messages: []shownMessage{{3, "h", "three", 0, 0}}})
}

// aside is the queue b, when the messages of g were put into it from a number on, behind others.
func aside(quota, from int, others ...shownMessage) view {
	v := view{visible: 10, window: 5, dead: '-', quota: quota, next: from + 3}
	for _, m := range others {
		v.ready = append(v.ready, m.group)
	}
	v.messages = append(others, shownMessage{from, "g", "one", 0, 0}, shownMessage{from + 1, "g", "two", 0, 0}, shownMessage{from + 2, "g", "four", 0, 0})
	v.ready = append(v.ready, "g")
	return v
}

func TestComesBackAtReceivesZero(t *testing.T) {
	for _, often := range []int{1, 2, 9, 20} {
		b := tired(t, 0, 'b', often, create('b', 10, 5, 0, '-', 10))
		b.done(extend(handle('a', 1, often), 0))
		b.stays(0, 'b', often)
		b.looks('b', view{visible: 10, window: 5, dead: '-', quota: 10, next: 1})
	}
}

func TestComesBackAheadOfReceives(t *testing.T) {
	for _, c := range []struct{ receives, often int }{{2, 1}, {3, 1}, {3, 2}, {9, 8}} {
		b := tired(t, c.receives, 'b', c.often, create('b', 10, 5, 0, '-', 10))
		b.done(extend(handle('a', 1, c.often), 0))
		b.stays(c.receives, 'b', c.often)
		b.looks('b', view{visible: 10, window: 5, dead: '-', quota: 10, next: 1})
	}
}

func TestMovesAtReceives(t *testing.T) {
	for receives := 1; receives <= 9; receives++ {
		b := tired(t, receives, 'b', receives, create('b', 10, 5, 0, '-', 10))
		b.done(extend(handle('a', 1, receives), 0))
		b.moved(receives, 'b')
		b.looks('b', aside(10, 1))
	}
}

func TestMovesWhenItsTimeIsOver(t *testing.T) {
	b := tired(t, 2, 'b', 2, create('b', 10, 5, 0, '-', 10))
	b.done(goOn(29))
	b.looks('b', view{visible: 10, window: 5, dead: '-', quota: 10, next: 1})
	b.done(goOn(1))
	b.moved(2, 'b')
	b.looks('b', aside(10, 1))
	b.gets(receive('b', "", 9), gives('b', given{1, 1, "g", "one"}))
	b.done(acknowledge(handle('b', 1, 1)))
	b.gets(receive('b', "", 9), gives('b', given{2, 1, "g", "two"}))
	b.done(acknowledge(handle('b', 2, 1)))
	b.gets(receive('b', "", 9), gives('b', given{3, 1, "g", "four"}))
}

func TestNoDeadQueue(t *testing.T) {
	b := tired(t, 2, '-', 2, create('b', 10, 5, 0, '-', 10))
	b.done(extend(handle('a', 1, 2), 0))
	b.stays(2, '-', 2)
	b = tired(t, 2, 'b', 2) // named, but not there
	b.done(extend(handle('a', 1, 2), 0))
	b.stays(2, 'b', 2)
}

func TestMovesLaterOnceTheDeadQueueIsThere(t *testing.T) {
	b := tired(t, 2, 'b', 2)
	b.done(goOn(30))
	b.stays(2, 'b', 2)
	b.done(create('b', 10, 5, 0, '-', 10))
	b.gets(receive('a', "", 9), gives('a', given{3, 1, "h", "three"}, given{1, 3, "g", "one"}))
	b.done(extend(handle('a', 1, 3), 0)) // received more often than Receives
	b.looks('b', aside(10, 1))
}

func TestDeadQueueGoneAndMadeAnew(t *testing.T) {
	b := tired(t, 1, 'b', 1, create('b', 10, 5, 0, '-', 10), remove('b'))
	b.done(goOn(30))
	b.stays(1, 'b', 1)
	b = tired(t, 1, 'b', 1, create('b', 20, 0, 0, '-', 1), remove('b'), create('b', 10, 5, 0, '-', 3))
	b.done(goOn(30))
	b.looks('b', aside(3, 1))
}

func TestRoomByQuota(t *testing.T) {
	for _, c := range []struct {
		quota, there int
		room         bool
	}{{3, 0, true}, {2, 0, false}, {1, 0, false}, {5, 2, true}, {5, 3, false}, {4, 2, false}, {50, 47, true}, {50, 48, false}, {50, 50, false}} {
		b := tired(t, 2, 'b', 2, create('b', 10, 0, 0, '-', c.quota))
		for i := range c.there {
			b.sends('b', "other", i+1, "x")
		}
		was := b.all()[1]
		b.done(extend(handle('a', 1, 2), 0))
		if c.room {
			b.moved(2, 'b')
			continue
		}
		b.stays(2, 'b', 2)
		if b.all()[1] != was {
			t.Errorf("a group came back without room in b, and changed b")
		}
	}
}

func TestRoomByNumbers(t *testing.T) {
	for _, c := range []struct {
		next int
		room bool
	}{{197, true}, {198, true}, {199, false}, {200, false}, {201, false}} {
		b := begin(t)
		b.done(create('b', 10, 5, 0, '-', 10))
		wear(b, 'b', c.next)
		b.done(create('a', 30, 0, 1, 'b', 10))
		b.sends('a', "g", 1, "one", "two", "four")
		b.gets(receive('a', "", 1), gives('a', given{1, 1, "g", "one"}))
		b.done(extend(handle('a', 1, 1), 0))
		if c.room {
			b.looks('a', view{visible: 30, receives: 1, dead: 'b', quota: 10, next: 4})
			b.looks('b', aside(10, c.next))
			continue
		}
		b.looks('b', view{visible: 10, window: 5, dead: '-', quota: 10, next: c.next})
		b.gets(receive('a', "", 1), gives('a', given{1, 2, "g", "one"}))
	}
}

func TestMovesBehindWhatIsThere(t *testing.T) {
	b := tired(t, 1, 'b', 1, create('b', 10, 5, 0, '-', 10))
	b.gets(send('b', "k", "d", "one"), numbered(1)) // a dedup that is not asked
	b.done(goOn(5))
	b.done(goOn(25))
	b.looks('b', aside(10, 2, shownMessage{1, "k", "one", 0, 0}))
}

func TestMoveAsksAndMakesNoDedup(t *testing.T) {
	b := tired(t, 1, 'b', 1, create('b', 10, 5, 0, '-', 10))
	b.gets(send('b', "k", "", "one"), numbered(1))
	b.done(extend(handle('a', 1, 1), 0))
	want := aside(10, 2, shownMessage{1, "k", "one", 0, 0})
	want.dedups = []shownDedup{{made("one"), 1, 5}}
	b.looks('b', want)
	b.gets(send('b', "k", "", "two"), numbered(5)) // taken: the move left no dedup
}

func TestMovesToItsOwnGroup(t *testing.T) {
	ready := begin(t)
	ready.done(create('a', 30, 0, 1, 'b', 10), create('b', 10, 0, 0, '-', 10))
	ready.sends('b', "g", 1, "x")
	ready.sends('b', "k", 2, "y")
	ready.sends('a', "g", 1, "one", "two")
	ready.gets(receive('a', "", 1), gives('a', given{1, 1, "g", "one"}))
	ready.done(extend(handle('a', 1, 1), 0))
	messages := []shownMessage{{1, "g", "x", 0, 0}, {2, "k", "y", 0, 0}, {3, "g", "one", 0, 0}, {4, "g", "two", 0, 0}}
	ready.looks('b', view{visible: 10, dead: '-', quota: 10, next: 5, messages: messages, ready: []string{"g", "k"}}) // just once

	flying := begin(t)
	flying.done(create('a', 30, 0, 1, 'b', 10), create('b', 10, 0, 0, '-', 10))
	flying.sends('b', "g", 1, "x")
	flying.gets(receive('b', "", 1), gives('b', given{1, 1, "g", "x"}))
	flying.sends('a', "g", 1, "one", "two")
	flying.gets(receive('a', "", 1), gives('a', given{1, 1, "g", "one"}))
	flying.done(extend(handle('a', 1, 1), 0))
	messages = []shownMessage{{1, "g", "x", 1, 10}, {2, "g", "one", 0, 0}, {3, "g", "two", 0, 0}}
	flying.looks('b', view{visible: 10, dead: '-', quota: 10, next: 4, messages: messages}) // not while one is in flight
	flying.done(goOn(10))
	flying.gets(receive('b', "", 9), gives('b', given{1, 2, "g", "x"}))
}

func TestMovesOnAndBack(t *testing.T) {
	b := begin(t)
	b.done(create('a', 10, 0, 1, 'b', 5), create('b', 10, 0, 1, 'a', 5))
	b.sends('a', "g", 1, "one", "two")
	for round := range 5 {
		number := 2*round + 1
		for _, queue := range []byte("ab") {
			b.gets(receive(queue, "", 1), gives(queue, given{number, 1, "g", "one"}))
			b.done(extend(handle(queue, number, 1), 0))
		}
	}
	b.looks('b', view{visible: 10, receives: 1, dead: 'a', quota: 5, next: 11})
	b.looks('a', view{visible: 10, receives: 1, dead: 'b', quota: 5, next: 13, ready: []string{"g"},
		messages: []shownMessage{{11, "g", "one", 0, 0}, {12, "g", "two", 0, 0}}})
}

func TestMovesWholeGroupOfMany(t *testing.T) {
	b := begin(t)
	b.done(create('a', 10, 0, 1, 'b', 50), create('b', 10, 0, 0, '-', 50))
	want := view{visible: 10, dead: '-', quota: 50, next: 51, ready: []string{"g"}}
	for i := range 50 {
		body := strconv.Itoa(i)
		b.sends('a', "g", i+1, body)
		want.messages = append(want.messages, shownMessage{i + 1, "g", body, 0, 0})
	}
	b.gets(receive('a', "", 1), gives('a', given{1, 1, "g", "0"}))
	b.done(goOn(10))
	b.looks('b', want)
	b.looks('a', view{visible: 10, receives: 1, dead: 'b', quota: 50, next: 51})
}
