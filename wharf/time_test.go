package wharf_test

import (
	"testing"

	"wharf/api"
)

// late is a broker at a time near the end.
func late(t *testing.T, now int) trial {
	t.Helper()
	b := begin(t)
	for ; now > 1000; now -= 1000 {
		b.done(goOn(1000))
	}
	b.done(goOn(now))
	return b
}

func TestEndOfTime(t *testing.T) {
	b := late(t, 59999)
	b.refused(goOn(2), api.ErrTime)
	b.refused(goOn(1000), api.ErrTime)
	b.done(goOn(1)) // the refused ones did not go on
	for _, ticks := range []int{1, 2, 1000} {
		b.refused(goOn(ticks), api.ErrTime)
	}
	late(t, 59000).done(goOn(1000))
	late(t, 59001).refused(goOn(1000), api.ErrTime)
}

func TestTimeThatDoesNotCome(t *testing.T) {
	b := late(t, 59990)
	b.done(create('a', 1000, 1000, 0, '-', 5))
	b.sends('a', "g", 1, "one")
	b.sends('a', "h", 2, "two")
	b.gets(receive('a', "t", 2), gives('a', given{1, 1, "g", "one"}, given{2, 1, "h", "two"}))
	b.done(extend(handle('a', 2, 1), 10))
	b.refused(goOn(11), api.ErrTime) // would let the second come back
	b.done(goOn(10))
	b.looks('a', view{visible: 1000, window: 1000, dead: '-', quota: 5, next: 3, ready: []string{"h"},
		messages: []shownMessage{{1, "g", "one", 1, 60990}, {2, "h", "two", 1, 0}},
		dedups:   []shownDedup{{made("one"), 1, 60990}, {made("two"), 2, 60990}},
		attempts: []shownAttempt{{"t", 60990, gives('a', given{1, 1, "g", "one"}, given{2, 1, "h", "two"})}}})
	b.done(extend(handle('a', 1, 1), 1000))
	b.gets(receive('a', "", 1), gives('a', given{2, 2, "h", "two"}))
	b.looks('a', view{visible: 1000, window: 1000, dead: '-', quota: 5, next: 3,
		messages: []shownMessage{{1, "g", "one", 1, 61000}, {2, "h", "two", 2, 61000}},
		dedups:   []shownDedup{{made("one"), 1, 60990}, {made("two"), 2, 60990}},
		attempts: []shownAttempt{{"t", 60990, gives('a', given{1, 1, "g", "one"}, given{2, 1, "h", "two"})}}})
	b.done(acknowledge(handle('a', 1, 1)))
}

func TestUntilIsNow(t *testing.T) {
	b := begin(t)
	b.done(create('a', 10, 10, 0, '-', 5))
	b.sends('a', "g", 1, "one")
	answer := gives('a', given{1, 1, "g", "one"})
	b.gets(receive('a', "t", 1), answer)
	whole := view{visible: 10, window: 10, dead: '-', quota: 5, next: 2,
		messages: []shownMessage{{1, "g", "one", 1, 10}},
		dedups:   []shownDedup{{made("one"), 1, 10}},
		attempts: []shownAttempt{{"t", 10, answer}}}
	b.looks('a', whole)
	b.done(goOn(9))
	b.looks('a', whole)
	b.done(goOn(1))
	b.looks('a', view{visible: 10, window: 10, dead: '-', quota: 5, next: 2, ready: []string{"g"}, messages: []shownMessage{{1, "g", "one", 1, 0}}})
}

func TestUntilIsPast(t *testing.T) {
	b := begin(t)
	b.done(create('a', 10, 10, 0, '-', 5))
	b.sends('a', "g", 1, "one")
	b.gets(receive('a', "t", 1), gives('a', given{1, 1, "g", "one"}))
	b.done(goOn(1000))
	b.looks('a', view{visible: 10, window: 10, dead: '-', quota: 5, next: 2, ready: []string{"g"}, messages: []shownMessage{{1, "g", "one", 1, 0}}})
}

func TestSomeGoAndSomeStay(t *testing.T) {
	b := begin(t)
	b.done(create('a', 10, 5, 0, '-', 9))
	b.sends('a', "g", 1, "one")
	first := gives('a', given{1, 1, "g", "one"})
	b.gets(receive('a', "t", 1), first)
	b.done(goOn(3))
	b.sends('a', "h", 2, "two")
	second := gives('a', given{2, 1, "h", "two"})
	b.gets(receive('a', "u", 1), second)
	b.done(goOn(3))
	b.looks('a', view{visible: 10, window: 5, dead: '-', quota: 9, next: 3,
		messages: []shownMessage{{1, "g", "one", 1, 10}, {2, "h", "two", 1, 13}},
		dedups:   []shownDedup{{made("two"), 2, 8}},
		attempts: []shownAttempt{{"t", 10, first}, {"u", 13, second}}})
	b.done(goOn(4))
	b.looks('a', view{visible: 10, window: 5, dead: '-', quota: 9, next: 3, ready: []string{"g"},
		messages: []shownMessage{{1, "g", "one", 1, 0}, {2, "h", "two", 1, 13}},
		attempts: []shownAttempt{{"u", 13, second}}})
}

func TestComeBackByTimeThenNumber(t *testing.T) {
	b := grouped(t, 6)
	b.sends('a', "ready", 7, "x")
	b.gets(receive('a', "", 6), gives('a', givenOnce(0, 6)...))
	for i, ticks := range []int{9, 5, 9, 7, 5, 12} {
		b.done(extend(handle('a', i+1, 1), ticks))
	}
	b.done(goOn(9))
	b.gets(receive('a', "", 9), gives('a', given{7, 1, "ready", "x"},
		given{2, 2, group(1), "x"}, given{5, 2, group(4), "x"}, given{4, 2, group(3), "x"}, given{1, 2, group(0), "x"}, given{3, 2, group(2), "x"}))
	b.done(goOn(3))
	b.gets(receive('a', "", 9), gives('a', given{6, 2, group(5), "x"}))
}

// TestRoomGoesToTheEarlierTime: two groups, of which the dead queue has room for one.
func TestRoomGoesToTheEarlierTime(t *testing.T) {
	for _, c := range []struct {
		first, second int
		moved, stays  string
	}{{5, 6, "g", "h"}, {6, 5, "h", "g"}, {5, 5, "g", "h"}} {
		b := begin(t)
		b.done(create('a', 30, 0, 1, 'b', 9), create('b', 30, 0, 0, '-', 1))
		b.sends('a', "g", 1, "x")
		b.sends('a', "h", 2, "x")
		b.gets(receive('a', "", 2), gives('a', given{1, 1, "g", "x"}, given{2, 1, "h", "x"}))
		b.done(extend(handle('a', 1, 1), c.first), extend(handle('a', 2, 1), c.second), goOn(10))
		b.gets(receive('b', "", 9), gives('b', given{1, 1, c.moved, "x"}))
		number := 1
		if c.stays == "h" {
			number = 2
		}
		b.gets(receive('a', "", 9), gives('a', given{number, 2, c.stays, "x"}))
	}
}

// TestRoomGoesToTheEarlierQueue: two queues, and a dead queue that has room for one's group;
// its time does not matter, the queue's letter does.
func TestRoomGoesToTheEarlierQueue(t *testing.T) {
	b := begin(t)
	b.done(create('c', 30, 0, 1, 'a', 9), create('b', 30, 0, 1, 'a', 9), create('a', 30, 0, 0, '-', 1))
	b.sends('b', "b", 1, "x")
	b.sends('c', "c", 1, "x")
	b.gets(receive('b', "", 1), gives('b', given{1, 1, "b", "x"}))
	b.gets(receive('c', "", 1), gives('c', given{1, 1, "c", "x"}))
	b.done(extend(handle('c', 1, 1), 5), extend(handle('b', 1, 1), 9), goOn(10))
	b.gets(receive('a', "", 9), gives('a', given{1, 1, "b", "x"}))
	b.gets(receive('b', "", 9), gives('b'))
	b.gets(receive('c', "", 9), gives('c', given{1, 2, "c", "x"}))
}

// TestRoomMadeByAnEarlierQueue: what moves out of a makes room there for what comes out of b, not the other way round.
func TestRoomMadeByAnEarlierQueue(t *testing.T) {
	b := begin(t)
	b.done(create('a', 30, 0, 1, 'b', 1), create('b', 30, 0, 1, 'a', 2))
	b.sends('a', "g", 1, "1")
	b.sends('b', "h", 1, "2")
	b.gets(receive('a', "", 1), gives('a', given{1, 1, "g", "1"}))
	b.gets(receive('b', "", 1), gives('b', given{1, 1, "h", "2"}))
	b.done(goOn(30)) // g goes to b, then h to a
	b.looks('a', view{visible: 30, receives: 1, dead: 'b', quota: 1, next: 3, ready: []string{"h"}, messages: []shownMessage{{2, "h", "2", 0, 0}}})
	b.looks('b', view{visible: 30, receives: 1, dead: 'a', quota: 2, next: 3, ready: []string{"g"}, messages: []shownMessage{{2, "g", "1", 0, 0}}})

	b = begin(t)
	b.done(create('a', 30, 0, 1, 'b', 2), create('b', 30, 0, 1, 'a', 1))
	b.sends('a', "g", 1, "1")
	b.sends('b', "h", 1, "2")
	b.gets(receive('a', "", 1), gives('a', given{1, 1, "g", "1"}))
	b.gets(receive('b', "", 1), gives('b', given{1, 1, "h", "2"}))
	b.done(goOn(30)) // b is full when g would go there; then h goes to a, behind g
	b.looks('a', view{visible: 30, receives: 1, dead: 'b', quota: 2, next: 3, ready: []string{"g", "h"}, messages: []shownMessage{{1, "g", "1", 1, 0}, {2, "h", "2", 0, 0}}})
	b.looks('b', view{visible: 30, receives: 1, dead: 'a', quota: 1, next: 2})
}

func TestTimeGoesOnForAllQueues(t *testing.T) {
	b := begin(t)
	for queue := byte('a'); queue <= 'h'; queue++ {
		b.done(create(queue, 10, 10, 0, '-', 5))
		b.sends(queue, "g", 1, "x")
		b.gets(receive(queue, "t", 1), gives(queue, given{1, 1, "g", "x"}))
	}
	b.done(goOn(10))
	for queue := byte('a'); queue <= 'h'; queue++ {
		b.looks(queue, view{visible: 10, window: 10, dead: '-', quota: 5, next: 2, ready: []string{"g"}, messages: []shownMessage{{1, "g", "x", 1, 0}}})
	}
}
