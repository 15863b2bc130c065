package wharf_test

import (
	"strings"
	"testing"

	"wharf/api"
)

func TestWhatIsNoHandle(t *testing.T) {
	b := busy(t)
	right := handle('a', 1, 1)
	list := []string{"", "H", "Ha", right[:7], right + "\x00", right[1:], "h" + right[1:], "\x00" + right[1:], "HA" + right[2:], "H`" + right[2:], "Hi" + right[2:], "H-" + right[2:], "H\x00" + right[2:], strings.Repeat("H", 8), right + right, strings.Repeat("H", 255)}
	for _, h := range list {
		b.refused(acknowledge(h), api.ErrHandle)
		for _, ticks := range []int{0, 1, 1000} {
			b.refused(extend(h, ticks), api.ErrHandle)
		}
	}
}

func TestStaleHandles(t *testing.T) {
	b := busy(t)
	list := []string{
		handle('a', 1, 0), handle('a', 1, 2), handle('a', 1, 257), // received otherwise
		handle('a', 2, 0), handle('a', 2, 1), // behind the head
		handle('a', 3, 0), handle('a', 3, 1), // ready
		handle('a', 0, 0), handle('a', 0, 1), handle('a', 4, 1), handle('a', 257, 1), handle('a', 65537, 1), handle('a', 1<<24+1, 1), handle('a', 1<<32-1, 65535), // no such number
		handle('b', 1, 1), handle('b', 1, 0), // a queue without messages
		handle('c', 1, 1), handle('h', 1, 1), handle('h', 0, 0), // no such queue
	}
	for _, h := range list {
		b.refused(acknowledge(h), api.ErrStale)
		for _, ticks := range []int{0, 1, 1000} {
			b.refused(extend(h, ticks), api.ErrStale)
		}
	}
	b.done(acknowledge(handle('a', 1, 1)))
}

func TestHandleOfAnEarlierReceive(t *testing.T) {
	b := busy(t)
	b.done(extend(handle('a', 1, 1), 0))
	b.refused(acknowledge(handle('a', 1, 1)), api.ErrStale) // ready, not in flight
	b.refused(extend(handle('a', 1, 1), 7), api.ErrStale)
	b.gets(receive('a', "", 2), gives('a', given{3, 1, "h", "three"}, given{1, 2, "g", "one"}))
	b.refused(acknowledge(handle('a', 1, 1)), api.ErrStale)
	b.refused(extend(handle('a', 1, 1), 0), api.ErrStale)
	b.done(acknowledge(handle('a', 1, 2)))
	b.refused(acknowledge(handle('a', 1, 2)), api.ErrStale)
}

func TestAcknowledgeWithOthersLeft(t *testing.T) {
	b := begin(t)
	b.done(create('a', 30, 0, 0, '-', 10))
	b.sends('a', "g", 1, "one")
	b.sends('a', "h", 2, "two")
	b.sends('a', "g", 3, "three", "four")
	b.gets(receive('a', "", 1), gives('a', given{1, 1, "g", "one"}))
	b.done(acknowledge(handle('a', 1, 1)))
	b.looks('a', view{visible: 30, dead: '-', quota: 10, next: 5, ready: []string{"h", "g"},
		messages: []shownMessage{{2, "h", "two", 0, 0}, {3, "g", "three", 0, 0}, {4, "g", "four", 0, 0}}})
}

func TestAcknowledgeTheLast(t *testing.T) {
	b := begin(t)
	b.done(create('a', 30, 0, 0, '-', 10))
	b.sends('a', "g", 1, "one")
	b.sends('a', "h", 2, "two")
	b.gets(receive('a', "", 1), gives('a', given{1, 1, "g", "one"}))
	b.done(acknowledge(handle('a', 1, 1)))
	b.looks('a', view{visible: 30, dead: '-', quota: 10, next: 3, ready: []string{"h"}, messages: []shownMessage{{2, "h", "two", 0, 0}}})
	b.gets(receive('a', "", 1), gives('a', given{2, 1, "h", "two"}))
	b.done(acknowledge(handle('a', 2, 1)))
	b.looks('a', view{visible: 30, dead: '-', quota: 10, next: 3})
	b.done(goOn(30)) // it does not come back
	b.looks('a', view{visible: 30, dead: '-', quota: 10, next: 3})
}

func TestHandleNamesItsQueue(t *testing.T) {
	b := begin(t)
	for queue := byte('a'); queue <= 'h'; queue++ {
		b.done(create(queue, 30, 0, 0, '-', 10))
		b.sends(queue, "g", 1, "one")
		b.gets(receive(queue, "", 1), gives(queue, given{1, 1, "g", "one"}))
	}
	for queue := byte('h'); queue >= 'a'; queue-- {
		b.done(acknowledge(handle(queue, 1, 1)))
		b.looks(queue, view{visible: 30, dead: '-', quota: 10, next: 2})
		b.refused(extend(handle(queue, 1, 1), 0), api.ErrStale)
	}
}

func TestExtend(t *testing.T) {
	b := busy(t) // at 2; the message 1 of a is until 32
	for _, c := range []struct{ on, ticks, until int }{{1, 1000, 1003}, {1, 1, 5}, {0, 1, 5}, {0, 30, 34}} {
		if c.on > 0 {
			b.done(goOn(c.on))
		}
		b.done(extend(handle('a', 1, 1), c.ticks))
		b.looks('a', view{visible: 30, window: 50, receives: 2, dead: 'b', quota: 10, next: 4, ready: []string{"h"},
			messages: []shownMessage{{1, "g", "one", 1, c.until}, {2, "g", "two", 0, 0}, {3, "h", "three", 0, 0}},
			dedups:   []shownDedup{{made("one"), 1, 52}, {made("two"), 2, 52}, {made("three"), 3, 52}},
			attempts: []shownAttempt{{"t", 32, gives('a', given{1, 1, "g", "one"})}}})
	}
	b.done(goOn(29)) // 33
	b.gets(receive('a', "", 9), gives('a', given{3, 1, "h", "three"}))
	b.done(goOn(1))
	b.gets(receive('a', "", 9), gives('a', given{1, 2, "g", "one"}))
}

func TestExtendToZero(t *testing.T) {
	b := busy(t)
	b.done(extend(handle('a', 1, 1), 0))
	b.looks('a', view{visible: 30, window: 50, receives: 2, dead: 'b', quota: 10, next: 4, ready: []string{"h", "g"},
		messages: []shownMessage{{1, "g", "one", 1, 0}, {2, "g", "two", 0, 0}, {3, "h", "three", 0, 0}},
		dedups:   []shownDedup{{made("one"), 1, 52}, {made("two"), 2, 52}, {made("three"), 3, 52}},
		attempts: []shownAttempt{{"t", 32, gives('a', given{1, 1, "g", "one"})}}})
	b.gets(receive('a', "", 9), gives('a', given{3, 1, "h", "three"}, given{1, 2, "g", "one"}))
}
