package wharf_test

import (
	"testing"

	"wharf/api"
)

func TestCreate(t *testing.T) {
	b := begin(t)
	b.done(create('a', 30, 5, 2, 'b', 10), create('h', 1000, 1000, 9, 'a', 50), create('d', 1, 0, 0, '-', 1))
	b.looks('a', view{visible: 30, window: 5, receives: 2, dead: 'b', quota: 10, next: 1})
	b.looks('h', view{visible: 1000, window: 1000, receives: 9, dead: 'a', quota: 50, next: 1})
	b.looks('d', view{visible: 1, dead: '-', quota: 1, next: 1})
	for _, queue := range []byte("bcefg") {
		b.refused(show(queue), api.ErrQueue)
	}
}

func TestCreateWhatIsThere(t *testing.T) {
	b := busy(t)
	b.refused(create('a', 30, 50, 2, 'b', 10), api.ErrExists)
	b.refused(create('a', 1, 0, 0, '-', 1), api.ErrExists)
	b.refused(create('b', 1, 0, 0, 'a', 1), api.ErrExists)
}

func TestNoSuchQueue(t *testing.T) {
	b := begin(t)
	b.done(create('a', 30, 5, 2, 'b', 10))
	for queue := byte('b'); queue <= 'h'; queue++ {
		for _, s := range []string{remove(queue), purge(queue), show(queue), send(queue, "g", "", "x"), receive(queue, "", 1), receive(queue, "t", 10)} {
			b.refused(s, api.ErrQueue)
		}
	}
}

func TestRemove(t *testing.T) {
	b := busy(t)
	b.done(remove('a'))
	b.refused(remove('a'), api.ErrQueue)
	for _, s := range []string{purge('a'), show('a'), send('a', "g", "", "one"), receive('a', "t", 1)} {
		b.refused(s, api.ErrQueue)
	}
	b.refused(acknowledge(handle('a', 1, 1)), api.ErrStale)
	b.looks('b', view{visible: 10, dead: '-', quota: 50, next: 1})
}

func TestQueueMadeAnew(t *testing.T) {
	b := busy(t)
	b.done(remove('a'), create('a', 7, 8, 0, '-', 3))
	b.looks('a', view{visible: 7, window: 8, dead: '-', quota: 3, next: 1})
	b.refused(acknowledge(handle('a', 1, 1)), api.ErrStale)
	b.gets(receive('a', "t", 1), gives('a'))
	b.sends('a', "g", 1, "one") // its dedup went with the queue
	b.gets(receive('a', "", 9), gives('a', given{1, 1, "g", "one"}))
	b.done(goOn(7))
	b.looks('a', view{visible: 7, window: 8, dead: '-', quota: 3, next: 2,
		messages: []shownMessage{{1, "g", "one", 1, 0}}, ready: []string{"g"}, dedups: []shownDedup{{made("one"), 1, 10}}})
}

func TestPurge(t *testing.T) {
	b := busy(t)
	dedups := []shownDedup{{made("one"), 1, 52}, {made("two"), 2, 52}, {made("three"), 3, 52}}
	empty := view{visible: 30, window: 50, receives: 2, dead: 'b', quota: 10, next: 4, dedups: dedups}
	b.done(purge('a'))
	b.looks('a', empty)
	b.done(purge('a'))
	b.looks('a', empty)
	b.refused(acknowledge(handle('a', 1, 1)), api.ErrStale)
	b.gets(receive('a', "t", 1), gives('a')) // the attempt is gone
	b.gets(send('a', "h", "", "two"), numbered(2))
	b.looks('a', empty)
	b.sends('a', "g", 4, "four")
	b.gets(receive('a', "t", 1), gives('a', given{4, 1, "g", "four"}))
	b.done(goOn(30)) // nothing that was purged comes back
	b.gets(receive('a', "", 9), gives('a', given{4, 2, "g", "four"}))
	b.looks('b', view{visible: 10, dead: '-', quota: 50, next: 1})
}

func TestPurgeOfOneQueueAlone(t *testing.T) {
	b := busy(t)
	b.sends('b', "k", 1, "x")
	was := b.all()
	b.done(purge('b'))
	b.looks('b', view{visible: 10, dead: '-', quota: 50, next: 2})
	if b.all()[0] != was[0] {
		t.Errorf("P5: P of b changed a")
	}
}
