package wharf_test

import (
	"strings"
	"testing"

	"wharf/api"
	"wharf/disk"
	"wharf/wharf"
)

func TestNewBrokerIsEmpty(t *testing.T) {
	b := begin(t)
	for queue := byte('a'); queue <= 'h'; queue++ {
		b.refused(show(queue), api.ErrQueue)
	}
}

func TestNewBrokerIsAtTimeZero(t *testing.T) {
	b := begin(t)
	b.done(create('a', 7, 3, 0, '-', 5))
	b.sends('a', "g", 1, "x")
	b.gets(receive('a', "t", 1), gives('a', given{1, 1, "g", "x"}))
	b.looks('a', view{visible: 7, window: 3, dead: '-', quota: 5, next: 2,
		messages: []shownMessage{{1, "g", "x", 1, 7}},
		dedups:   []shownDedup{{made("x"), 1, 3}},
		attempts: []shownAttempt{{"t", 7, gives('a', given{1, 1, "g", "x"})}},
	})
}

func TestExamplesOfDo(t *testing.T) {
	b := begin(t)
	b.done("Ca\x1e\x00\x05\x00\x02b\x0a")
	b.gets("Sa\x01g\x00\x02hi", "\x00\x01\x00\x00\x00")
	b.gets("Sa\x01g\x00\x02hi", "\x00\x01\x00\x00\x00")
	b.gets("Ra\x00\x05", "\x00\x01\x48\x61\x01\x00\x00\x00\x01\x00\x01\x67\x02\x68\x69")
	b.gets("Ra\x00\x05", "\x00\x00")
	b.gets("A\x08\x48\x61\x01\x00\x00\x00\x01\x00", "\x00")
	b.gets("A\x08\x48\x61\x01\x00\x00\x00\x01\x00", "\x08")
}

func TestExampleOfAMove(t *testing.T) {
	b := begin(t)
	b.done("Ca\x1e\x00\x05\x00\x02b\x0a", create('b', 30, 0, 0, '-', 10))
	b.sends('a', "g", 1, "1", "2")
	b.gets(receive('a', "", 5), gives('a', given{1, 1, "g", "1"}))
	b.done(goOn(30))
	b.gets(receive('a', "", 5), gives('a', given{1, 2, "g", "1"}))
	b.done("E\x08\x48\x61\x01\x00\x00\x00\x02\x00\x00\x00")
	b.looks('a', view{visible: 30, window: 5, receives: 2, dead: 'b', quota: 10, next: 3})
	b.looks('b', view{visible: 30, dead: '-', quota: 10, next: 3,
		messages: []shownMessage{{1, "g", "1", 0, 0}, {2, "g", "2", 0, 0}}, ready: []string{"g"}})
}

func TestWhatIsNoRequest(t *testing.T) {
	b := busy(t)
	list := []string{"", "\x00", "x", "a", "D", "T\x00\x00", "T\x01", "T\xe9\x03", "Xi", "X", "X-", "Vi", "Va\x00", "Sa", "Sa\x01g\x01\x00\x00",
		"Ra\x00\x00", "Ra\x00\x0b", "A", "A\x01", "E\x00\x00", "B\x00", "Ca\x1e\x00\x05\x00\x02a\x0a", strings.Repeat("V", 100000), strings.Repeat("S", 1000000)}
	for _, c := range samples() {
		list = append(list, c.s[1:], c.s+"\x00", c.s[:len(c.s)-1], strings.ToLower(c.s[:1])+c.s[1:])
	}
	for _, s := range list {
		if _, e := wharf.Parse(s); e == api.OK {
			continue // a text that lost its letter may be a request
		}
		b.refused(s, api.ErrForm)
	}
	for op := range 256 {
		if strings.IndexByte(ops, byte(op)) < 0 {
			b.refused(string([]byte{byte(op), 'a'}), api.ErrForm)
		}
	}
}

// busy is a broker with a queue that has something of everything.
func busy(t *testing.T) trial {
	t.Helper()
	b := begin(t)
	b.done(create('a', 30, 50, 2, 'b', 10), create('b', 10, 0, 0, '-', 50), goOn(2))
	b.sends('a', "g", 1, "one", "two")
	b.sends('a', "h", 3, "three")
	b.gets(receive('a', "t", 1), gives('a', given{1, 1, "g", "one"}))
	return b
}

func TestBrokersBesideOneAnother(t *testing.T) {
	one, other := begin(t), begin(t)
	one.done(create('a', 10, 5, 0, '-', 5))
	other.refused(show('a'), api.ErrQueue)
	other.done(create('a', 20, 5, 0, '-', 5))
	one.sends('a', "g", 1, "1", "2")
	other.gets(receive('a', "", 1), gives('a'))
	other.sends('a', "h", 1, "1")
	one.done(goOn(9))
	other.gets(receive('a', "t", 1), gives('a', given{1, 1, "h", "1"}))
	one.refused(acknowledge(handle('a', 1, 1)), api.ErrStale)
	one.gets(receive('a', "t", 1), gives('a', given{1, 1, "g", "1"}))
	one.done(remove('a'))
	other.looks('a', view{visible: 20, window: 5, dead: '-', quota: 5, next: 2,
		messages: []shownMessage{{1, "h", "1", 1, 20}},
		dedups:   []shownDedup{{made("1"), 1, 5}},
		attempts: []shownAttempt{{"t", 20, gives('a', given{1, 1, "h", "1"})}},
	})
}

func TestBrokersAtTheSameTime(t *testing.T) {
	requests := scenario()
	first := answers(t, requests)
	results := make(chan []string)
	for range 8 {
		go func() {
			b, _ := wharf.Open(disk.New())
			var out []string
			for _, s := range requests {
				out = append(out, b.Do(s))
			}
			results <- out
		}()
	}
	for range 8 {
		got := <-results
		for i := range requests {
			if got[i] != first[i] {
				t.Errorf("P2: Do(%q) is %q, and %q on another disk", requests[i], got[i], first[i])
			}
		}
	}
}

// scenario is a list of requests that do something of everything.
func scenario() []string {
	list := []string{create('a', 3, 4, 2, 'b', 20), create('b', 5, 0, 0, '-', 30)}
	for i := range 60 {
		group := string([]byte{'g' + byte(i%3)})
		list = append(list, send('a', group, "", string([]byte{'0' + byte(i)})), receive('a', group, 1+i%3), goOn(1), show('a'), show('b'))
	}
	return list
}

// answers tells what a broker on a new disk answers.
func answers(t *testing.T, requests []string) []string {
	t.Helper()
	b := begin(t)
	var out []string
	for _, s := range requests {
		out = append(out, b.b.Do(s))
	}
	return out
}
