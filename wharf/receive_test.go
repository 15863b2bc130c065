package wharf_test

import (
	"strings"
	"testing"
)

// grouped is a broker whose queue a has messages of so many groups, one each.
func grouped(t *testing.T, groups int) trial {
	t.Helper()
	b := begin(t)
	b.done(create('a', 30, 0, 0, '-', 50))
	for i := range groups {
		b.sends('a', group(i), i+1, "x")
	}
	return b
}

// group is the name of one of many groups.
func group(i int) string { return "g" + numberBytes(i, 1) }

// givenOnce are messages of many groups that are received for the first time.
func givenOnce(from, below int) []given {
	var out []given
	for i := from; i < below; i++ {
		out = append(out, given{i + 1, 1, group(i), "x"})
	}
	return out
}

func TestReceiveAtMostMax(t *testing.T) {
	for groups := range 13 {
		for most := 1; most <= 10; most++ {
			b := grouped(t, groups)
			first := min(groups, most)
			b.gets(receive('a', "", most), gives('a', givenOnce(0, first)...))
			second := min(groups, first+10)
			b.gets(receive('a', "", 10), gives('a', givenOnce(first, second)...))
		}
	}
}

func TestReceiveOneOfAGroup(t *testing.T) {
	b := begin(t)
	b.done(create('a', 30, 0, 0, '-', 50), goOn(4))
	b.sends('a', "g", 1, "one", "two")
	b.sends('a', "h", 3, "three")
	b.sends('a', "g", 4, "four")
	b.gets(receive('a', "", 10), gives('a', given{1, 1, "g", "one"}, given{3, 1, "h", "three"}))
	b.gets(receive('a', "", 10), gives('a'))
	b.sends('a', "h", 5, "five") // does not make ready what is in flight
	b.gets(receive('a', "", 10), gives('a'))
	b.looks('a', view{visible: 30, dead: '-', quota: 50, next: 6, messages: []shownMessage{
		{1, "g", "one", 1, 34}, {2, "g", "two", 0, 0}, {3, "h", "three", 1, 34}, {4, "g", "four", 0, 0}, {5, "h", "five", 0, 0}}})
	b.done(acknowledge(handle('a', 3, 1)))
	b.gets(receive('a', "", 10), gives('a', given{5, 1, "h", "five"}))
	b.done(acknowledge(handle('a', 1, 1)))
	b.gets(receive('a', "", 10), gives('a', given{2, 1, "g", "two"}))
	b.done(acknowledge(handle('a', 2, 1)))
	b.gets(receive('a', "", 10), gives('a', given{4, 1, "g", "four"}))
}

func TestReceiveGroupsInTheirOrder(t *testing.T) {
	b := begin(t)
	b.done(create('a', 30, 0, 0, '-', 50))
	b.sends('a', "z", 1, "z1", "z2")
	b.sends('a', "a", 3, "a1", "a2")
	b.sends('a', "m", 5, "m1")
	b.gets(receive('a', "", 1), gives('a', given{1, 1, "z", "z1"}))
	b.done(extend(handle('a', 1, 1), 0)) // behind a and m now
	b.gets(receive('a', "", 2), gives('a', given{3, 1, "a", "a1"}, given{5, 1, "m", "m1"}))
	b.sends('a', "n", 6, "n1")
	b.done(acknowledge(handle('a', 3, 1)))
	b.gets(receive('a', "", 9), gives('a', given{1, 2, "z", "z1"}, given{6, 1, "n", "n1"}, given{4, 1, "a", "a2"}))
}

func TestGroupThatEndedBeginsAgain(t *testing.T) {
	b := begin(t)
	b.done(create('a', 30, 0, 0, '-', 50))
	b.sends('a', "g", 1, "one")
	b.sends('a', "h", 2, "two")
	b.gets(receive('a', "", 1), gives('a', given{1, 1, "g", "one"}))
	b.done(acknowledge(handle('a', 1, 1)))
	b.gets(receive('a', "", 1), gives('a', given{2, 1, "h", "two"}))
	b.sends('a', "g", 3, "three")
	b.gets(receive('a', "", 9), gives('a', given{3, 1, "g", "three"}))
}

func TestGroupsOfSimilarNames(t *testing.T) {
	b := begin(t)
	b.done(create('a', 30, 0, 0, '-', 50))
	names := []string{"g", "G", "gg", "g\x00", "\x00", "\x00\x00", "\xff"}
	var want []given
	for i, name := range names {
		b.sends('a', name, i+1, "x")
		want = append(want, given{i + 1, 1, name, "x"})
	}
	b.gets(receive('a', "", 10), gives('a', want...))
}

func TestAttemptAskedAgain(t *testing.T) {
	b := begin(t)
	b.done(create('a', 5, 0, 0, '-', 50), create('b', 5, 0, 0, '-', 50))
	b.sends('a', "g", 1, "one")
	b.sends('a', "h", 2, "two")
	b.sends('a', "k", 3, "three")
	answer := gives('a', given{1, 1, "g", "one"}, given{2, 1, "h", "two"})
	b.gets(receive('a', "t", 2), answer)
	was := b.all()
	for most := 1; most <= 10; most++ { // whatever Max is
		b.gets(receive('a', "t", most), answer)
	}
	if b.all() != was {
		t.Errorf("P7: an Attempt that was asked again changed something")
	}
	b.gets(receive('b', "t", 2), gives('b')) // an attempt is of its queue
	b.done(acknowledge(handle('a', 1, 1)))
	b.done(extend(handle('a', 2, 1), 0))
	b.gets(receive('a', "t", 1), answer)
	b.gets(receive('a', "T", 1), gives('a', given{3, 1, "k", "three"}))
	b.gets(receive('a', "", 1), gives('a', given{2, 2, "h", "two"}))
}

func TestAttemptEnds(t *testing.T) {
	b := begin(t)
	b.done(create('a', 5, 0, 0, '-', 50), goOn(2))
	b.sends('a', "g", 1, "one")
	b.gets(receive('a', "t", 1), gives('a', given{1, 1, "g", "one"}))
	b.done(goOn(4))
	b.gets(receive('a', "t", 1), gives('a', given{1, 1, "g", "one"})) // its time is not set anew
	b.done(goOn(1))
	b.gets(receive('a', "t", 1), gives('a', given{1, 2, "g", "one"}))
}

func TestAttemptOutlivesAnExtension(t *testing.T) {
	b := begin(t)
	b.done(create('a', 5, 0, 0, '-', 50))
	b.sends('a', "g", 1, "one")
	b.gets(receive('a', "t", 1), gives('a', given{1, 1, "g", "one"}))
	b.done(extend(handle('a', 1, 1), 20), goOn(5))
	b.gets(receive('a', "t", 1), gives('a')) // the attempt was until 5, the message is until 20
}

func TestNoAttemptWhereNothingCame(t *testing.T) {
	b := begin(t)
	b.done(create('a', 5, 0, 0, '-', 50))
	empty := view{visible: 5, dead: '-', quota: 50, next: 1}
	b.gets(receive('a', "t", 10), gives('a'))
	b.looks('a', empty)
	b.sends('a', "g", 1, "one")
	b.gets(receive('a', "t", 10), gives('a', given{1, 1, "g", "one"}))
	b.gets(receive('a', "u", 10), gives('a'))
	b.looks('a', view{visible: 5, dead: '-', quota: 50, next: 2, messages: []shownMessage{{1, "g", "one", 1, 5}},
		attempts: []shownAttempt{{"t", 5, gives('a', given{1, 1, "g", "one"})}}})
}

func TestNoAttemptWithoutAnID(t *testing.T) {
	b := grouped(t, 3)
	b.gets(receive('a', "", 1), gives('a', givenOnce(0, 1)...))
	b.gets(receive('a', "", 1), gives('a', givenOnce(1, 2)...))
	b.gets(receive('a', "\x00", 1), gives('a', givenOnce(2, 3)...)) // an id like any other
	b.gets(receive('a', "\x00", 1), gives('a', givenOnce(2, 3)...))
	b.gets(receive('a', "", 1), gives('a'))
}

func TestTwentyOneAttempts(t *testing.T) {
	b := grouped(t, 23)
	for i := range 20 {
		b.gets(receive('a', group(i), 1), gives('a', givenOnce(i, i+1)...))
	}
	for i := range 20 {
		b.gets(receive('a', group(i), 1), gives('a', givenOnce(i, i+1)...)) // all twenty are there
	}
	b.gets(receive('a', group(20), 1), gives('a', givenOnce(20, 21)...))
	var attempts []shownAttempt
	var messages []shownMessage
	for i := range 21 {
		messages = append(messages, shownMessage{i + 1, group(i), "x", 1, 30})
		if i > 0 {
			attempts = append(attempts, shownAttempt{group(i), 30, gives('a', givenOnce(i, i+1)...)})
		}
	}
	messages = append(messages, shownMessage{22, group(21), "x", 0, 0}, shownMessage{23, group(22), "x", 0, 0})
	b.looks('a', view{visible: 30, dead: '-', quota: 50, next: 24, messages: messages, ready: []string{group(21), group(22)}, attempts: attempts})
	b.gets(receive('a', group(0), 1), gives('a', givenOnce(21, 22)...)) // it went, and is made anew: the second goes
	b.gets(receive('a', group(1), 1), gives('a', givenOnce(22, 23)...))
	b.gets(receive('a', group(0), 1), gives('a', givenOnce(21, 22)...))
}

func TestReceivedAgainAndAgain(t *testing.T) {
	b := begin(t)
	b.done(create('a', 30, 0, 0, '-', 50))
	b.sends('a', "g", 1, "one")
	for received := 1; received <= 65535; received++ {
		b.gets(receive('a', "", 1), gives('a', given{1, received, "g", "one"}))
		b.done(extend(handle('a', 1, received), 0))
	}
	for range 3 { // there it stays
		b.gets(receive('a', "", 1), gives('a', given{1, 65535, "g", "one"}))
		b.looks('a', view{visible: 30, dead: '-', quota: 50, next: 2, messages: []shownMessage{{1, "g", "one", 65535, 30}}})
		b.done(extend(handle('a', 1, 65535), 0))
	}
	b.gets(receive('a', "", 1), gives('a', given{1, 65535, "g", "one"}))
	b.done(acknowledge(handle('a', 1, 65535)))
}

func TestLongestAnswer(t *testing.T) {
	b := begin(t)
	b.done(create('a', 30, 0, 0, '-', 50))
	var want []given
	body := strings.Repeat("\xff", 40)
	for i := range 10 {
		name := "group-" + numberBytes(i, 2)
		b.sends('a', name, i+1, body)
		want = append(want, given{i + 1, 1, name, body})
	}
	answer := gives('a', want...)
	if len(answer) != 2+10*58 {
		t.Fatalf("the test's own answer has %d bytes", len(answer))
	}
	b.gets(receive('a', "attempt!", 10), answer)
	b.gets(receive('a', "attempt!", 1), answer)
}
