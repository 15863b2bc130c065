package wharf_test

import (
	"strings"
	"testing"
)

func TestShowByteForByte(t *testing.T) {
	b := begin(t)
	b.done("Ca\x2c\x01\xe8\x03\x09h\x32", "T\x05\x00")
	b.gets("Sa\x01g\x02id\x03one", "\x00\x01\x00\x00\x00")
	b.gets("Sa\x01h\x00\x09123456789", "\x00\x02\x00\x00\x00")
	b.gets("Sa\x02kk\x01d\x00", "\x00\x03\x00\x00\x00")
	b.gets("Sa\x01g\x01e\x03two", "\x00\x04\x00\x00\x00")
	b.gets("Ra\x03try\x01", "\x00\x01Ha\x01\x00\x00\x00\x01\x00\x01g\x03one")
	want := "\x00" +
		"\x2c\x01" + "\xe8\x03" + "\x09" + "h" + "\x32" + "\x05\x00\x00\x00" +
		"\x04" +
		"\x01\x00\x00\x00" + "\x01g" + "\x03one" + "\x01\x00" + "\x31\x01\x00\x00" +
		"\x02\x00\x00\x00" + "\x01h" + "\x09123456789" + "\x00\x00" + "\x00\x00\x00\x00" +
		"\x03\x00\x00\x00" + "\x02kk" + "\x00" + "\x00\x00" + "\x00\x00\x00\x00" +
		"\x04\x00\x00\x00" + "\x01g" + "\x03two" + "\x00\x00" + "\x00\x00\x00\x00" +
		"\x02" + "\x01h" + "\x02kk" +
		"\x04" +
		"\x02id" + "\x01\x00\x00\x00" + "\xed\x03\x00\x00" +
		"\x05\x00\x26\x39\xf4\xcb" + "\x02\x00\x00\x00" + "\xed\x03\x00\x00" +
		"\x01d" + "\x03\x00\x00\x00" + "\xed\x03\x00\x00" +
		"\x01e" + "\x04\x00\x00\x00" + "\xed\x03\x00\x00" +
		"\x01" +
		"\x03try" + "\x31\x01\x00\x00" + "\x0f\x00" + "\x01Ha\x01\x00\x00\x00\x01\x00\x01g\x03one"
	for range 3 {
		b.gets("Va", want)
	}
}

func TestShowChangesNothing(t *testing.T) {
	requests := scenario()
	var without []string
	for _, s := range requests {
		if s[0] != 'V' {
			without = append(without, s)
		}
	}
	want := answers(t, append(without, show('a'), show('b')))
	got := answers(t, append(requests, show('a'), show('b')))
	k := 0
	for i, s := range append(requests, show('a'), show('b')) {
		if s[0] == 'V' && i < len(requests) {
			continue
		}
		if got[i] != want[k] {
			t.Fatalf("P10: with V between, Do(%q) is %q, without it %q", s, got[i], want[k])
		}
		k++
	}
}

func TestShowTheMostOfAll(t *testing.T) {
	b := begin(t)
	b.done(create('a', 1000, 1000, 9, '-', 50))
	body := strings.Repeat("\xff", 40)
	want := view{visible: 1000, window: 1000, receives: 9, dead: '-', quota: 50, next: 201}
	for i := range 200 {
		id := "dedup" + numberBytes(i, 2)
		name := "group" + numberBytes(i, 2)
		b.gets(send('a', name, id, body), numbered(i+1))
		want.dedups = append(want.dedups, shownDedup{id, i + 1, 1000})
		want.messages = append(want.messages, shownMessage{i + 1, name, body, 0, 0})
		want.ready = append(want.ready, name)
		if i%50 == 49 && i < 199 {
			b.done(purge('a'))
			want.messages, want.ready = nil, nil
		}
	}
	b.looks('a', want)
	for i := range 20 {
		m := &want.messages[i]
		m.received, m.until = 1, 1000
		answer := gives('a', given{m.number, 1, m.group, m.body})
		b.gets(receive('a', m.group, 1), answer)
		want.attempts = append(want.attempts, shownAttempt{m.group, 1000, answer})
	}
	want.ready = want.ready[20:]
	b.looks('a', want)
}
