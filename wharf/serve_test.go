package wharf_test

import (
	"math/rand/v2"
	"runtime"
	"slices"
	"strings"
	"testing"
	"time"

	"wharf/api"
	"wharf/disk"
	"wharf/wharf"
)

// serves wants a list to be answered so.
func (t trial) serves(requests, want []string) {
	t.Helper()
	got := t.b.Serve(requests)
	if slices.Equal(got, want) {
		return
	}
	if len(got) != len(want) {
		t.Fatalf("P12: %d answers to %d requests", len(got), len(want))
	}
	for i := range got {
		if got[i] != want[i] {
			t.Fatalf("P12: the request %d of %d, %.60q, is answered %q, want %q", i, len(got), requests[i], got[i], want[i])
		}
	}
}

func TestServeNothing(t *testing.T) {
	b := busy(t)
	was := b.all()
	b.serves(nil, nil)
	b.serves([]string{}, nil)
	b.serves([]string{remove('a')}[:0], nil)
	if b.all() != was {
		t.Errorf("P12: Serve of no request changed something")
	}
}

func TestServeOne(t *testing.T) {
	for _, s := range mixture() {
		b, other := busy(t), busy(t)
		b.serves([]string{s}, []string{other.b.Do(s)})
		if b.all() != other.all() {
			t.Errorf("P12: Serve of %q alone leaves other queues than Do", s)
		}
	}
}

// mixture is a list with all Ops and with strings that are no request, over several queues,
// with handles of queues that are there and of such that are not. It is for a busy broker.
func mixture() []string {
	return []string{
		send('a', "g", "", "x"), send('b', "g", "", "x"), send('c', "g", "", "x"), receive('a', "", 5), receive('b', "t", 5),
		acknowledge(handle('a', 1, 1)), acknowledge(handle('c', 1, 1)), acknowledge(handle('b', 1, 1)), acknowledge("x"), show('a'), show('b'), show('c'),
		"", receive('a', "", 1), create('c', 5, 5, 1, 'b', 3), send('c', "g", "", "x"), receive('c', "", 2), extend(handle('c', 1, 1), 0), receive('b', "", 9),
		"x", create('c', 5, 5, 1, 'b', 3), batch(send('b', "h", "", "y"), acknowledge(handle('a', 2, 1)), show('a')), send('b', "h", "", "z"), receive('b', "", 1), show('b'),
		acknowledge(handle('b', 2, 1)), acknowledge(handle('b', 2, 1)), goOn(7), receive('a', "u", 2), receive('b', "", 1), receive('a', "u", 2), goOn(30), receive('b', "", 9), receive('a', "", 9),
		purge('a'), send('a', "g", "", "x"), send('a', "g", "", "new"), receive('a', "", 1), purge('c'), remove('c'), acknowledge(handle('c', 2, 1)), send('c', "g", "", "x"), show('c'),
		"B\x00", remove('a'), show('a'), acknowledge(handle('a', 5, 1)), extend(handle('a', 5, 1), 3), create('a', 9, 0, 0, '-', 2), acknowledge(handle('a', 5, 1)), send('a', "k", "", "1"), show('a'), remove('h'),
		goOn(1000), extend("", 1), show('b'), purge('h'), receive('h', "", 1), "T\x00\x00", strings.Repeat("S", 300),
	}
}

// TestServeCutAnywhere serves a list in two parts, and in parts of every length.
func TestServeCutAnywhere(t *testing.T) {
	list := mixture()
	do := busy(t)
	var want []string
	for _, s := range list {
		want = append(want, do.b.Do(s))
	}
	last := do.all()
	for i := range len(list) + 1 {
		two, parts := busy(t), busy(t)
		two.serves(list[:i], want[:i])
		two.serves(list[i:], want[i:])
		for from := 0; from < len(list); from += i + 1 {
			to := min(from+i+1, len(list))
			parts.serves(list[from:to], want[from:to])
		}
		if two.all() != last || parts.all() != last {
			t.Errorf("P12: cut at %d, other queues are left than behind Do", i)
		}
	}
}

// TestWhatComesAlone: each request that concerns more than one queue comes behind all that stand ahead of it
// in the list, and ahead of all behind it.
func TestWhatComesAlone(t *testing.T) {
	b := begin(t)
	b.serves([]string{
		send('a', "g", "", "1"), create('a', 10, 0, 1, 'b', 9), send('a', "g", "", "1"), create('b', 10, 0, 0, '-', 9), // C
		send('b', "k", "", "2"), receive('a', "", 1), extend(handle('a', 1, 1), 0), send('b', "k", "", "3"), receive('b', "", 9), // E, which moves a group
		receive('a', "", 1), send('a', "g", "", "4"), receive('a', "", 1), goOn(10), receive('a', "", 1), receive('b', "", 9), // T, likewise
		send('a', "h", "", "5"), batch(send('a', "h", "", "6"), send('b', "h", "", "7")), send('a', "h", "", "8"), // B
		remove('a'), send('a', "h", "", "9"), acknowledge(handle('b', 1, 2)), receive('b', "", 1), // X
	}, []string{
		"\x02", "\x00", numbered(1), "\x00",
		numbered(1), gives('a', given{1, 1, "g", "1"}), "\x00", numbered(3), gives('b', given{1, 1, "k", "2"}, given{2, 1, "g", "1"}),
		gives('a'), numbered(2), gives('a', given{2, 1, "g", "4"}), "\x00", gives('a'), gives('b', given{1, 2, "k", "2"}, given{2, 2, "g", "1"}),
		numbered(3), replies(numbered(4), numbered(5)), numbered(5),
		"\x00", "\x02", "\x00", gives('b', given{5, 1, "h", "7"}),
	})
}

// TestServeAgainstTheModel serves lists whose requests hang on what is answered within the list.
func TestServeAgainstTheModel(t *testing.T) {
	for game := range 200 {
		p := &player{Rand: rand.New(rand.NewPCG(uint64(game), 11)), queues: []string{"ab", "abc", "abcdefgh", "ha"}[game%4], mild: game%3 > 0, lasting: game%5 == 0}
		b, m := begin(t), newModel()
		for range 40 {
			var list, want []string
			for range p.IntN([]int{3, 30, 100}[game%3]) {
				s := p.next()
				if p.IntN(3) > 0 && len(s) > 0 && strings.Contains("CXETB", s[:1]) {
					s = p.one(show(p.letter()), receive(p.letter(), "", 2)) // so that the queues work side by side for longer
				}
				answer := m.do(s)
				p.note(s, answer)
				list, want = append(list, s), append(want, answer)
			}
			b.serves(list, want)
			for i := range p.queues {
				b.gets(show(p.queues[i]), m.do(show(p.queues[i])))
			}
		}
	}
}

// crowd is a list that keeps all queues at work at once.
func crowd() []string {
	var list []string
	for queue := byte('a'); queue <= 'h'; queue++ {
		list = append(list, create(queue, 3, 4, 1+int(queue)%2, 'a'+(queue-'a'+3)%8, 20))
	}
	for i := range 1500 {
		queue := 'a' + byte(i*5%8)
		list = append(list, send(queue, group(i%7), "", numberBytes(i%50, 1)), receive('h'-queue+'a', numberBytes(1+i%30, 1), 1+i%3),
			acknowledge(handle(queue, 1+i%20, 1+i%2)), show(queue))
		if i%40 == 0 {
			list = append(list, goOn(1+i%3), purge(queue))
		}
	}
	return list
}

func TestServeHangsOnNoSchedule(t *testing.T) {
	list := crowd()
	want := answers(t, list)
	defer runtime.GOMAXPROCS(runtime.GOMAXPROCS(0))
	for round := range 40 {
		runtime.GOMAXPROCS([]int{1, 2, 4, 16}[round%4])
		begin(t).serves(list, want)
	}
}

func TestBrokersServeAtTheSameTime(t *testing.T) {
	list := crowd()
	want := answers(t, list)
	results := make(chan []string)
	for range 8 {
		go func() {
			b, _ := wharf.Open(disk.New())
			results <- b.Serve(list)
		}()
	}
	for range 8 {
		if got := <-results; !slices.Equal(got, want) {
			t.Errorf("P2: brokers on different disks that serve the same list at once answer otherwise than one alone")
		}
	}
}

func TestServeLeavesTheListAlone(t *testing.T) {
	whole := append(mixture(), "spare", remove('b'), "more")
	for n := range len(whole) + 1 {
		backing := slices.Clone(whole)
		b := busy(t)
		b.b.Serve(backing[:n])
		if !slices.Equal(backing, whole) {
			t.Fatalf("P2: Serve wrote into the list or its spare room: %q, was %q", backing, whole)
		}
	}
}

func TestServeDoesNotKeepTheList(t *testing.T) {
	b, other := busy(t), busy(t)
	list := []string{send('a', "k", "d", "four"), receive('a', "u", 9), batch(send('b', "g", "", "x"))}
	b.b.Serve(list)
	other.b.Serve(slices.Clone(list))
	for i := range list {
		list[i] = remove('a')
	}
	if b.all() != other.all() {
		t.Errorf("P2: Serve kept the list")
	}
	b.gets(receive('a', "u", 9), gives('a', given{3, 1, "h", "three"}, given{4, 1, "k", "four"}))
}

func TestServeGivesFreshLists(t *testing.T) {
	b := busy(t)
	list := []string{show('a'), show('b'), "x", show('c')}
	first := b.b.Serve(list)
	keep := slices.Clone(first)
	second := b.b.Serve(list)
	_ = append(first, "behind")
	clear(first[:cap(first)])
	if !slices.Equal(second, keep) {
		t.Errorf("P2: two answers of Serve share a list")
	}
	b.serves(list, keep)
	if list[0] != show('a') || list[2] != "x" {
		t.Errorf("P2: what Serve answered is the list that it was given")
	}
}

// TestServeLeavesNoGoroutine counts what runs behind many calls. One that has told its end may be counted
// for another moment, so the count is taken again for a while.
func TestServeLeavesNoGoroutine(t *testing.T) {
	before := runtime.NumGoroutine()
	list := crowd()
	for range 20 {
		begin(t).b.Serve(list)
	}
	for try := 0; runtime.NumGoroutine() > before; try++ {
		if try == 1000 {
			t.Fatalf("P2: %d goroutines behind Serve, %d ahead of it", runtime.NumGoroutine(), before)
		}
		time.Sleep(time.Millisecond)
	}
}

func TestServeGreatLists(t *testing.T) {
	b := busy(t)
	was := b.all()
	none := slices.Repeat([]string{"x", "", "Vi", acknowledge("x"), acknowledge(handle('h', 1, 1))}, 20000)
	b.serves(none, slices.Repeat([]string{"\x01", "\x01", "\x01", "\x07", "\x08"}, 20000))
	if b.all() != was {
		t.Errorf("P1: requests of a list that are answered with errors changed something")
	}
	list := slices.Repeat([]string{send('a', "k", "", strings.Repeat("x", 255)), receive('c', "", 1)}, 50000)
	b.serves(list, slices.Repeat([]string{string([]byte{byte(api.ErrBody)}), string([]byte{byte(api.ErrQueue)})}, 50000))
}
