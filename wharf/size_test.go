package wharf_test

import (
	"math/rand/v2"
	"slices"
	"strings"
	"testing"

	"wharf/api"
	"wharf/disk"
)

// fits wants the files of a disk to have no more bytes together than they may.
func (t trial) fits(d *disk.Disk, behind string) {
	t.Helper()
	if n := size(d); n > api.MaxDisk {
		t.Fatalf("P15: the files have %d bytes together behind %.60q", n, behind)
	}
}

// greatest are names of eight bytes, none of which is another.
func greatest(i int) string { return "name" + four(i+1) }

// fill makes all queues, as full as they can be: of the greatest bodies, groups, dedups, attempts and answers.
// Of the 200 numbers that a queue has 150 go, and their dedups stay; the messages have groups of their own.
func fill(t trial, d *disk.Disk) {
	t.Helper()
	body := func(i int) string { return strings.Repeat("b", 36) + four(i) }
	for queue := byte('a'); queue <= 'h'; queue++ {
		dead := 'a' + (queue-'a'+1)%8
		t.done(create(queue, 1000, 1000, 9, dead, 50))
		for i := range 200 {
			t.gets(send(queue, greatest(i%50), greatest(i), body(i)), numbered(i+1))
			t.fits(d, "S")
			if i%50 == 49 && i < 199 {
				t.done(purge(queue))
			}
		}
		for i := range 20 {
			s := receive(queue, greatest(i), 10)
			if answer := t.b.Do(s); len(answer) != 2+10*(8+9+41) {
				t.Fatalf("P7: %q is answered %q", s, answer)
			}
			t.fits(d, s)
			for k := range 10 {
				h := 151 + (10*i+k)%50
				t.done(extend(handle(queue, h, 1+i/5), 0))
			}
		}
	}
}

// TestFullQueues: all that a broker can have, and a long run of requests on it.
func TestFullQueues(t *testing.T) {
	d := disk.New()
	b := on(t, d)
	fill(b, d)
	sum := 0
	for _, s := range b.all() {
		sum += len(s)
	}
	if least := 8 * (50*(4+9+41+2+4) + 50*9 + 200*(9+4+4) + 20*(9+4+2+581)); sum < least {
		t.Fatalf("the queues are not full: %d bytes, want %d", sum, least)
	}
	was := b.all()
	b = on(t, d)
	b.fits(d, "Open")
	if b.all() != was {
		t.Fatalf("P13: full queues are others when they are opened again")
	}
	runLong(b, d, 2000)
	was = b.all()
	for range 3 {
		b = on(t, d)
		b.fits(d, "Open")
		if b.all() != was {
			t.Fatalf("P13: full queues are others when they are opened again")
		}
		runLong(b, d, 300)
		was = b.all()
	}
}

// runLong does requests that change full queues and leave them full.
func runLong(t trial, d *disk.Disk, count int) {
	t.Helper()
	for i := range count {
		queue := 'a' + byte(i%8)
		answer := t.b.Do(receive(queue, "", 1))
		t.fits(d, "R")
		if len(answer) < 10 {
			t.Fatalf("P7: an R of a full queue is answered %q", answer)
		}
		h := answer[2:10]
		for _, s := range []string{extend(h, 1000), extend(h, 1), batch(slices.Repeat([]string{extend(h, 999)}, 10)...), extend(h, 0), acknowledge("x"), show(queue), "x"} {
			if t.b.Do(s) == "" {
				t.Fatalf("P14: %q is not answered", s)
			}
			t.fits(d, s)
		}
	}
}

// TestFullQueuesCutOff: the disk stops at each step of requests on full queues behind which less lies on the disk,
// and crashes; what a crash leaves behind counts too.
func TestFullQueuesCutOff(t *testing.T) {
	d := disk.New()
	b := on(t, d)
	fill(b, d)
	was := b.all()
	list := slices.Repeat([]string{batch(slices.Repeat([]string{acknowledge(strings.Repeat("x", 250))}, 9)...), acknowledge(handle('a', 1, 1))}, 2)
	for shrunk := 0; shrunk < 2; {
		ahead := d.Crash(0)
		b.b.Serve(list)
		b.fits(d, "Serve")
		if size(d) >= size(ahead) {
			continue
		}
		shrunk++
		for n := range 8 {
			for _, keep := range []int{0, 9, 1000, 140000, 1 << 30} {
				left := ahead.Crash(0)
				c := on(t, left)
				left.Stop(n)
				c.b.Serve(list)
				left = left.Crash(keep)
				c = on(t, left)
				c.fits(left, "Open")
				if c.all() != was {
					t.Fatalf("P14: full queues are others behind a crash")
				}
				for range 10 {
					c.b.Serve(list)
					c.fits(left, "Serve")
				}
			}
		}
	}
}

// TestLongLists: lists that are far longer than the disk has room for.
func TestLongLists(t *testing.T) {
	d := disk.New()
	b := on(t, d)
	b.done(create('a', 1000, 0, 0, '-', 50))
	b.sends('a', "g", 1, "x")
	long := batch(slices.Repeat([]string{acknowledge(strings.Repeat("x", 250))}, 10)...)
	lists := [][]string{
		slices.Repeat([]string{long}, 1000),
		slices.Repeat([]string{receive('a', "", 1), purge('a'), send('a', "g", "", strings.Repeat("b", 40)), show('a')}, 50000),
		slices.Repeat([]string{send('a', "g", "", strings.Repeat("b", 255))}, 5000),
		slices.Repeat([]string{strings.Repeat("x", 1000)}, 5000),
		slices.Repeat([]string{create('b', 1, 0, 0, '-', 1), send('b', "g", "", strings.Repeat("b", 40)), remove('b')}, 30000),
	}
	for _, list := range lists {
		for i, answer := range b.b.Serve(list) {
			if answer == "" {
				t.Fatalf("P14: the request %d of %d is not answered", i, len(list))
			}
		}
		b.fits(d, list[0])
		was := b.all()
		b = on(t, d)
		b.fits(d, "Open")
		if b.all() != was {
			t.Fatalf("P13: opened again behind a long list, other queues are there")
		}
	}
}

// TestLongGames: every kind of request, for long.
func TestLongGames(t *testing.T) {
	for game := range 8 {
		p := &player{Rand: rand.New(rand.NewPCG(uint64(game), 41)), queues: []string{"ab", "abcdefgh"}[game%2], mild: true, lasting: game%3 == 0}
		d := disk.New()
		b := on(t, d)
		for i := range 8000 {
			s := p.next()
			answer := b.b.Do(s)
			p.note(s, answer)
			b.fits(d, s)
			if i%700 == 0 {
				b = on(t, d)
				b.fits(d, "Open")
			}
		}
	}
}
