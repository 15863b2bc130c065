package wharf_test

import (
	"math/rand/v2"
	"strconv"
	"testing"
)

// taken is what an answer to an R tells, handle by handle.
type taken struct {
	handle, group, body string
}

// readTaken reads an answer to an R.
func readTaken(t *testing.T, answer string) []taken {
	t.Helper()
	if len(answer) < 2 || answer[0] != 0 {
		t.Fatalf("P7: an R is answered %q", answer)
	}
	var out []taken
	rest := answer[2:]
	for range int(answer[1]) {
		m := taken{handle: rest[:8]}
		rest = rest[8:]
		m.group, rest = rest[1:1+int(rest[0])], rest[1+int(rest[0]):]
		m.body, rest = rest[1:1+int(rest[0])], rest[1+int(rest[0]):]
		out = append(out, m)
	}
	return out
}

// TestDrained: all that was sent is received once, each group in its order, one at a time (P16).
func TestDrained(t *testing.T) {
	for game := range 50 {
		g := rand.New(rand.NewPCG(uint64(game), 9))
		b := begin(t)
		b.done(create('a', 100, 0, 1+g.IntN(3), '-', 50))
		sent := map[string][]string{}
		for i := range 50 {
			name, body := group(g.IntN(12)), strconv.Itoa(i)
			b.sends('a', name, i+1, body)
			sent[name] = append(sent[name], body)
		}
		var flying []taken
		received := 0
		for received < 50 || len(flying) > 0 {
			for _, m := range readTaken(t, b.b.Do(receive('a', "", 1+g.IntN(10)))) {
				if len(sent[m.group]) == 0 || sent[m.group][0] != m.body {
					t.Fatalf("P16: %q of %q is received, want the first of %q", m.body, m.group, sent[m.group])
				}
				for _, other := range flying {
					if other.group == m.group {
						t.Fatalf("P16: %q of %q is received while %q is in flight", m.body, m.group, other.body)
					}
				}
				flying = append(flying, m)
				received++
			}
			for range g.IntN(len(flying) + 1) {
				k := g.IntN(len(flying))
				b.done(acknowledge(flying[k].handle))
				sent[flying[k].group] = sent[flying[k].group][1:]
				flying = append(flying[:k], flying[k+1:]...)
			}
		}
		b.gets(receive('a', "", 10), gives('a'))
		b.done(goOn(1000))
		b.gets(receive('a', "", 10), gives('a'))
	}
}

// TestSpoiltRequestsDone holds what is done with requests near right ones against the model.
func TestSpoiltRequestsDone(t *testing.T) {
	g := rand.New(rand.NewPCG(5, 6))
	list := samples()
	b, m := begin(t), newModel()
	for step := range 100000 {
		s := []byte(list[g.IntN(len(list))].s)
		for range g.IntN(3) {
			s[g.IntN(min(len(s), 12))] = byte(g.IntN(256))
		}
		b.gets(string(s), m.do(string(s)))
		if step%100 == 0 {
			b, m = begin(t), newModel()
		}
	}
}
