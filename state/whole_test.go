package state_test

import (
	"math/rand/v2"
	"testing"

	"wharf/state"
)

// TestReadWhatWholeTells: a state that is read goes on as the one that was told.
func TestReadWhatWholeTells(t *testing.T) {
	for game := range 20 {
		g := source{rand.New(rand.NewPCG(uint64(game), 3))}
		s := state.New()
		for range 300 {
			s.Do(g.next())
			whole := s.Whole()
			other, ok := state.Read(whole)
			if !ok || all(other) != all(s) || other.Whole() != whole {
				t.Fatalf("Read(%q) makes another state", whole)
			}
			r := g.next()
			if got, want := other.Do(r), s.Do(r); got != want || other.Whole() != s.Whole() {
				t.Fatalf("a state that is read answers %q, want %q", got, want)
			}
		}
	}
}

func TestReadNothing(t *testing.T) {
	s, ok := state.Read(state.New().Whole())
	if !ok || s.Whole() != state.New().Whole() {
		t.Errorf("a new state is not read")
	}
	if s, ok := state.Read(""); s != nil || ok {
		t.Errorf("the empty string is read as a state")
	}
}

// TestReadOther: what Whole did not tell is not read, or makes a state that answers all requests somehow.
func TestReadOther(t *testing.T) {
	for game := range 12 {
		g := source{rand.New(rand.NewPCG(uint64(game), 4))}
		s := state.New()
		for range 100 + 20*game {
			s.Do(g.next())
		}
		list := others(s.Whole())
		read := 0
		for _, other := range list {
			s, ok := state.Read(other)
			if (s != nil) != ok {
				t.Fatalf("Read(%q) is %v, %t", other, s, ok)
			}
			if !ok {
				continue
			}
			read++
			for range 100 {
				s.Do(g.next())
			}
			s.Whole()
		}
		if read == 0 || read == len(list) {
			t.Errorf("of %d strings %d are read", len(list), read)
		}
	}
}

// others makes strings that are nearly the same as one.
func others(whole string) []string {
	var out []string
	for i := range len(whole) {
		out = append(out, whole[:i], whole[i:], whole+whole[i:])
		for _, flip := range []byte{1, 2, 3, 12, 255} {
			b := []byte(whole)
			b[i] ^= flip
			out = append(out, string(b))
		}
	}
	return out
}
