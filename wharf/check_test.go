package wharf_test

import (
	"hash/crc32"
	"strings"
	"testing"

	"wharf/wharf"
)

// plainCheck follows the document's words step by step.
func plainCheck(s string) uint32 {
	h := uint64(1<<32 - 1)
	for _, b := range []byte(s) {
		h ^= uint64(b)
		for range 8 {
			odd := h%2 == 1
			h /= 2
			if odd {
				h ^= 3988292384
			}
		}
	}
	return uint32(h ^ (1<<32 - 1))
}

func wantCheck(t *testing.T, s string, want uint32) {
	t.Helper()
	if got := wharf.Check(s); got != want {
		t.Errorf("P3: Check(%.40q), of %d bytes, is %d, want %d", s, len(s), got, want)
	}
}

func TestCheckAtExamples(t *testing.T) {
	wantCheck(t, "", 0)
	wantCheck(t, "123456789", 3421780262)
	wantCheck(t, "\x00", 3523407757)
	wantCheck(t, "\xff\xff\xff\xff", 4294967295)
	wantCheck(t, "The quick brown fox jumps over the lazy dog", 1095738169)
}

func TestCheckAtAllShortStrings(t *testing.T) {
	for a := range 256 {
		wantCheck(t, string([]byte{byte(a)}), plainCheck(string([]byte{byte(a)})))
		for b := range 256 {
			s := string([]byte{byte(a), byte(b)})
			wantCheck(t, s, plainCheck(s))
		}
	}
}

func TestCheckAtLongStrings(t *testing.T) {
	for _, s := range []string{strings.Repeat("\x00", 1000), strings.Repeat("\xff", 1000), strings.Repeat("wharf\x80é", 5000)} {
		wantCheck(t, s, plainCheck(s))
		wantCheck(t, s, crc32.ChecksumIEEE([]byte(s)))
	}
}

func TestCheckHangsOnItsArgumentAlone(t *testing.T) {
	for _, s := range []string{"", "a", "123456789"} {
		first := wharf.Check(s)
		wharf.Check("something between")
		wantCheck(t, s, first)
	}
}
