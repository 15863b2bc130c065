package wharf_test

import (
	"math"
	"strings"
	"testing"

	"wharf/api"
)

const ops = "CXPSRAETVB"

func TestRightRequests(t *testing.T) {
	for _, c := range samples() {
		wantBoth(t, c.r, c.s)
	}
}

func TestDocumentExamples(t *testing.T) {
	wantBoth(t, api.Request{Op: 'C', Queue: 'a', Visible: 30, Window: 5, Receives: 2, Dead: 'b', Quota: 10}, "\x43\x61\x1e\x00\x05\x00\x02\x62\x0a")
	wantBoth(t, api.Request{Op: 'S', Queue: 'a', Group: "g", Body: "hi"}, "\x53\x61\x01\x67\x00\x02\x68\x69")
	for _, s := range []string{"\x54\x00\x00", "\x54\x01", "\x58\x69", ""} {
		wantNotParsed(t, s)
	}
}

func TestBytesCutShort(t *testing.T) {
	for _, c := range samples() {
		for n := range len(c.s) {
			wantNotParsed(t, c.s[:n])
		}
	}
}

func TestBytesTooMany(t *testing.T) {
	for _, c := range samples() {
		for b := range 256 {
			wantNotParsed(t, c.s+string([]byte{byte(b)}))
		}
		wantNotParsed(t, c.s+c.s)
		wantNotParsed(t, "\x00"+c.s)
	}
}

func TestOps(t *testing.T) {
	for b := range 256 {
		op := byte(b)
		if strings.IndexByte(ops, op) >= 0 {
			continue
		}
		wantNotParsed(t, string([]byte{op}))
		wantNotPrinted(t, api.Request{Op: op})
		for _, c := range samples() {
			wantNotParsed(t, string([]byte{op})+c.s[1:])
			c.r.Op = op
			wantNotPrinted(t, c.r)
		}
	}
}

func TestOpsAlone(t *testing.T) {
	for _, op := range []byte(ops) {
		wantNotParsed(t, string([]byte{op}))
		if op != 'A' && op != 'E' { // these may have an empty Handle and no Ticks
			wantNotPrinted(t, api.Request{Op: op})
		}
	}
	wantNotPrinted(t, api.Request{})
}

func TestQueueLetters(t *testing.T) {
	for _, op := range []byte("CXPSRV") {
		c := firstOf(t, op)
		if op == 'C' {
			c.r.Dead = '-'
			c.s = c.s[:7] + "-" + c.s[8:]
		}
		for b := range 256 {
			c.r.Queue = byte(b)
			c.s = c.s[:1] + string([]byte{byte(b)}) + c.s[2:]
			wantRight(t, c, b >= 'a' && b <= 'h')
		}
	}
}

func TestDeadLetters(t *testing.T) {
	for queue := byte('a'); queue <= 'h'; queue++ {
		for b := range 256 {
			c := firstOf(t, 'C')
			c.r.Queue, c.r.Dead = queue, byte(b)
			c.s = "C" + string([]byte{queue}) + c.s[2:7] + string([]byte{byte(b)}) + c.s[8:]
			wantRight(t, c, b == '-' || b >= 'a' && b <= 'h' && byte(b) != queue)
		}
	}
}

// wantRight wants a request and its bytes to be right, or both not to be.
func wantRight(t *testing.T, c sample, right bool) {
	t.Helper()
	if right {
		wantBoth(t, c.r, c.s)
		return
	}
	wantNotParsed(t, c.s)
	wantNotPrinted(t, c.r)
}

// numberCase is a number within a request: what stands ahead of it and behind it, and its bounds.
type numberCase struct {
	name        string
	head        string
	tail        string
	size        int
	least, most int
	of          func(n int) api.Request
}

func numberCases() []numberCase {
	return []numberCase{
		{"Visible", "Ca", "\x05\x00\x02b\x0a", 2, 1, 1000, func(n int) api.Request {
			return api.Request{Op: 'C', Queue: 'a', Visible: n, Window: 5, Receives: 2, Dead: 'b', Quota: 10}
		}},
		{"Window", "Ca\x1e\x00", "\x02b\x0a", 2, 0, 1000, func(n int) api.Request {
			return api.Request{Op: 'C', Queue: 'a', Visible: 30, Window: n, Receives: 2, Dead: 'b', Quota: 10}
		}},
		{"Receives", "Ca\x1e\x00\x05\x00", "b\x0a", 1, 0, 9, func(n int) api.Request {
			return api.Request{Op: 'C', Queue: 'a', Visible: 30, Window: 5, Receives: n, Dead: 'b', Quota: 10}
		}},
		{"Quota", "Ca\x1e\x00\x05\x00\x02b", "", 1, 1, 50, func(n int) api.Request {
			return api.Request{Op: 'C', Queue: 'a', Visible: 30, Window: 5, Receives: 2, Dead: 'b', Quota: n}
		}},
		{"Max", "Rb\x00", "", 1, 1, 10, func(n int) api.Request {
			return api.Request{Op: 'R', Queue: 'b', Max: n}
		}},
		{"Max behind an Attempt", "Rb\x02at", "", 1, 1, 10, func(n int) api.Request {
			return api.Request{Op: 'R', Queue: 'b', Attempt: "at", Max: n}
		}},
		{"Ticks of E", "E\x01h", "", 2, 0, 1000, func(n int) api.Request {
			return api.Request{Op: 'E', Handle: "h", Ticks: n}
		}},
		{"Ticks of T", "T", "", 2, 1, 1000, func(n int) api.Request {
			return api.Request{Op: 'T', Ticks: n}
		}},
	}
}

// numberBytes writes a number, its low byte first.
func numberBytes(n, size int) string {
	if size == 1 {
		return string([]byte{byte(n)})
	}
	return string([]byte{byte(n % 256), byte(n / 256)})
}

func TestNumbersParsed(t *testing.T) {
	for _, c := range numberCases() {
		for n := range 1 << (8 * c.size) {
			s := c.head + numberBytes(n, c.size) + c.tail
			if n >= c.least && n <= c.most {
				wantParsed(t, s, c.of(n))
			} else {
				wantNotParsed(t, s)
			}
		}
	}
}

func TestNumbersPrinted(t *testing.T) {
	for _, c := range numberCases() {
		for n := -70000; n <= 70000; n++ {
			if n >= c.least && n <= c.most {
				wantPrinted(t, c.of(n), c.head+numberBytes(n, c.size)+c.tail)
			} else {
				wantNotPrinted(t, c.of(n))
			}
		}
		for _, n := range []int{math.MinInt, math.MinInt + 5, math.MaxInt, 1<<32 + 5, 1<<40 + 5, -(1 << 32) + 5} {
			wantNotPrinted(t, c.of(n))
		}
	}
}

// textCase is a text within a request: what stands ahead of it and behind it, and how long it may be.
type textCase struct {
	name        string
	head        string
	tail        string
	least, most int
	of          func(s string) api.Request
}

func textCases() []textCase {
	return []textCase{
		{"Group", "Sa", "\x01d\x01b", 1, 8, func(s string) api.Request {
			return api.Request{Op: 'S', Queue: 'a', Group: s, Dedup: "d", Body: "b"}
		}},
		{"Dedup", "Sa\x01g", "\x01b", 0, 8, func(s string) api.Request {
			return api.Request{Op: 'S', Queue: 'a', Group: "g", Dedup: s, Body: "b"}
		}},
		{"Body", "Sa\x01g\x01d", "", 0, 255, func(s string) api.Request {
			return api.Request{Op: 'S', Queue: 'a', Group: "g", Dedup: "d", Body: s}
		}},
		{"Attempt", "Ra", "\x03", 0, 8, func(s string) api.Request {
			return api.Request{Op: 'R', Queue: 'a', Attempt: s, Max: 3}
		}},
		{"Handle of A", "A", "", 0, 255, func(s string) api.Request {
			return api.Request{Op: 'A', Handle: s}
		}},
		{"Handle of E", "E", "\x07\x00", 0, 255, func(s string) api.Request {
			return api.Request{Op: 'E', Handle: s, Ticks: 7}
		}},
		{"first of Batch", "B\x02", "\x01x", 0, 255, func(s string) api.Request {
			return api.Request{Op: 'B', Batch: []string{s, "x"}}
		}},
		{"last of Batch", "B\x02\x01x", "", 0, 255, func(s string) api.Request {
			return api.Request{Op: 'B', Batch: []string{"x", s}}
		}},
	}
}

func TestTextLengths(t *testing.T) {
	for _, c := range textCases() {
		for n := range 256 {
			text := strings.Repeat("\xfe", n)
			s := c.head + string([]byte{byte(n)}) + text + c.tail
			wantRight(t, sample{c.of(text), s}, n >= c.least && n <= c.most)
		}
		for _, n := range []int{256, 257, 260, 264, 512, 65536, 65537, 1 << 20} {
			wantNotPrinted(t, c.of(strings.Repeat("\xfe", n)))
		}
	}
}

func TestTextBytes(t *testing.T) {
	for _, c := range textCases() {
		for b := range 256 {
			text := string([]byte{byte(b), 0})
			right := c.name != "Dedup" || b != 0
			wantRight(t, sample{c.of(text), c.head + "\x02" + text + c.tail}, right)
			wantRight(t, sample{c.of(text[:1]), c.head + "\x01" + text[:1] + c.tail}, right)
		}
	}
}

func TestBatchCounts(t *testing.T) {
	for n := range 256 {
		c := sample{api.Request{Op: 'B', Batch: make([]string, n)}, "B" + string([]byte{byte(n)}) + strings.Repeat("\x00", n)}
		wantRight(t, c, n >= 1 && n <= 10)
	}
	wantNotPrinted(t, api.Request{Op: 'B'})
	for _, n := range []int{256, 257, 266, 65537} {
		wantNotPrinted(t, api.Request{Op: 'B', Batch: make([]string, n)})
	}
}

// fieldNames tells which fields each Op has.
func fieldNames() map[byte]string {
	return map[byte]string{
		'C': "Queue Visible Window Receives Dead Quota", 'X': "Queue", 'P': "Queue", 'V': "Queue",
		'S': "Queue Group Dedup Body", 'R': "Queue Attempt Max", 'A': "Handle", 'E': "Handle Ticks",
		'T': "Ticks", 'B': "Batch",
	}
}

// fieldSetters sets fields to what is right for some Op.
func fieldSetters() map[string]func(r *api.Request) {
	return map[string]func(r *api.Request){
		"Queue":    func(r *api.Request) { r.Queue = 'a' },
		"Dead":     func(r *api.Request) { r.Dead = '-' },
		"Visible":  func(r *api.Request) { r.Visible = 1 },
		"Window":   func(r *api.Request) { r.Window = 1 },
		"Receives": func(r *api.Request) { r.Receives = 1 },
		"Quota":    func(r *api.Request) { r.Quota = 1 },
		"Max":      func(r *api.Request) { r.Max = 1 },
		"Ticks":    func(r *api.Request) { r.Ticks = 1 },
		"Group":    func(r *api.Request) { r.Group = "g" },
		"Dedup":    func(r *api.Request) { r.Dedup = "d" },
		"Body":     func(r *api.Request) { r.Body = "b" },
		"Attempt":  func(r *api.Request) { r.Attempt = "t" },
		"Handle":   func(r *api.Request) { r.Handle = "h" },
		"Batch":    func(r *api.Request) { r.Batch = []string{""} },
	}
}

func TestFieldsThatAnOpDoesNotHave(t *testing.T) {
	for op, names := range fieldNames() {
		for name, set := range fieldSetters() {
			c := firstOf(t, op)
			set(&c.r)
			if !strings.Contains(" "+names+" ", " "+name+" ") {
				wantNotPrinted(t, c.r)
			}
		}
		c := firstOf(t, op)
		for _, n := range []int{-1, math.MinInt, 1 << 16, 1 << 32} {
			r := c.r
			r.Max = n
			wantNotPrinted(t, r)
			r = c.r
			r.Ticks = n
			wantNotPrinted(t, r)
		}
	}
}

func TestEmptyListIsNoField(t *testing.T) {
	for _, c := range samples() {
		if c.r.Op != 'B' {
			c.r.Batch = []string{}
			wantPrinted(t, c.r, c.s)
		}
	}
	wantNotPrinted(t, api.Request{Op: 'B', Batch: []string{}})
}
