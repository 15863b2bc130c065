package queue_test

import (
	"testing"

	"wharf/queue"
	"wharf/wire"
)

type message struct {
	number int
	group  string
	until  int
}

// bytes tells a queue of these things, as Append would.
func bytes(settings string, next int, messages []message, ready ...string) string {
	out := wire.AppendNumber([]byte(settings), next, 4)
	out = wire.AppendNumber(out, len(messages), 1)
	for _, m := range messages {
		out = wire.AppendNumber(out, m.number, 4)
		out = wire.AppendText(out, m.group)
		out = wire.AppendText(out, "body")
		out = wire.AppendNumber(out, 1, 2)
		out = wire.AppendNumber(out, m.until, 4)
	}
	out = wire.AppendTexts(out, ready)
	out = append(out, "\x01\x02id\x07\x00\x00\x00\x08\x00\x01\x00"...)
	return string(append(out, "\x01\x02id\x09\x00\x00\x00\x03\x00123"...))
}

const right = "a\x05\x00\x06\x00\x02b\x32"

func TestReadQueue(t *testing.T) {
	for _, s := range []string{
		bytes(right, 1, nil),
		bytes(right, 201, nil),
		bytes(right, 2, []message{{1, "g", 0}}, "g"),
		bytes(right, 2, []message{{1, "g", 70000}}),
		bytes(right, 9, []message{{1, "g", 7}, {3, "h", 0}, {4, "g", 0}, {8, "", 0}}, "", "h"),
	} {
		in := wire.NewReader(s + "behind")
		q := queue.Read(in)
		if q == nil || q.Letter() != 'a' || q.Dead() != 'b' {
			t.Fatalf("%q is not read", s)
		}
		if got := string(q.Append([]byte("ahead"))); got != "ahead"+s || in.Take(6) != "behind" {
			t.Errorf("what is read from %q is told as %q", s, got)
		}
	}
}

func TestReadNoQueue(t *testing.T) {
	for _, s := range []string{
		bytes("i"+right[1:], 1, nil),
		bytes(right[:6]+"a"+right[7:], 1, nil),
		bytes(right[:6]+"i"+right[7:], 1, nil),
		bytes(right[:7]+"\x33", 1, nil),
		bytes(right[:7]+"\x00", 1, nil),
		bytes(right, 1, nil, "g"),
		bytes(right, 1, []message{{1, "g", 0}}, "g"),
		bytes(right, 2, []message{{0, "g", 0}}, "g"),
		bytes(right, 9, []message{{1, "g", 0}}, "h"),
		bytes(right, 9, []message{{1, "g", 0}}, "g", "g"),
		bytes(right, 9, []message{{1, "g", 0}, {1, "g", 0}}, "g"),
		bytes(right, 9, []message{{1, "g", 0}, {1, "h", 0}}, "g", "h"),
		bytes(right, 9, []message{{2, "g", 0}, {1, "h", 0}}, "g", "h"),
		bytes(right, 9, []message{{1, "g", 7}}, "g"),
		bytes(right, 9, []message{{1, "g", 7}, {2, "g", 0}}, "g"),
		bytes(right, 9, []message{{1, "g", 0}, {2, "g", 7}}, "g"),
		bytes(right, 9, []message{{1, "g", 7}, {2, "g", 7}}),
	} {
		if queue.Read(wire.NewReader(s)) != nil {
			t.Errorf("%q is read", s)
		}
	}
	s := bytes(right, 9, []message{{1, "g", 7}, {3, "h", 0}}, "h")
	for i := range len(s) {
		if queue.Read(wire.NewReader(s[:i])) != nil {
			t.Errorf("%q, which is cut off, is read", s[:i])
		}
	}
}
