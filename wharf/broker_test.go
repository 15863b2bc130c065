package wharf_test

import (
	"testing"

	"wharf/api"
	"wharf/disk"
	"wharf/wharf"
)

// trial is a broker that is tried.
type trial struct {
	*testing.T
	b *wharf.Broker
}

// begin opens a broker on a new disk.
func begin(t *testing.T) trial {
	t.Helper()
	b, e := wharf.Open(disk.New())
	if b == nil || e != api.OK {
		t.Fatalf("P4: Open of a new disk is %v, %d", b, e)
	}
	return trial{t, b}
}

// gets wants a request to be answered so.
func (t trial) gets(request, want string) {
	t.Helper()
	if got := t.b.Do(request); got != want {
		t.Fatalf("Do(%.60q) is %q, want %q", request, got, want)
	}
}

// done wants requests to be answered with OK alone.
func (t trial) done(requests ...string) {
	t.Helper()
	for _, request := range requests {
		t.gets(request, "\x00")
	}
}

// all tells what V says of each queue.
func (t trial) all() [8]string {
	var out [8]string
	for i := range out {
		out[i] = t.b.Do(show('a' + byte(i)))
	}
	return out
}

// refused wants a request to be answered with an error alone, and to change nothing.
func (t trial) refused(request string, want api.Errno) {
	t.Helper()
	ahead := t.all()
	t.gets(request, string([]byte{byte(want)}))
	if t.all() != ahead {
		t.Fatalf("P1: Do(%.60q) is answered with the error %d, and changed something", request, want)
	}
}

// sends sends messages of a group, without a Dedup, and wants numbers from one on.
func (t trial) sends(queue byte, group string, from int, bodies ...string) {
	t.Helper()
	for i, body := range bodies {
		t.gets(send(queue, group, "", body), numbered(from+i))
	}
}

// looks wants a queue to be shown so.
func (t trial) looks(queue byte, want view) {
	t.Helper()
	t.gets(show(queue), "\x00"+want.bytes())
}

func text(s string) string { return numberBytes(len(s), 1) + s }

func four(n int) string { return numberBytes(n%65536, 2) + numberBytes(n/65536, 2) }

func create(queue byte, visible, window, receives int, dead byte, quota int) string {
	return "C" + string([]byte{queue}) + numberBytes(visible, 2) + numberBytes(window, 2) +
		numberBytes(receives, 1) + string([]byte{dead}) + numberBytes(quota, 1)
}

func remove(queue byte) string { return "X" + string([]byte{queue}) }

func purge(queue byte) string { return "P" + string([]byte{queue}) }

func show(queue byte) string { return "V" + string([]byte{queue}) }

func send(queue byte, group, dedup, body string) string {
	return "S" + string([]byte{queue}) + text(group) + text(dedup) + text(body)
}

func receive(queue byte, attempt string, most int) string {
	return "R" + string([]byte{queue}) + text(attempt) + numberBytes(most, 1)
}

func acknowledge(handle string) string { return "A" + text(handle) }

func extend(handle string, ticks int) string { return "E" + text(handle) + numberBytes(ticks, 2) }

func goOn(ticks int) string { return "T" + numberBytes(ticks, 2) }

func batch(requests ...string) string {
	out := "B" + numberBytes(len(requests), 1)
	for _, s := range requests {
		out += text(s)
	}
	return out
}

// replies is the answer to a B.
func replies(answers ...string) string {
	out := "\x00" + numberBytes(len(answers), 1)
	for _, s := range answers {
		out += text(s)
	}
	return out
}

func handle(queue byte, number, received int) string {
	return "H" + string([]byte{queue}) + four(number) + numberBytes(received, 2)
}

// numbered is the answer to an S.
func numbered(number int) string { return "\x00" + four(number) }

// given is a message as an R tells it.
type given struct {
	number, received int
	group, body      string
}

// gives is the answer to an R.
func gives(queue byte, list ...given) string {
	out := "\x00" + numberBytes(len(list), 1)
	for _, g := range list {
		out += handle(queue, g.number, g.received) + text(g.group) + text(g.body)
	}
	return out
}

// view is what V tells of a queue.
type view struct {
	visible, window, receives int
	dead                      byte
	quota, next               int
	messages                  []shownMessage
	ready                     []string
	dedups                    []shownDedup
	attempts                  []shownAttempt
}

type shownMessage struct {
	number      int
	group, body string
	received    int
	until       int
}

type shownDedup struct {
	id            string
	number, until int
}

type shownAttempt struct {
	id     string
	until  int
	answer string // with the error, as gives tells it
}

// bytes tells a view as V does.
func (v view) bytes() string {
	out := numberBytes(v.visible, 2) + numberBytes(v.window, 2) + numberBytes(v.receives, 1) + string([]byte{v.dead}) + numberBytes(v.quota, 1) + four(v.next)
	out += numberBytes(len(v.messages), 1)
	for _, m := range v.messages {
		out += four(m.number) + text(m.group) + text(m.body) + numberBytes(m.received, 2) + four(m.until)
	}
	out += numberBytes(len(v.ready), 1)
	for _, group := range v.ready {
		out += text(group)
	}
	out += numberBytes(len(v.dedups), 1)
	for _, d := range v.dedups {
		out += text(d.id) + four(d.number) + four(d.until)
	}
	out += numberBytes(len(v.attempts), 1)
	for _, a := range v.attempts {
		out += text(a.id) + four(a.until) + numberBytes(len(a.answer)-1, 2) + a.answer[1:]
	}
	return out
}

// made is the dedup id that is made of a body.
func made(body string) string { return "\x00" + four(int(wharf.Check(body))) }
