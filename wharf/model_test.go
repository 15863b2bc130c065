package wharf_test

import (
	"math/rand/v2"
	"slices"
	"sort"
	"strings"
	"testing"

	"wharf/api"
	"wharf/wharf"
)

// model is a broker that follows the document's words one by one, on the parts of a view.
type model struct {
	now    int
	queues map[byte]*view
}

// do does a request on the model, and answers it.
func (m *model) do(s string) string {
	r, e := wharf.Parse(s)
	if e != api.OK {
		return "\x01"
	}
	switch r.Op {
	case 'B':
		return m.batch(r.Batch)
	case 'T':
		return m.goOn(r.Ticks)
	case 'A', 'E':
		return m.handled(r)
	case 'C':
		if m.queues[r.Queue] != nil {
			return "\x03"
		}
		m.queues[r.Queue] = &view{visible: r.Visible, window: r.Window, receives: r.Receives, dead: r.Dead, quota: r.Quota, next: 1}
		return "\x00"
	}
	q := m.queues[r.Queue]
	if q == nil {
		return "\x02"
	}
	switch r.Op {
	case 'X':
		delete(m.queues, r.Queue)
	case 'P':
		q.messages, q.ready, q.attempts = nil, nil, nil
	case 'V':
		return "\x00" + q.bytes()
	case 'S':
		return m.send(q, r)
	case 'R':
		return m.receive(q, r)
	}
	return "\x00"
}

func (m *model) batch(requests []string) string {
	var out []string
	for _, s := range requests {
		if s != "" && strings.Contains("SAE", s[:1]) {
			out = append(out, m.do(s))
		} else {
			out = append(out, "\x01")
		}
	}
	return replies(out...)
}

func (m *model) send(q *view, r api.Request) string {
	if len(r.Body) > 40 {
		return "\x04"
	}
	id := r.Dedup
	if id == "" {
		id = "\x00" + four(int(plainCheck(r.Body)))
	}
	for _, d := range q.dedups {
		if d.id == id {
			return numbered(d.number)
		}
	}
	if len(q.messages) == q.quota {
		return "\x05"
	}
	if q.next > 200 {
		return "\x06"
	}
	if q.window > 0 {
		q.dedups = append(q.dedups, shownDedup{id, q.next, m.now + q.window})
	}
	q.put(r.Group, r.Body)
	return numbered(q.next - 1)
}

// put puts a message into the queue; its group becomes ready, if it was not there.
func (v *view) put(group, body string) {
	if len(v.of(group)) == 0 {
		v.ready = append(v.ready, group)
	}
	v.messages = append(v.messages, shownMessage{number: v.next, group: group, body: body})
	v.next++
}

// of tells the messages of a group.
func (v *view) of(group string) []shownMessage {
	var out []shownMessage
	for _, m := range v.messages {
		if m.group == group {
			out = append(out, m)
		}
	}
	return out
}

// without takes the messages of these numbers away.
func (v *view) without(numbers ...int) {
	var left []shownMessage
	for _, m := range v.messages {
		if !slices.Contains(numbers, m.number) {
			left = append(left, m)
		}
	}
	v.messages = left
}

func (m *model) receive(q *view, r api.Request) string {
	for _, a := range q.attempts {
		if r.Attempt != "" && a.id == r.Attempt {
			return a.answer
		}
	}
	var out []given
	for len(out) < r.Max && len(q.ready) > 0 {
		head := q.of(q.ready[0])[0]
		q.ready = q.ready[1:]
		for i := range q.messages {
			if p := &q.messages[i]; p.number == head.number {
				if p.received < 65535 {
					p.received++
				}
				p.until = m.now + q.visible
				out = append(out, given{p.number, p.received, p.group, p.body})
			}
		}
	}
	answer := gives(r.Queue, out...)
	if r.Attempt != "" && len(out) > 0 {
		q.attempts = append(q.attempts, shownAttempt{r.Attempt, m.now + q.visible, answer})
		if len(q.attempts) > 20 {
			q.attempts = q.attempts[1:]
		}
	}
	return answer
}

func (m *model) handled(r api.Request) string {
	h := r.Handle
	if len(h) != 8 || h[0] != 'H' || h[1] < 'a' || h[1] > 'h' {
		return "\x07"
	}
	q := m.queues[h[1]]
	if q == nil {
		return "\x08"
	}
	for i := range q.messages {
		p := &q.messages[i]
		if p.until == 0 || handle(h[1], p.number, p.received) != h {
			continue
		}
		switch {
		case r.Op == 'A':
			group := p.group
			q.without(p.number)
			if len(q.of(group)) > 0 {
				q.ready = append(q.ready, group)
			}
		case r.Ticks == 0:
			m.comeBack(q, p.number)
		default:
			p.until = m.now + r.Ticks
		}
		return "\x00"
	}
	return "\x08"
}

func (m *model) comeBack(q *view, number int) {
	var back shownMessage
	for i := range q.messages {
		if q.messages[i].number == number {
			q.messages[i].until = 0
			back = q.messages[i]
		}
	}
	group := q.of(back.group)
	dead := m.queues[q.dead]
	if q.receives > 0 && back.received >= q.receives && dead != nil && len(dead.messages)+len(group) <= dead.quota && dead.next+len(group) <= 201 {
		for _, p := range group {
			q.without(p.number)
			dead.put(p.group, p.body)
		}
		return
	}
	q.ready = append(q.ready, back.group)
}

func (m *model) goOn(ticks int) string {
	if m.now+ticks > 60000 {
		return "\x09"
	}
	m.now += ticks
	for letter := byte('a'); letter <= 'h'; letter++ {
		q := m.queues[letter]
		if q == nil {
			continue
		}
		q.dedups = slices.DeleteFunc(q.dedups, func(d shownDedup) bool { return d.until <= m.now })
		q.attempts = slices.DeleteFunc(q.attempts, func(a shownAttempt) bool { return a.until <= m.now })
		var due []shownMessage
		for _, p := range q.messages {
			if p.until != 0 && p.until <= m.now {
				due = append(due, p)
			}
		}
		sort.SliceStable(due, func(i, j int) bool { return due[i].until < due[j].until })
		for _, p := range due {
			m.comeBack(q, p.number)
		}
	}
	return "\x00"
}

// player makes requests that hang on what was answered.
type player struct {
	*rand.Rand
	handles []string
	queues  string // the letters it likes
	mild    bool   // it rarely makes queues
	lasting bool   // it removes none
	hasty   bool   // its time goes on fast
}

func (p *player) letter() byte { return p.queues[p.IntN(len(p.queues))] }

func (p *player) one(list ...string) string { return list[p.IntN(len(list))] }

// handle is one that was given out, or something like one.
func (p *player) handle() string {
	if len(p.handles) == 0 || p.IntN(30) == 0 {
		return p.one("", "H", handle('i', 1, 1), handle(p.letter(), p.IntN(5), p.IntN(3)), strings.Repeat("H", 9))
	}
	n := len(p.handles)
	return p.handles[n-1-min(n-1, p.IntN(12))]
}

// note keeps the handles of an answer to an R.
func (p *player) note(request, answer string) {
	if request == "" || request[0] != 'R' || len(answer) < 2 {
		return
	}
	rest := answer[2:]
	for len(rest) > 8 {
		p.handles = append(p.handles, rest[:8])
		rest = rest[8:]
		rest = rest[1+int(rest[0]):]
		rest = rest[1+int(rest[0]):]
	}
}

func (p *player) create() string {
	q := p.letter()
	dead := byte('-')
	if d := p.letter(); d != q && p.IntN(4) > 0 {
		dead = d
	}
	return create(q, 1+p.IntN(12), p.IntN(10), p.IntN(4), dead, []int{1, 2, 3, 5, 10, 50}[p.IntN(6)])
}

// batch makes a B, mostly of requests that may stand in one.
func (p *player) batch() string {
	list := make([]string, 1+p.IntN(10))
	for i := range list {
		switch s := p.next(); {
		case len(s) < 256 && p.IntN(8) == 0:
			list[i] = s
		case p.IntN(2) == 0:
			list[i] = p.send()
		case p.IntN(2) == 0:
			list[i] = acknowledge(p.handle())
		default:
			list[i] = p.extend()
		}
	}
	return batch(list...)
}

func (p *player) send() string {
	groups := []string{"g", "h", "k", "G", "gg", "\x00", "12345678"}
	body := p.one("", "1", "2", "3", "4", "5", strings.Repeat("b", 40), strings.Repeat("b", 41), numberBytes(p.IntN(65536), 2))
	return send(p.letter(), groups[p.IntN(len(groups))], p.one("", "", "d", "e", numberBytes(1+p.IntN(100), 1)), body)
}

func (p *player) extend() string {
	return extend(p.handle(), []int{0, 0, 1, 2, 5, 15}[p.IntN(6)])
}

// next makes a request.
func (p *player) next() string {
	switch n := p.IntN(100); {
	case n == 0 && !p.lasting:
		return remove(p.letter())
	case n == 1:
		return purge(p.letter())
	case n == 2:
		return p.one("", "x", "T\x00\x00", "Vi", "S", "B\x00", "B\x01\x0aSa\x01g\x00\x04mor")
	case n == 3:
		return show(p.letter())
	case n < 6 || n < 10 && !p.mild:
		return p.create()
	case n < 14:
		return p.batch()
	case n < 40:
		return p.send()
	case n < 65:
		return receive(p.letter(), p.one("", "", "t", "u", numberBytes(p.IntN(100), 1)), []int{1, 1, 2, 3, 10}[p.IntN(5)])
	case n < 80:
		return acknowledge(p.handle())
	case n < 90:
		return p.extend()
	case p.hasty:
		return goOn(1 + p.IntN(1000))
	default:
		return goOn(1 + p.IntN(6))
	}
}

// newModel is a broker without queues.
func newModel() *model { return &model{queues: map[byte]*view{}} }

// compare plays a game of so many steps, and holds every answer, and all queues, against the model's.
func compare(t *testing.T, p *player, steps int) {
	t.Helper()
	b := begin(t)
	m := newModel()
	for range steps {
		s := p.next()
		answer := m.do(s)
		b.gets(s, answer)
		p.note(s, answer)
		for i := range p.queues {
			b.gets(show(p.queues[i]), m.do(show(p.queues[i])))
		}
	}
}

func TestAgainstTheModel(t *testing.T) {
	for game := range 300 {
		p := &player{Rand: rand.New(rand.NewPCG(uint64(game), 7)), queues: []string{"ab", "abc", "abcdefgh", "ha"}[game%4], mild: game%3 > 0}
		compare(t, p, 600)
	}
}

// TestWornQueuesAgainstTheModel plays until numbers and time run out.
func TestWornQueuesAgainstTheModel(t *testing.T) {
	for game := range 20 {
		p := &player{Rand: rand.New(rand.NewPCG(uint64(game), 8)), queues: "ab", mild: true, lasting: true, hasty: game%2 == 0}
		compare(t, p, 4000)
	}
}
