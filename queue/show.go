package queue

import (
	"wharf/api"
	"wharf/wire"
)

// Show tells all that the queue has (V).
func (q *Queue) Show(int, api.Request) ([]byte, func(), api.Errno) {
	return q.appendAll(nil), nil, api.OK
}

// appendAll puts all that the queue has behind other bytes.
func (q *Queue) appendAll(out []byte) []byte {
	out = q.appendSettings(out)
	out = wire.AppendNumber(out, q.next, 4)
	out = q.appendMessages(out)
	out = wire.AppendTexts(out, q.ready)
	out = q.appendDedups(out)
	return q.appendAttempts(out)
}

// appendSettings puts what was set when the queue was made behind other bytes.
func (q *Queue) appendSettings(out []byte) []byte {
	out = wire.AppendNumber(out, q.visible, 2)
	out = wire.AppendNumber(out, q.window, 2)
	out = wire.AppendNumber(out, q.receives, 1)
	out = append(out, q.dead)
	return wire.AppendNumber(out, q.quota, 1)
}

// appendMessages puts the messages behind other bytes.
func (q *Queue) appendMessages(out []byte) []byte {
	out = wire.AppendNumber(out, len(q.messages), 1)
	for _, m := range q.messages {
		out = wire.AppendNumber(out, m.number, 4)
		out = wire.AppendText(out, m.group)
		out = wire.AppendText(out, m.body)
		out = wire.AppendNumber(out, m.received, 2)
		out = wire.AppendNumber(out, m.until, 4)
	}
	return out
}

// appendDedups puts the dedups behind other bytes.
func (q *Queue) appendDedups(out []byte) []byte {
	out = wire.AppendNumber(out, len(q.dedups), 1)
	for _, d := range q.dedups {
		out = wire.AppendText(out, d.id)
		out = wire.AppendNumber(out, d.number, 4)
		out = wire.AppendNumber(out, d.until, 4)
	}
	return out
}

// appendAttempts puts the attempts behind other bytes.
func (q *Queue) appendAttempts(out []byte) []byte {
	out = wire.AppendNumber(out, len(q.attempts), 1)
	for _, a := range q.attempts {
		out = wire.AppendText(out, a.id)
		out = wire.AppendNumber(out, a.until, 4)
		out = wire.AppendNumber(out, len(a.answer), 2)
		out = append(out, a.answer...)
	}
	return out
}
