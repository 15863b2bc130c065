package queue

import (
	"slices"

	"wharf/api"
	"wharf/wire"
)

// Send takes a message, or tells the number of the one that was sent under the same id (S).
func (q *Queue) Send(now int, r api.Request) ([]byte, func(), api.Errno) {
	if len(r.Body) > api.MaxBody {
		return nil, nil, api.ErrBody
	}
	id := dedupID(r)
	if i := q.findDedup(id); i >= 0 {
		return wire.AppendNumber(nil, q.dedups[i].number, 4), nil, api.OK
	}
	if len(q.messages) >= q.quota {
		return nil, nil, api.ErrQuota
	}
	if q.next > api.MaxSeq {
		return nil, nil, api.ErrSeq
	}
	change := func() {
		if q.window > 0 {
			q.dedups = append(q.dedups, dedup{id: id, number: q.next, until: now + q.window})
		}
		q.put(r.Group, r.Body)
	}
	return wire.AppendNumber(nil, q.next, 4), change, api.OK
}

// dedupID tells the id of what is sent. One that is made begins with 0,
// which no id that is given does.
func dedupID(r api.Request) string {
	if r.Dedup != "" {
		return r.Dedup
	}
	return string(wire.AppendNumber([]byte{0}, int(wire.Check(r.Body)), 4))
}

// findDedup tells where the dedup of an id stands, or -1.
func (q *Queue) findDedup(id string) int {
	return slices.IndexFunc(q.dedups, func(d dedup) bool { return d.id == id })
}
