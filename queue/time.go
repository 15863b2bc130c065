package queue

import (
	"cmp"
	"slices"
)

// Forget lets the dedups and attempts go whose time is over.
func (q *Queue) Forget(now int) {
	q.dedups = slices.DeleteFunc(q.dedups, func(d dedup) bool { return d.until <= now })
	q.attempts = slices.DeleteFunc(q.attempts, func(a attempt) bool { return a.until <= now })
}

// Due tells the numbers of the messages in flight whose time is over, in the order in which they come back.
func (q *Queue) Due(now int) []int {
	var due []message
	for _, m := range q.messages {
		if m.until > 0 && m.until <= now {
			due = append(due, m)
		}
	}
	slices.SortFunc(due, func(a, b message) int {
		return cmp.Or(cmp.Compare(a.until, b.until), cmp.Compare(a.number, b.number))
	})
	var numbers []int
	for _, m := range due {
		numbers = append(numbers, m.number)
	}
	return numbers
}
