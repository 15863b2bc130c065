package wire

import "wharf/api"

// right tells whether a request is right.
func right(r api.Request) bool {
	if !isOp(r.Op) {
		return false
	}
	rest := r
	rest.Op = 0
	for _, f := range layouts[r.Op-'A'] {
		if !fits(&r, f) {
			return false
		}
		erase(&rest, f)
	}
	return blank(rest)
}

// fits tells whether a field that the Op has is within its bounds.
func fits(r *api.Request, f field) bool {
	if f == deadField && r.Dead == '-' {
		return true
	}
	n := measure(r, f)
	if n < rows[f].least || n > rows[f].most {
		return false
	}
	switch f {
	case deadField:
		return r.Dead != r.Queue
	case dedupField:
		return r.Dedup == "" || r.Dedup[0] != 0
	case batchField:
		return allShort(r.Batch)
	default:
		return true
	}
}

// measure tells what a field's bounds are held against.
func measure(r *api.Request, f field) int {
	switch rows[f].shape {
	case letter:
		return int(*letterOf(r, f))
	case text:
		return len(*textOf(r, f))
	case texts:
		return len(r.Batch)
	default:
		return *numberOf(r, f)
	}
}

// allShort tells whether each string of a list can stand as a text.
func allShort(list []string) bool {
	for _, s := range list {
		if len(s) > api.MaxText {
			return false
		}
	}
	return true
}

// erase makes a field 0 or empty.
func erase(r *api.Request, f field) {
	switch rows[f].shape {
	case letter:
		*letterOf(r, f) = 0
	case text:
		*textOf(r, f) = ""
	case texts:
		r.Batch = nil
	default:
		*numberOf(r, f) = 0
	}
}

// blank tells whether a request is without anything.
func blank(r api.Request) bool {
	letters := r.Op | r.Queue | r.Dead
	numbers := r.Visible | r.Window | r.Receives | r.Quota | r.Max | r.Ticks
	noText := r.Group == "" && r.Dedup == "" && r.Body == "" && r.Attempt == "" && r.Handle == ""
	return letters == 0 && numbers == 0 && noText && len(r.Batch) == 0
}
