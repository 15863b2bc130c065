package wire

import "wharf/api"

// field is a field of a request. Ticks are two, because their bounds differ from Op to Op.
type field int

const (
	queueField field = iota
	deadField
	visibleField
	windowField
	receivesField
	quotaField
	maxField
	setTicksField
	goOnTicksField
	groupField
	dedupField
	bodyField
	attemptField
	handleField
	batchField
)

// shape is how a field stands in the bytes.
type shape int

const (
	letter shape = iota // one byte, as it is
	short               // a number of one byte
	long                // a number of two bytes
	text                // a length and so many bytes
	texts               // a count and so many texts
)

// layouts tells by an Op's letter, from A on, which fields it has, in the order of their bytes.
var layouts = [26][]field{
	'A' - 'A': {handleField},
	'B' - 'A': {batchField},
	'C' - 'A': {queueField, visibleField, windowField, receivesField, deadField, quotaField},
	'E' - 'A': {handleField, setTicksField},
	'P' - 'A': {queueField},
	'R' - 'A': {queueField, attemptField, maxField},
	'S' - 'A': {queueField, groupField, dedupField, bodyField},
	'T' - 'A': {goOnTicksField},
	'V' - 'A': {queueField},
	'X' - 'A': {queueField},
}

// rows tells of each field how it stands in the bytes and its bounds:
// those of its value, or of how long it is, if it is a text or a list.
var rows = [...]struct {
	shape shape
	least int
	most  int
}{
	queueField:     {letter, 'a', 'h'},
	deadField:      {letter, 'a', 'h'},
	visibleField:   {long, 1, api.MaxTicks},
	windowField:    {long, 0, api.MaxTicks},
	receivesField:  {short, 0, 9},
	quotaField:     {short, 1, api.MaxQuota},
	maxField:       {short, 1, api.MaxBatch},
	setTicksField:  {long, 0, api.MaxTicks},
	goOnTicksField: {long, 1, api.MaxTicks},
	groupField:     {text, 1, api.MaxName},
	dedupField:     {text, 0, api.MaxName},
	bodyField:      {text, 0, api.MaxText},
	attemptField:   {text, 0, api.MaxName},
	handleField:    {text, 0, api.MaxText},
	batchField:     {texts, 1, api.MaxBatch},
}

// isOp tells whether a byte is an Op's letter.
func isOp(op byte) bool {
	return op >= 'A' && op <= 'Z' && len(layouts[op-'A']) > 0
}

// letterOf finds a field that is a letter.
func letterOf(r *api.Request, f field) *byte {
	if f == deadField {
		return &r.Dead
	}
	return &r.Queue
}

// numberOf finds a field that is a number.
func numberOf(r *api.Request, f field) *int {
	switch f {
	case visibleField:
		return &r.Visible
	case windowField:
		return &r.Window
	case receivesField:
		return &r.Receives
	case quotaField:
		return &r.Quota
	case maxField:
		return &r.Max
	default:
		return &r.Ticks
	}
}

// textOf finds a field that is a text.
func textOf(r *api.Request, f field) *string {
	switch f {
	case groupField:
		return &r.Group
	case dedupField:
		return &r.Dedup
	case bodyField:
		return &r.Body
	case attemptField:
		return &r.Attempt
	default:
		return &r.Handle
	}
}
