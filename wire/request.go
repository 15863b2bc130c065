package wire

import "wharf/api"

// Parse reads a request: ErrForm, if the string is not the bytes of a right one.
func Parse(s string) (api.Request, api.Errno) {
	in := NewReader(s)
	r := api.Request{Op: byte(in.Number(1))}
	if !isOp(r.Op) {
		return api.Request{}, api.ErrForm
	}
	for _, f := range layouts[r.Op-'A'] {
		readField(in, &r, f)
	}
	if in.Failed() || in.Left() > 0 || !right(r) {
		return api.Request{}, api.ErrForm
	}
	return r, api.OK
}

// Print writes a request: ErrForm, if it is not right.
func Print(r api.Request) (string, api.Errno) {
	if !right(r) {
		return "", api.ErrForm
	}
	out := []byte{r.Op}
	for _, f := range layouts[r.Op-'A'] {
		out = appendField(out, &r, f)
	}
	return string(out), api.OK
}

// readField takes a field's bytes and sets the field.
func readField(in *Reader, r *api.Request, f field) {
	switch rows[f].shape {
	case letter:
		*letterOf(r, f) = byte(in.Number(1))
	case short:
		*numberOf(r, f) = in.Number(1)
	case long:
		*numberOf(r, f) = in.Number(2)
	case text:
		*textOf(r, f) = in.Text()
	case texts:
		r.Batch = in.Texts()
	}
}

// appendField puts a field's bytes behind others. The field must be within its bounds,
// since a greater number or length would lose its high bytes here.
func appendField(out []byte, r *api.Request, f field) []byte {
	switch rows[f].shape {
	case letter:
		return append(out, *letterOf(r, f))
	case short:
		return AppendNumber(out, *numberOf(r, f), 1)
	case long:
		return AppendNumber(out, *numberOf(r, f), 2)
	case text:
		return AppendText(out, *textOf(r, f))
	default:
		return AppendTexts(out, r.Batch)
	}
}

// AppendNumber puts a number of so many bytes behind others.
func AppendNumber(out []byte, n int, size int) []byte {
	for range size {
		out = append(out, byte(n))
		n >>= 8
	}
	return out
}

// AppendText puts a text behind other bytes.
func AppendText(out []byte, s string) []byte {
	return append(AppendNumber(out, len(s), 1), s...)
}

// AppendTexts puts a count and so many texts behind other bytes.
func AppendTexts(out []byte, list []string) []byte {
	out = AppendNumber(out, len(list), 1)
	for _, s := range list {
		out = AppendText(out, s)
	}
	return out
}
