package journal

import "wharf/wire"

// AppendRecord puts a record behind other bytes: how long it is (4 bytes), the check of what it has (4), and that.
func AppendRecord(out []byte, s string) []byte {
	out = wire.AppendNumber(out, len(s), 4)
	out = wire.AppendNumber(out, int(wire.Check(s)), 4)
	return append(out, s...)
}

// readRecord takes a record, if a whole one comes.
func readRecord(in *wire.Reader) (string, bool) {
	size, check := in.Number(4), in.Number(4)
	s := in.Take(size)
	return s, !in.Failed() && int(wire.Check(s)) == check
}

// readRecords tells what the records at the beginning of some bytes have, and whether there is nothing behind them.
func readRecords(bytes string) ([]string, bool) {
	var out []string
	in := wire.NewReader(bytes)
	for in.Left() > 0 {
		s, ok := readRecord(in)
		if !ok {
			return out, false
		}
		out = append(out, s)
	}
	return out, true
}
