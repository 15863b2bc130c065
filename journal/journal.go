// Package journal: what a broker lays down on its disk. It is one file of records: the first has all that the
// broker had when the file was made, and each one behind it a request that was done since.
package journal

import "wharf/disk"

// The files. A new one is made beside the old one and takes its place by a Rename,
// so that there is a whole one at all times.
const (
	file    = "journal"
	newFile = "journal.new"
)

// Room is how many bytes of requests are laid down in a file until a new one is made, but for the last request.
// All that a broker can have fits in some 151000 bytes, so that a file, and a new one beside it,
// stay below api.MaxDisk together.
const Room = 1 << 14

// Journal lays down what a broker does.
type Journal struct {
	disk *disk.Disk
	room int  // how many bytes may be laid behind those of the file; 0, if a new one is to be made first
	down bool // the disk refused a step
}

// Open finds what was laid down on a disk: all that the broker had when the file was made,
// and the requests that were done since. Both are empty, if nothing was. No step is done.
func Open(d *disk.Disk) (j *Journal, whole string, requests []string) {
	j = &Journal{disk: d}
	bytes := d.Read(file)
	records, clean := readRecords(bytes)
	if len(records) == 0 {
		return j, "", nil
	}
	whole, requests = records[0], records[1:]
	// Behind a piece of a record nothing could be found again, so that no more is laid there.
	if clean && !d.Has(newFile) {
		j.room = max(0, Room-(len(bytes)-len(whole)))
	}
	return j, whole, requests
}

// Down tells whether the disk refused a step: from then on nothing is safe.
func (j *Journal) Down() bool { return j.down }

// Lay makes records safe, all of them or, if a step is refused, some first ones or none.
// A new file begins with what whole tells, if there is one to be made.
func (j *Journal) Lay(records []byte, whole func() string) bool {
	if !j.down && len(records) > 0 {
		j.down = !j.makeRoom(len(records), whole) || !j.add(string(records))
	}
	return !j.down
}

// add lays bytes behind those of the file.
func (j *Journal) add(bytes string) bool {
	j.room -= len(bytes)
	return j.disk.Append(file, bytes) && j.disk.Sync(file)
}

// makeRoom makes a new file, if there is no room for so many bytes in the old one.
func (j *Journal) makeRoom(size int, whole func() string) bool {
	if size <= j.room {
		return true
	}
	j.room = Room
	return j.sweep() && j.replace(string(AppendRecord(nil, whole())))
}

// sweep takes away what a crash left of a new file, since bytes would be put behind it.
func (j *Journal) sweep() bool {
	return !j.disk.Has(newFile) || j.disk.Remove(newFile)
}

// replace puts a new file with these bytes in the old one's place. It is safe ahead of that.
func (j *Journal) replace(bytes string) bool {
	return j.disk.Append(newFile, bytes) && j.disk.Sync(newFile) && j.disk.Rename(newFile, file)
}
