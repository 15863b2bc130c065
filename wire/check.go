// Package wire turns requests into bytes and bytes into requests, and makes the check of bytes.
package wire

// quads tells what four steps of the check add for each value of the four bits that leave.
// It goes by four bits, not by eight, because a table may hold no more than 200 words.
var quads = [16]uint32{
	0x00000000, 0x1db71064, 0x3b6e20c8, 0x26d930ac,
	0x76dc4190, 0x6b6b51f4, 0x4db26158, 0x5005713c,
	0xedb88320, 0xf00f9344, 0xd6d6a3e8, 0xcb61b38c,
	0x9b64c2b0, 0x86d3d2d4, 0xa00ae278, 0xbdbdf21c,
}

// Check makes the check of some bytes.
func Check(s string) uint32 {
	h := ^uint32(0)
	for i := range len(s) {
		h ^= uint32(s[i])
		h = h>>4 ^ quads[h&15]
		h = h>>4 ^ quads[h&15]
	}
	return ^h
}
