// Package code writes numbers and texts as bytes, and reads them back out of bytes that may be any.
package code

// sumSize is how many bytes a sum takes.
const sumSize = 4

// steps has what four bits do to a CRC-32 (its polynomial bit by bit backwards: edb88320).
var steps = [16]uint32{
	0x00000000, 0x1db71064, 0x3b6e20c8, 0x26d930ac,
	0x76dc4190, 0x6b6b51f4, 0x4db26158, 0x5005713c,
	0xedb88320, 0xf00f9344, 0xd6d6a3e8, 0xcb61b38c,
	0x9b64c2b0, 0x86d3d2d4, 0xa00ae278, 0xbdbdf21c,
}

// Sum is the CRC-32 of bytes: it is another one whenever a single bit is.
func Sum(b []byte) uint32 {
	c := ^uint32(0)
	for _, x := range b {
		c ^= uint32(x)
		c = c>>4 ^ steps[c&15]
		c = c>>4 ^ steps[c&15]
	}
	return ^c
}

// Seal puts the sum of bytes behind them.
func Seal(b []byte) []byte { return PutWord(b, Sum(b)) }

// Sealed is how many bytes n bytes are when they are sealed.
func Sealed(n int) int { return n + sumSize }

// Unseal gives the bytes ahead of their sum, if it is theirs.
func Unseal(b []byte) ([]byte, bool) {
	at := len(b) - sumSize
	if at < 0 {
		return nil, false
	}
	r := NewReader(b[at:])
	if r.Word() != Sum(b[:at]) {
		return nil, false
	}
	return b[:at], true
}

// PutByte writes a number of 8 bits behind b.
func PutByte(b []byte, n uint8) []byte { return append(b, n) }

// PutWord writes a number of 32 bits behind b, its lowest byte first.
func PutWord(b []byte, n uint32) []byte {
	return append(b, byte(n), byte(n>>8), byte(n>>16), byte(n>>24))
}

// PutLong writes a number of 64 bits behind b, its lowest byte first.
func PutLong(b []byte, n uint64) []byte {
	return PutWord(PutWord(b, uint32(n)), uint32(n>>32))
}

// PutText writes a text of at most 255 bytes behind b, ahead of it how many they are.
func PutText(b []byte, s string) []byte {
	return append(PutByte(b, uint8(len(s))), s...)
}
