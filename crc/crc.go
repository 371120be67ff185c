// Package crc: sums of bytes: see doc/01-crc.md.
package crc

const (
	start = 0xFFFF
	turn  = 0x8408
	size  = 2 // bytes of a sum
)

// Of is the sum of b.
func Of(b []byte) uint16 {
	c := uint16(start)
	for _, x := range b {
		c = Add(c, x)
	}
	return ^c
}

// Add is c with b added.
func Add(c uint16, b byte) uint16 {
	c ^= uint16(b)
	for range 8 {
		out := c & 1
		c >>= 1
		if out == 1 {
			c ^= turn
		}
	}
	return c
}

// Put is b with its sum behind it, the lowest byte first.
func Put(b []byte) []byte {
	// An append to b itself would write into the caller's spare room.
	r := make([]byte, len(b), len(b)+size)
	copy(r, b)
	s := Of(b)
	return append(r, byte(s), byte(s>>8))
}

// Fine says whether b is Put of something.
func Fine(b []byte) bool {
	n := len(b) - size
	if n < 0 {
		return false
	}
	s := Of(b[:n])
	return b[n] == byte(s) && b[n+1] == byte(s>>8)
}
