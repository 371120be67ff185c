// Package ident has the numbers that devices go by, and their bytes.
package ident

// Numbers that no device has.
const (
	nobody    = 0
	everybody = 0xFFFFFFFF
)

// Bytes is how many a number takes.
const Bytes = 4

const byteBits = 8

// May says whether a device may have the number n.
func May(n uint32) bool { return n != nobody && n != everybody }

// Add is b with the bytes of n behind it, the lowest first; as append does, it writes into b's spare room.
func Add(b []byte, n uint32) []byte {
	for i := range Bytes {
		b = append(b, byte(n>>(i*byteBits)))
	}
	return b
}

// Leading is the number whose bytes s begins with; the bytes that a short s lacks are 0.
func Leading(s string) uint32 {
	var n uint32
	for i := range min(Bytes, len(s)) {
		n |= uint32(s[i]) << (i * byteBits)
	}
	return n
}
