// Package sample makes lists that the project's tests put in.
package sample

// Mixed is n bytes without a plain rule; another seed gives others.
func Mixed(n int, seed uint32) []byte {
	var b []byte
	for range n {
		// Its low bits come again soon: only the highest are taken.
		seed = seed*1664525 + 1013904223
		b = append(b, byte(seed>>24))
	}
	return b
}
