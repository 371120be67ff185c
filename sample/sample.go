// Package sample makes lists that the project's tests put in.
package sample

import (
	"iter"
	"math"
	"strings"
)

// Mixed is n bytes without a plain rule; another seed gives others.
func Mixed(n int, seed uint32) []byte {
	var b []byte
	for range n {
		// Its low bits come again soon: only the highest are taken.
		seed = seed*1664525 + 1013904223
		b = append(b, byte(seed>>24))
	}
	return b
}

// Each is every text of at most most bytes, each of them one of those of some.
func Each(some string, most int) iter.Seq[string] {
	return func(yield func(string) bool) { behind("", some, most, yield) }
}

// behind tells s and what begins with it; false: no more is wanted.
func behind(s, some string, most int, yield func(string) bool) bool {
	if !yield(s) {
		return false
	}
	for i := range len(some) {
		if len(s) < most && !behind(s+some[i:i+1], some, most, yield) {
			return false
		}
	}
	return true
}

// Wrong is numbers that no frame has: some beside 0 to 7, and some that would be one of these if they were cut to fewer bits.
func Wrong() []int {
	return []int{
		math.MinInt, math.MinInt + 1, -1 << 32, -1<<32 + 1, -257, -256, -16, -9, -8, -7, -2, -1,
		8, 9, 10, 15, 16, 255, 256, 257, 1<<32 - 1, 1 << 32, 1<<32 + 1, math.MaxInt - 7, math.MaxInt - 1, math.MaxInt,
	}
}

// Names is names that a device may have.
func Names() []string {
	return []string{"", "n", " ", "J\u00f6rg", "\u4e16\u754c", "\U0001F600", strings.Repeat("n", 20), strings.Repeat("\u00e4", 10)}
}

// Poor is names that none has.
func Poor() []string {
	return []string{
		strings.Repeat("n", 21), strings.Repeat("\u00e4", 11), strings.Repeat("n", 300), "\x00", "a\x1f", "\x7f",
		"\u0080", "\ufffd", "\xff", "a\xc3", "\xc3b", "\xed\xa0\x80",
	}
}
