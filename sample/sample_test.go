package sample

import (
	"bytes"
	"slices"
	"testing"

	"glowworm/nick"
)

func TestMixed(t *testing.T) {
	for n := range 50 {
		b := Mixed(n, 7)
		if len(b) != n || !bytes.Equal(b, Mixed(n, 7)) {
			t.Errorf("Mixed(%d): %x", n, b)
		}
	}
	if bytes.Equal(Mixed(20, 1), Mixed(20, 2)) {
		t.Error("Mixed of two seeds is the same")
	}
}

func TestEach(t *testing.T) {
	got := slices.Collect(Each("ab", 2))
	slices.Sort(got)
	if !slices.Equal(got, []string{"", "a", "aa", "ab", "b", "ba", "bb"}) {
		t.Errorf("Each: %q", got)
	}
	n := 0
	for range Each("\xff\x00g", 5) {
		n++
	}
	if n != 1+3+9+27+81+243 {
		t.Errorf("Each: %d", n)
	}
}

func TestEachEndsWhenNoMoreIsWanted(t *testing.T) {
	n := 0
	for s := range Each("ab", 5) {
		if n++; s == "aaba" {
			break
		}
	}
	if n != 12 {
		t.Errorf("Each: %d", n)
	}
}

func TestWrong(t *testing.T) {
	low, high := 0, 0
	for _, n := range Wrong() {
		switch {
		case n < 0:
			low++
		case n > 7:
			high++
		default:
			t.Errorf("Wrong: %d", n)
		}
	}
	if low == 0 || high == 0 {
		t.Errorf("Wrong: %d below 0, %d above 7", low, high)
	}
}

func TestNames(t *testing.T) {
	for _, s := range Names() {
		if !nick.May(s) {
			t.Errorf("Names: %q", s)
		}
	}
	for _, s := range Poor() {
		if nick.May(s) {
			t.Errorf("Poor: %q", s)
		}
	}
}
