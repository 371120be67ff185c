package mod

import (
	"math"
	"math/big"
	"slices"
	"testing"
)

// far are numbers at the ends of int, and some that would be others if they were cut to fewer bits.
var far = []int{
	math.MinInt, math.MinInt + 1, math.MinInt + 7, math.MinInt + 8, -1<<32 - 1, -1 << 32, -1<<31 - 1, -1 << 31,
	-257, -256, -129, -128, 127, 128, 255, 256, 1<<31 - 1, 1 << 31, 1<<32 - 1, 1 << 32, 1<<32 + 1,
	math.MaxInt - 8, math.MaxInt - 7, math.MaxInt - 1, math.MaxInt,
}

// near are the numbers about 0, and far.
func near() []int {
	var list []int
	for n := -20; n <= 20; n++ {
		list = append(list, n)
	}
	return append(list, far...)
}

// wide is x as a number of any width, and of it op y modulo 8, never below 0.
func wide(op func(z, x, y *big.Int) *big.Int, x, y int) int {
	z := op(new(big.Int), big.NewInt(int64(x)), big.NewInt(int64(y)))
	return int(z.Mod(z, big.NewInt(8)).Int64())
}

// isIn is In in a second way: it steps from number to number.
func isIn(x, from, n int) bool {
	at := wide((*big.Int).Add, from, 0)
	for range min(n, 8) {
		if at == wide((*big.Int).Add, x, 0) {
			return true
		}
		at = []int{1, 2, 3, 4, 5, 6, 7, 0}[at]
	}
	return false
}

func TestAddByHand(t *testing.T) {
	for _, w := range [][3]int{
		{0, 0, 0}, {0, 1, 1}, {6, 1, 7}, {7, 1, 0}, {1, 7, 0}, {7, 7, 6}, {4, 4, 0}, {3, 8, 3}, {3, 9, 4}, {3, 80, 3},
		{0, -1, 7}, {0, -7, 1}, {0, -8, 0}, {0, -9, 7}, {5, -5, 0}, {5, -6, 7}, {-1, 0, 7}, {-1, -1, 6}, {-8, -8, 0}, {-1, 1, 0},
		{8, 0, 0}, {9, 0, 1}, {100, 3, 7},
		{math.MaxInt, 0, 7}, {math.MaxInt, 1, 0}, {math.MaxInt, math.MaxInt, 6},
		{math.MinInt, 0, 0}, {math.MinInt, -1, 7}, {math.MinInt, math.MinInt, 0}, {math.MaxInt, math.MinInt, 7},
	} {
		if got := Add(w[0], w[1]); got != w[2] {
			t.Errorf("P12.1: Add(%d, %d): %d, not %d", w[0], w[1], got, w[2])
		}
	}
}

func TestDiffByHand(t *testing.T) {
	for _, w := range [][3]int{
		{0, 0, 0}, {1, 0, 1}, {7, 0, 7}, {8, 0, 0}, {0, 1, 7}, {0, 7, 1}, {0, 8, 0}, {2, 6, 4}, {6, 2, 4}, {1, 6, 3}, {6, 1, 5}, {7, 7, 0},
		{-1, 0, 7}, {0, -1, 1}, {-1, -1, 0}, {-3, 4, 1}, {4, -3, 7}, {-9, 0, 7}, {0, -9, 1}, {100, 1, 3},
		{math.MaxInt, 0, 7}, {0, math.MaxInt, 1}, {math.MaxInt, -1, 0}, {math.MaxInt, math.MaxInt, 0},
		{math.MinInt, 0, 0}, {0, math.MinInt, 0}, {math.MinInt, 1, 7}, {math.MinInt, math.MaxInt, 1}, {math.MaxInt, math.MinInt, 7},
	} {
		if got := Diff(w[0], w[1]); got != w[2] {
			t.Errorf("P12.1: Diff(%d, %d): %d, not %d", w[0], w[1], got, w[2])
		}
	}
}

func TestInByHand(t *testing.T) {
	for _, w := range []struct {
		x, from, n int
		want       bool
	}{
		{0, 0, 0, false}, {0, 0, 1, true}, {1, 0, 1, false}, {1, 0, 2, true}, {7, 0, 7, false}, {7, 0, 8, true},
		{3, 5, 6, false}, {3, 5, 7, true}, {5, 5, 1, true}, {4, 5, 7, false}, {4, 5, 8, true}, {4, 5, 9, true},
		{0, 7, 1, false}, {0, 7, 2, true}, {8, 0, 1, true}, {0, 8, 1, true}, {-1, 7, 1, true}, {7, -1, 1, true}, {-1, 0, 7, false},
		{0, 0, -1, false}, {0, 0, -7, false}, {0, 0, -8, false}, {0, 0, math.MinInt, false}, {5, 6, math.MinInt, false},
		{5, 6, math.MaxInt, true}, {5, 6, 1 << 32, true}, {5, 6, -1 << 32, false}, {5, 6, 256, true},
		{math.MaxInt, math.MinInt, 7, false}, {math.MaxInt, math.MinInt, 8, true}, {math.MinInt, math.MaxInt, 1, false}, {math.MinInt, math.MaxInt, 2, true},
	} {
		if got := In(w.x, w.from, w.n); got != w.want {
			t.Errorf("P12.1: In(%d, %d, %d): %t", w.x, w.from, w.n, got)
		}
	}
}

// TestAddAndDiffInASecondWay: with sums that are wider than int.
func TestAddAndDiffInASecondWay(t *testing.T) {
	for _, a := range near() {
		for _, b := range near() {
			if got, want := Add(a, b), wide((*big.Int).Add, a, b); got != want {
				t.Errorf("P12.1: Add(%d, %d): %d, not %d", a, b, got, want)
			}
			if got, want := Diff(a, b), wide((*big.Int).Sub, a, b); got != want {
				t.Errorf("P12.1: Diff(%d, %d): %d, not %d", a, b, got, want)
			}
		}
	}
}

func TestInInASecondWay(t *testing.T) {
	for _, x := range near() {
		for _, from := range near() {
			for _, n := range near() {
				if got := In(x, from, n); got != isIn(x, from, n) {
					t.Errorf("P12.1: In(%d, %d, %d): %t", x, from, n, got)
				}
			}
		}
	}
}

// TestInIsWhatAddTells: the numbers that are in are from and 0, from and 1, and so on, and no others.
func TestInIsWhatAddTells(t *testing.T) {
	for _, from := range near() {
		for n := -2; n <= 10; n++ {
			var told []int
			for i := range min(n, 8) {
				told = append(told, Add(from, i))
			}
			for x := range 8 {
				if In(x, from, n) != slices.Contains(told, x) {
					t.Errorf("P12.1: In(%d, %d, %d): %t", x, from, n, In(x, from, n))
				}
			}
		}
	}
}

func TestDiffIsWhatAddTakesBack(t *testing.T) {
	for _, a := range near() {
		for _, b := range near() {
			if got := Add(b, Diff(a, b)); got != Add(a, 0) {
				t.Errorf("P12.1: Add(%d, Diff(%d, %d)): %d", b, a, b, got)
			}
			if got := Diff(Add(a, b), b); got != Diff(a, 0) {
				t.Errorf("P12.1: Diff(Add(%d, %d), %d): %d", a, b, b, got)
			}
		}
	}
}
