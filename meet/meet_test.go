package meet

import (
	"math"
	"math/big"
	"slices"
	"testing"

	"glowworm/api"
	"glowworm/frame"
	"glowworm/qos"
	"glowworm/sample"
	"glowworm/sir"
)

var (
	one = api.Offer{Baud: 1, Silent: 1, Win: 1, Size: 1, Wait: 1}
	all = api.Offer{Baud: 15, Silent: 7, Win: 127, Size: 15, Wait: 7}
)

// far are numbers at the ends of int, and some that would be small if they were cut to fewer bits.
var far = []int{math.MinInt, math.MinInt + 1, -1 << 32, -1<<32 + 1, 1 << 32, 1<<32 + 1, 1<<32 + 7, math.MaxInt - 1, math.MaxInt}

// offer is the one of the parts n, Baud to Wait.
func offer(n [5]int) api.Offer {
	return api.Offer{Baud: n[0], Silent: n[1], Win: n[2], Size: n[3], Wait: n[4]}
}

// places are those of the lowest count bits of n that are set, rising.
func places(n, count int) []int {
	var all []int
	for i := range count {
		if n/(1<<i)%2 == 1 {
			all = append(all, i)
		}
	}
	return all
}

// second is Deal, of offers that may be, in a second way.
func second(mine, other api.Offer) api.Deal {
	var d api.Deal
	for _, i := range places(mine.Baud&other.Baud, 4) {
		d.Baud = 32 << i
	}
	d.Silent = []int{200, 300, 500}[places(mine.Silent&other.Silent, 3)[0]]
	for _, i := range places(other.Size, 4) {
		d.Size = 8 << i
	}
	for _, i := range places(other.Win, 7) {
		d.Win = i + 1
	}
	// Seven of 5 ticks are the only ones that are too long: 6 of 5 are 30 ticks, 7 of 3 are 21.
	if d.Baud == 32 && d.Size == 64 {
		d.Win = min(d.Win, 6)
	}
	d.Wait = places(other.Wait, 3)[0]
	return d
}

func checkDeal(t *testing.T, mine, other api.Offer, want api.Deal) {
	t.Helper()
	if d, ok := Deal(mine, other); !ok || d != want {
		t.Errorf("P9.1: Deal(%v, %v): %v, %t, not %v", mine, other, d, ok, want)
	}
}

func checkNoDeal(t *testing.T, mine, other api.Offer) {
	t.Helper()
	if d, ok := Deal(mine, other); ok || d != (api.Deal{}) {
		t.Errorf("P9.1: Deal(%v, %v): %v, %t", mine, other, d, ok)
	}
}

// checkBoth holds the deals of two that may be against the second way and against G4.
func checkBoth(t *testing.T, a, b api.Offer) {
	t.Helper()
	checkDeal(t, a, b, second(a, b))
	checkDeal(t, b, a, second(b, a))
	x, _ := Deal(a, b)
	y, _ := Deal(b, a)
	if x.Baud != y.Baud || x.Silent != y.Silent {
		t.Errorf("G4: of %v and %v: %v and %v", a, b, x, y)
	}
	checkOffered(t, x, b)
	checkOffered(t, y, a)
}

// checkOffered says whether other offered what one with the deal d may send at once, and how long it takes.
func checkOffered(t *testing.T, d api.Deal, other api.Offer) {
	t.Helper()
	sizes := map[int]int{8: 1, 16: 2, 32: 4, 64: 8}
	if d.Win < 1 || other.Win < 1<<(d.Win-1) || other.Size&sizes[d.Size] == 0 || other.Wait&(1<<d.Wait) == 0 {
		t.Errorf("G4: %v was not offered by %v", d, other)
	}
	if n := d.Win * Frame(d.Size, d.Baud); n < 1 || n > 30 {
		t.Errorf("G4: %v takes %d ticks", d, n)
	}
}

func TestFrameByHand(t *testing.T) {
	for _, w := range [][3]int{
		{8, 32, 1}, {16, 32, 2}, {32, 32, 3}, {64, 32, 5},
		{8, 64, 1}, {16, 64, 1}, {32, 64, 2}, {64, 64, 3},
		{8, 128, 1}, {16, 128, 1}, {32, 128, 1}, {64, 128, 2},
		{8, 256, 1}, {16, 256, 1}, {32, 256, 1}, {64, 256, 1},
		{0, 1, 12}, {0, 12, 1}, {0, 11, 2}, {1, 1, 14}, {10, 32, 1}, {11, 32, 2}, {64, 1, 140}, {64, 140, 1}, {64, 139, 2},
		{64, 0, 0}, {64, -1, 0}, {64, -32, 0}, {-1, 1, 10}, {-5, 1, 2}, {-6, 1, 0}, {-7, 1, 0}, {-6, 0, 0},
		{1000, 32, 63}, {1 << 40, 1, 1<<41 + 12},
	} {
		if got := Frame(w[0], w[1]); got != w[2] {
			t.Errorf("P9.1: Frame(%d, %d): %d, not %d", w[0], w[1], got, w[2])
		}
	}
}

func TestFrameOfSmallNumbers(t *testing.T) {
	for size := -20; size <= 300; size++ {
		bytes := 2*(size+5) + 2
		for baud := -5; baud <= 300; baud++ {
			n := Frame(size, baud)
			if bytes < 1 || baud < 1 {
				if n != 0 {
					t.Errorf("P9.1: Frame(%d, %d): %d", size, baud, n)
				}
			} else if n*baud < bytes || (n-1)*baud >= bytes {
				t.Errorf("P9.1: Frame(%d, %d): %d", size, baud, n)
			}
		}
	}
}

// exact is Frame in numbers that don't wrap; the greatest int stands for what is none.
func exact(size, baud int) int {
	bytes := new(big.Int).Add(big.NewInt(int64(size)), big.NewInt(5))
	bytes.Mul(bytes, big.NewInt(2)).Add(bytes, big.NewInt(2))
	if bytes.Sign() < 1 || baud < 1 {
		return 0
	}
	n, rest := new(big.Int).QuoRem(bytes, big.NewInt(int64(baud)), new(big.Int))
	if rest.Sign() > 0 {
		n.Add(n, big.NewInt(1))
	}
	if !n.IsInt64() {
		return math.MaxInt
	}
	return int(n.Int64())
}

// great are numbers near the bounds of int and of half of it, and powers of two.
func great() []int {
	var all []int
	for d := range 20 {
		all = append(all, d, -d, math.MaxInt-d, math.MinInt+d, math.MaxInt/2-10+d, math.MinInt/2-10+d, math.MaxInt/3+d)
	}
	for i := 4; i < 63; i++ {
		all = append(all, 1<<i, 1<<i-1, 1<<i+1, -1<<i)
	}
	return all
}

func TestFrameOfGreatNumbers(t *testing.T) {
	for _, size := range great() {
		for _, baud := range great() {
			if got, want := Frame(size, baud), exact(size, baud); got != want {
				t.Errorf("P0.6: Frame(%d, %d): %d, not %d", size, baud, got, want)
			}
		}
	}
}

// mixedFrame is the bytes of a frame with a Body of size bytes, all of them to be escaped.
func mixedFrame(t *testing.T, size int, seed uint32) []byte {
	t.Helper()
	text := sample.Mixed(size+2, seed)
	for i := range text {
		text[i] = "\xc0\xc1\x7d"[text[i]%3]
	}
	// Seat 96 is C0 or, with Cmd, C1 as a byte; Nr 6 is C0.
	f := api.Frame{Addr: api.Address{Seat: 96, Count: int(text[0])}, Cmd: text[1] == 0xc1, Ctl: api.I{Nr: 6}, Body: string(text[2:])}
	b, ok := frame.Put(f)
	if !ok {
		t.Fatalf("the test's own frame may not be: %v", f)
	}
	return b
}

// longest is the longest of many wrapped frames with a Body of size bytes.
func longest(t *testing.T, size, extra int) int {
	t.Helper()
	most := 0
	for seed := range uint32(60000) {
		most = max(most, len(sir.Wrap(mixedFrame(t, size, seed*2654435761), extra)))
	}
	return most
}

func TestFrameIsOfTheLongestWrapped(t *testing.T) {
	for _, size := range []int{8, 16, 32, 64} {
		most := longest(t, size, 0)
		if got := Frame(size, 1); got != most {
			t.Errorf("P9.1: Frame(%d, 1): %d, but %d bytes were wrapped", size, got, most)
		}
		for _, baud := range []int{32, 64, 128, 256} {
			if got := Frame(size, baud); got != qos.Ticks(most, baud) {
				t.Errorf("P9.1: Frame(%d, %d): %d, but %d bytes were wrapped", size, baud, got, most)
			}
		}
	}
}

func TestDealByHand(t *testing.T) {
	a := api.Offer{Baud: 7, Silent: 5, Win: 4, Size: 2, Wait: 2}
	b := api.Offer{Baud: 11, Silent: 7, Win: 66, Size: 6, Wait: 4}
	for _, w := range []struct {
		mine, other api.Offer
		want        api.Deal
	}{
		{one, one, api.Deal{Baud: 32, Silent: 200, Win: 1, Size: 8}},
		{all, all, api.Deal{Baud: 256, Silent: 200, Win: 7, Size: 64}},
		{one, all, api.Deal{Baud: 32, Silent: 200, Win: 6, Size: 64}},
		{all, one, api.Deal{Baud: 32, Silent: 200, Win: 1, Size: 8}},
		{a, b, api.Deal{Baud: 64, Silent: 200, Win: 7, Size: 32, Wait: 2}},
		{b, a, api.Deal{Baud: 64, Silent: 200, Win: 3, Size: 16, Wait: 1}},
		// The 6 is not one of the offered Win: it is below the highest of it.
		{one, api.Offer{Baud: 1, Silent: 1, Win: 64, Size: 8, Wait: 4}, api.Deal{Baud: 32, Silent: 200, Win: 6, Size: 64, Wait: 2}},
		{one, api.Offer{Baud: 1, Silent: 1, Win: 32, Size: 8, Wait: 4}, api.Deal{Baud: 32, Silent: 200, Win: 6, Size: 64, Wait: 2}},
		{one, api.Offer{Baud: 1, Silent: 1, Win: 16, Size: 8, Wait: 6}, api.Deal{Baud: 32, Silent: 200, Win: 5, Size: 64, Wait: 1}},
		{one, api.Offer{Baud: 1, Silent: 1, Win: 64, Size: 4, Wait: 7}, api.Deal{Baud: 32, Silent: 200, Win: 7, Size: 32}},
		// The highest of each is not one that both have.
		{api.Offer{Baud: 13, Silent: 5, Win: 1, Size: 1, Wait: 1}, api.Offer{Baud: 7, Silent: 3, Win: 1, Size: 1, Wait: 1}, api.Deal{Baud: 128, Silent: 200, Win: 1, Size: 8}},
		{api.Offer{Baud: 9, Silent: 1, Win: 1, Size: 1, Wait: 1}, api.Offer{Baud: 7, Silent: 7, Win: 127, Size: 8, Wait: 1}, api.Deal{Baud: 32, Silent: 200, Win: 6, Size: 64}},
	} {
		checkDeal(t, w.mine, w.other, w.want)
	}
}

// each asks f of every offer whose Silent is silent, whose Wait is wait.
func each(silent, wait int, f func(api.Offer)) {
	for baud := 1; baud <= 15; baud += 2 {
		for win := 1; win <= 127; win++ {
			for size := 1; size <= 15; size++ {
				f(offer([5]int{baud, silent, win, size, wait}))
			}
		}
	}
}

func TestDealOfEveryBaudWinSize(t *testing.T) {
	for baud := 1; baud <= 15; baud += 2 {
		for _, mine := range [][5]int{{baud, 1, 1, 1, 1}, {baud, 7, 127, 15, 7}, {baud, 3, 40, 6, 2}} {
			each(5, 6, func(other api.Offer) { checkBoth(t, offer(mine), other) })
		}
	}
}

func TestDealOfEverySilentWait(t *testing.T) {
	for silent := 1; silent <= 7; silent += 2 {
		for wait := 1; wait <= 7; wait++ {
			for _, s := range []int{1, 3, 5, 7} {
				for _, w := range []int{1, 2, 3, 4, 5, 6, 7} {
					checkBoth(t, offer([5]int{9, silent, 66, 5, wait}), offer([5]int{11, s, 12, 10, w}))
				}
			}
		}
	}
}

// TestDealTakesMineOfNothingElse: its own Win, Size and Wait are the other one's business.
func TestDealTakesMineOfNothingElse(t *testing.T) {
	other := offer([5]int{7, 3, 84, 6, 6})
	each(5, 4, func(mine api.Offer) {
		d, _ := Deal(mine, other)
		if d.Win != 7 || d.Size != 32 || d.Wait != 1 {
			t.Errorf("P9.1: Deal(%v, %v): %v", mine, other, d)
		}
	})
}

// allowed says whether part k of an offer may be n.
func allowed(k, n int) bool {
	if k < 2 && n%2 == 0 {
		return false
	}
	return 1 <= n && n <= []int{15, 7, 127, 15, 7}[k]
}

func TestDealOfOffersThatMayNotBe(t *testing.T) {
	for _, base := range [][5]int{{1, 1, 1, 1, 1}, {15, 7, 127, 15, 7}, {9, 5, 64, 8, 4}} {
		for k := range base {
			numbers := slices.Clone(far)
			for n := -300; n <= 300; n++ {
				numbers = append(numbers, n)
			}
			for _, n := range numbers {
				o := base
				o[k] = n
				checkAllowed(t, offer(o), allowed(k, n))
			}
		}
	}
	checkAllowed(t, api.Offer{}, false)
}

// checkAllowed has o dealt with by others, and with itself.
func checkAllowed(t *testing.T, o api.Offer, may bool) {
	t.Helper()
	for _, other := range []api.Offer{one, all, o} {
		if may {
			checkBoth(t, o, other)
		} else {
			checkNoDeal(t, o, other)
			checkNoDeal(t, other, o)
		}
	}
}

func TestG4BurstOfTheLongest(t *testing.T) {
	most := map[int]int{}
	for _, size := range []int{8, 16, 32, 64} {
		most[size] = longest(t, size, 1)
	}
	for _, mine := range []api.Offer{one, all, offer([5]int{3, 1, 1, 1, 1}), offer([5]int{5, 1, 1, 1, 1})} {
		each(1, 1, func(other api.Offer) {
			d, _ := Deal(mine, other)
			if n := qos.Ticks(d.Win*most[d.Size], d.Baud); n > 30 {
				t.Errorf("G4: Deal(%v, %v): %v: %d ticks", mine, other, d, n)
			}
		})
	}
}

func TestWindow(t *testing.T) {
	for _, w := range [][3]int{
		{1, 1, 1}, {7, 1, 7}, {7, 4, 7}, {7, 5, 6}, {6, 5, 6}, {5, 5, 5}, {7, 6, 5}, {7, 10, 3}, {7, 15, 2}, {7, 16, 1},
		{7, 29, 1}, {7, 30, 1}, {2, 30, 1}, {7, 31, 1}, {1, 31, 1}, {2, 1000, 1}, {7, 1000, 1},
	} {
		if got := window(w[0], w[1]); got != w[2] {
			t.Errorf("P9.1: window(%d, %d): %d, not %d", w[0], w[1], got, w[2])
		}
	}
}

func TestNothingIsKept(t *testing.T) {
	want, _ := Deal(one, all)
	Deal(all, one)
	Deal(api.Offer{}, all)
	Frame(math.MaxInt, 1)
	checkDeal(t, one, all, want)
}
