package qos

import (
	"math"
	"slices"
	"strconv"
	"strings"
	"testing"

	"glowworm/api"
	"glowworm/sample"
	"glowworm/tuple"
)

var far = []int{math.MinInt, math.MinInt + 1, -1 << 32, -1<<32 + 1, math.MaxInt32, 1 << 32, 1<<32 + 1, math.MaxInt - 1, math.MaxInt}

// offer is the one of the parts n, Baud to Wait.
func offer(n [5]int) api.Offer {
	return api.Offer{Baud: n[0], Silent: n[1], Win: n[2], Size: n[3], Wait: n[4]}
}

// allowed tells, in a second way, the numbers that part k of an offer may be.
func allowed(k, n int) bool {
	switch k {
	case 0:
		return slices.Contains([]int{1, 3, 5, 7, 9, 11, 13, 15}, n)
	case 1:
		return slices.Contains([]int{1, 3, 5, 7}, n)
	case 2:
		return n > 0 && n < 128
	case 3:
		return n > 0 && n < 16
	default:
		return n > 0 && n < 8
	}
}

// some are offers that may be, at the edges and between them.
func some() [][5]int {
	return [][5]int{{1, 1, 1, 1, 1}, {15, 7, 127, 15, 7}, {9, 5, 64, 8, 4}, {3, 3, 85, 6, 2}}
}

// written is the bytes of the parts n, whatever they are.
func written(n [5]int) string {
	s := ""
	for k, v := range n {
		s += string([]byte{byte(k + 1), 1, byte(v)})
	}
	return s
}

// byte1 is a parameter of one byte.
func byte1(id, n int) api.Tuple { return api.Tuple{Id: id, Value: string([]byte{byte(n)})} }

// five are the parameters of n, in order.
func five(n [5]int) []api.Tuple {
	var ts []api.Tuple
	for k, v := range n {
		ts = append(ts, byte1(k+1, v))
	}
	return ts
}

// bytesOf is ts as bytes.
func bytesOf(t *testing.T, ts []api.Tuple) string {
	t.Helper()
	s, ok := tuple.Put(ts...)
	if !ok {
		t.Fatalf("the test's own parameters may not be: %v", ts)
	}
	return s
}

func checkGot(t *testing.T, s string, want api.Offer) {
	t.Helper()
	if o, ok := Get(s); !ok || o != want {
		t.Errorf("P8.1: Get(%q): %v, %t, not %v", s, o, ok, want)
	}
}

func checkNotGot(t *testing.T, s string) {
	t.Helper()
	if o, ok := Get(s); ok || o != (api.Offer{}) {
		t.Errorf("P8.1: Get(%.100q): %v, %t", s, o, ok)
	}
}

func checkFits(t *testing.T, o api.Offer, want bool) {
	t.Helper()
	if May(o) != want {
		t.Errorf("P8.1: May(%v): %t", o, !want)
	}
	if s, ok := Put(o); ok != want || !ok && s != "" {
		t.Errorf("P8.1: Put(%v): %q, %t", o, s, ok)
	}
}

func TestHighLowOfEverySet(t *testing.T) {
	for n := range 1 << 16 {
		text := strconv.FormatInt(int64(n), 2)
		high, low := len(text)-1, len(text)-1-strings.LastIndexByte(text, '1')
		if n == 0 {
			high, low = -1, -1
		}
		// What stands beyond bit 15 is not looked at.
		for _, more := range []int{0, 1 << 16, 1 << 32, math.MinInt, -1 << 16, math.MaxInt &^ 0xFFFF} {
			if h, l := High(n|more), Low(n|more); h != high || l != low {
				t.Errorf("P8.1: High, Low of %x: %d, %d, not %d, %d", n|more, h, l, high, low)
			}
		}
	}
}

func TestHighLowByHand(t *testing.T) {
	for _, w := range [][3]int{
		{0, -1, -1}, {1, 0, 0}, {2, 1, 1}, {6, 2, 1}, {127, 6, 0}, {0x8000, 15, 15}, {0xC000, 15, 14},
		{0x10000, -1, -1}, {0x10001, 0, 0}, {-1, 15, 0}, {-2, 15, 1}, {-0x8000, 15, 15}, {-0x10000, -1, -1},
		{math.MaxInt, 15, 0}, {math.MinInt, -1, -1}, {math.MinInt + 4, 2, 2},
	} {
		if h, l := High(w[0]), Low(w[0]); h != w[1] || l != w[2] {
			t.Errorf("P8.1: High, Low of %x: %d, %d", w[0], h, l)
		}
	}
}

func TestNumbersOfBits(t *testing.T) {
	for _, w := range []struct {
		name string
		f    func(int) int
		want []int
	}{
		{"Baud", Baud, []int{32, 64, 128, 256}},
		{"Silent", Silent, []int{200, 300, 500}},
		{"Size", Size, []int{8, 16, 32, 64}},
	} {
		for i, n := range w.want {
			if got := w.f(i); got != n {
				t.Errorf("P8.1: %s(%d): %d", w.name, i, got)
			}
		}
		for _, i := range append([]int{-256, -3, -2, -1, len(w.want), len(w.want) + 1, 5, 16, 64, 256}, far...) {
			if got := w.f(i); got != 0 {
				t.Errorf("P8.1: %s(%d): %d", w.name, i, got)
			}
		}
	}
}

func TestTicks(t *testing.T) {
	for baud := 1; baud <= 300; baud++ {
		for bytes := 1; bytes <= 700; bytes++ {
			n := Ticks(bytes, baud)
			if n*baud < bytes || (n-1)*baud >= bytes {
				t.Errorf("P8.1: Ticks(%d, %d): %d", bytes, baud, n)
			}
		}
	}
}

func TestTicksOfNothing(t *testing.T) {
	for _, none := range []int{0, -1, -2, -32, -33, math.MinInt + 1, math.MinInt} {
		for _, n := range []int{-32, -1, 0, 1, 5, 32, math.MaxInt, math.MinInt} {
			if a, b := Ticks(none, n), Ticks(n, none); a != 0 || b != 0 {
				t.Errorf("P8.1: Ticks(%d, %d) and back: %d, %d", none, n, a, b)
			}
		}
	}
}

func TestTicksOfGreatNumbers(t *testing.T) {
	for _, w := range [][3]int{
		{math.MaxInt, 1, math.MaxInt}, {math.MaxInt, 2, 1 << 62}, {math.MaxInt, 32, 1 << 58},
		{math.MaxInt, math.MaxInt, 1}, {math.MaxInt, math.MaxInt - 1, 2}, {math.MaxInt - 1, math.MaxInt, 1},
		{1, math.MaxInt, 1}, {1 << 62, 1 << 61, 2}, {1<<62 + 1, 1 << 61, 3},
	} {
		if got := Ticks(w[0], w[1]); got != w[2] {
			t.Errorf("P0.6: Ticks(%d, %d): %d", w[0], w[1], got)
		}
	}
}

func TestEveryOfferThatMayBe(t *testing.T) {
	for baud := 1; baud <= 15; baud += 2 {
		for silent := 1; silent <= 7; silent += 2 {
			for win := range 127 {
				for size := range 15 {
					for wait := range 7 {
						checkOffer(t, [5]int{baud, silent, win + 1, size + 1, wait + 1})
					}
				}
			}
		}
	}
}

// checkOffer holds Put and Get of an offer that may be against each other and against its bytes.
func checkOffer(t *testing.T, n [5]int) {
	o := offer(n)
	s, ok := Put(o)
	if !ok || s != written(n) || !May(o) {
		t.Errorf("P8.1: Put(%v): %q, %t", o, s, ok)
	}
	if got, ok := Get(s); !ok || got != o {
		t.Errorf("P8.1: Get(%q): %v, %t", s, got, ok)
	}
}

func TestPutByHand(t *testing.T) {
	for _, w := range []struct {
		o api.Offer
		s string
	}{
		{api.Offer{Baud: 1, Silent: 1, Win: 1, Size: 1, Wait: 1}, "\x01\x01\x01\x02\x01\x01\x03\x01\x01\x04\x01\x01\x05\x01\x01"},
		{api.Offer{Baud: 15, Silent: 7, Win: 127, Size: 15, Wait: 7}, "\x01\x01\x0f\x02\x01\x07\x03\x01\x7f\x04\x01\x0f\x05\x01\x07"},
		{api.Offer{Baud: 9, Silent: 5, Win: 64, Size: 8, Wait: 4}, "\x01\x01\x09\x02\x01\x05\x03\x01\x40\x04\x01\x08\x05\x01\x04"},
	} {
		if s, ok := Put(w.o); !ok || s != w.s {
			t.Errorf("P8.1: Put(%v): %q, %t", w.o, s, ok)
		}
		checkGot(t, w.s, w.o)
	}
}

func TestEveryNumberOfAPart(t *testing.T) {
	for _, base := range some() {
		for k := range base {
			n := base
			for n[k] = -600; n[k] <= 600; n[k]++ {
				checkFits(t, offer(n), allowed(k, n[k]))
			}
			for _, n[k] = range far {
				checkFits(t, offer(n), false)
			}
		}
	}
	checkFits(t, api.Offer{}, false)
}

func TestGetOfEveryByteOfAPart(t *testing.T) {
	for _, base := range some() {
		for k := range base {
			n := base
			for n[k] = range 256 {
				if allowed(k, n[k]) {
					checkGot(t, written(n), offer(n))
				} else {
					checkNotGot(t, written(n))
				}
			}
		}
	}
}

func TestGetInEveryOrder(t *testing.T) {
	n := [5]int{3, 5, 9, 6, 2}
	seen := 0
	for s := range sample.Each("\x00\x01\x02\x03\x04", 5) {
		var ts []api.Tuple
		for _, k := range []byte(s) {
			ts = append(ts, byte1(int(k)+1, n[k]))
		}
		text := bytesOf(t, ts)
		if whole(s) {
			seen++
			checkGot(t, text, offer(n))
		} else {
			checkNotGot(t, text)
		}
	}
	if seen != 120 {
		t.Errorf("%d orders, not 120", seen)
	}
}

// whole says whether s has each of the bytes 0 to 4.
func whole(s string) bool {
	for k := range byte(5) {
		if strings.IndexByte(s, k) < 0 {
			return false
		}
	}
	return true
}

func TestGetAmongOthers(t *testing.T) {
	n := [5]int{9, 3, 65, 12, 6}
	for _, id := range []int{0, 6, 7, 128, 254, 255} {
		for _, v := range []string{"", "\x01", "\x00", "\xff\xff", strings.Repeat("o", 40)} {
			for at := range 6 {
				ts := slices.Insert(five(n), at, api.Tuple{Id: id, Value: v})
				checkGot(t, bytesOf(t, ts), offer(n))
				// Another one is not taken for one of the five.
				for k := range 5 {
					less := slices.DeleteFunc(slices.Clone(ts), func(x api.Tuple) bool { return x.Id == k+1 })
					checkNotGot(t, bytesOf(t, less))
				}
			}
		}
	}
}

func TestGetTakesTheFirst(t *testing.T) {
	n, m := [5]int{9, 3, 65, 12, 6}, [5]int{1, 1, 1, 1, 1}
	checkGot(t, written(n)+written(m), offer(n))
	checkGot(t, written(m)+written(n), offer(m))
	for k := range n {
		for _, v := range []string{"", "\x00", "\xff", "\x01", "\x01\x01", strings.Repeat("\x01", 40)} {
			more := api.Tuple{Id: k + 1, Value: v}
			checkGot(t, bytesOf(t, append(five(n), more)), offer(n))
			ahead := bytesOf(t, slices.Insert(five(n), k, more))
			if v != "\x01" {
				checkNotGot(t, ahead)
				continue
			}
			o := n
			o[k] = 1
			checkGot(t, ahead, offer(o))
		}
	}
}

func TestGetOfAPartThatIsNotOneByte(t *testing.T) {
	n := [5]int{1, 1, 1, 1, 1}
	for k := range n {
		for _, length := range []int{0, 2, 3, 4, 40} {
			ts := five(n)
			ts[k].Value = strings.Repeat("\x01", length)
			checkNotGot(t, bytesOf(t, ts))
		}
		checkNotGot(t, bytesOf(t, slices.Delete(five(n), k, k+1)))
	}
}

func TestGetOfWhatIsNotJustParameters(t *testing.T) {
	s := written([5]int{15, 7, 127, 15, 7})
	for i := range s {
		checkNotGot(t, s[:i])
		checkNotGot(t, s[i+1:])
	}
	for b := range 256 {
		checkNotGot(t, s+string([]byte{byte(b)}))
		checkNotGot(t, string([]byte{byte(b)})+s)
	}
	checkNotGot(t, s+"\x09\x02x")
	checkNotGot(t, s+"\x09\x29"+strings.Repeat("o", 41))
	checkGot(t, s+"\x09\x28"+strings.Repeat("o", 40)+"\x09\x05ooooo", offer([5]int{15, 7, 127, 15, 7}))
	checkNotGot(t, s+"\x09\x28"+strings.Repeat("o", 40)+"\x09\x06oooooo")
	checkNotGot(t, strings.Repeat(s, 5))
	checkNotGot(t, strings.Repeat(s, 1<<16))
}

// second is Get in a second way: byte by byte, without package tuple.
func second(s string) (api.Offer, bool) {
	var n [5]int
	var met [5]bool
	if len(s) > 64 {
		return api.Offer{}, false
	}
	for i := 0; i < len(s); {
		if i+1 == len(s) || s[i+1] > 40 || i+2+int(s[i+1]) > len(s) {
			return api.Offer{}, false
		}
		k, length := int(s[i])-1, int(s[i+1])
		if 0 <= k && k < 5 && !met[k] {
			met[k] = true
			if length == 1 {
				n[k] = int(s[i+2])
			}
		}
		i += 2 + length
	}
	for k, v := range n {
		if !allowed(k, v) {
			return api.Offer{}, false
		}
	}
	return offer(n), true
}

func TestGetOfMixedText(t *testing.T) {
	found := 0
	for seed := range uint32(60000) {
		s := mixedText(seed)
		want, is := second(s)
		if !is {
			checkNotGot(t, s)
			continue
		}
		found++
		checkGot(t, s, want)
	}
	if found < 1000 {
		t.Errorf("only %d texts were an offer", found)
	}
}

// mixedText is an offer's bytes, or nearly, with a few of them changed and a few more behind.
func mixedText(seed uint32) string {
	b := []byte(written([5]int{7, 3, 100, 9, 5}))
	for _, x := range sample.Mixed(int(seed%9), seed+1) {
		b = append(b, x%6)
	}
	change := sample.Mixed(6, seed)
	for i := 0; i < int(seed%3)*2; i += 2 {
		b[int(change[i])%len(b)] = change[i+1] % 16
	}
	return string(b)
}

func TestNothingIsKept(t *testing.T) {
	o := api.Offer{Baud: 9, Silent: 5, Win: 64, Size: 8, Wait: 4}
	s, _ := Put(o)
	Put(api.Offer{Baud: 1, Silent: 1, Win: 1, Size: 1, Wait: 1})
	Get("\x01\x01\x01")
	if again, ok := Put(o); !ok || again != s {
		t.Errorf("P0.5: Put again: %q", again)
	}
	checkGot(t, s, o)
}
