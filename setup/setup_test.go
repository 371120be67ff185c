package setup

import (
	"bytes"
	"fmt"
	"math"
	"slices"
	"strings"
	"testing"
	"unsafe"

	"glowworm/api"
	"glowworm/qos"
	"glowworm/sample"
	"glowworm/tuple"
)

// ids are such as a device may have, then the two that none has.
var ids = []uint32{1, 2, 0xFF, 0x100, 0x01020304, 0x7FFFFFFF, 0x80000000, 0xFF000000, 0x00FFFFFF, 0xFFFFFFFE, 0, 0xFFFFFFFF}

// far are numbers at the ends of int, and some that would be small if they were cut to fewer bits.
var far = []int{math.MinInt, math.MinInt + 6, -1 << 32, -1<<32 + 1, 1<<32 - 1, 1 << 32, 1<<32 + 1, 1<<16 + 6, math.MaxInt - 1, math.MaxInt}

// offers are some that may be, at the edges and between them.
var offers = []api.Offer{
	{Baud: 1, Silent: 1, Win: 1, Size: 1, Wait: 1},
	{Baud: 15, Silent: 7, Win: 127, Size: 15, Wait: 7},
	{Baud: 9, Silent: 5, Win: 64, Size: 8, Wait: 4},
}

// poor are offers that may not be, each by one part.
var poor = []api.Offer{
	{},
	{Baud: 2, Silent: 1, Win: 1, Size: 1, Wait: 1},
	{Baud: 17, Silent: 1, Win: 1, Size: 1, Wait: 1},
	{Baud: 1, Silent: 2, Win: 1, Size: 1, Wait: 1},
	{Baud: 1, Silent: 9, Win: 1, Size: 1, Wait: 1},
	{Baud: 1, Silent: 1, Win: 0, Size: 1, Wait: 1},
	{Baud: 1, Silent: 1, Win: 128, Size: 1, Wait: 1},
	{Baud: 1, Silent: 1, Win: 1, Size: 16, Wait: 1},
	{Baud: 1, Silent: 1, Win: 1, Size: 1, Wait: 8},
	{Baud: 1, Silent: 1, Win: 1, Size: 1, Wait: 257},
	{Baud: -1, Silent: 1, Win: 1, Size: 1, Wait: 1},
}

// good is a Setup that may be.
func good() api.Setup {
	return api.Setup{From: 0x01020304, To: 0xFFFEFDFC, Addr: api.Address{Seat: 3, Count: 99}, Offer: offers[2]}
}

// fits is what Put says of s, in a second way, with an offer of offers or poor.
func fits(s api.Setup) bool {
	none := []uint32{0, 0xFFFFFFFF}
	return !slices.Contains(none, s.From) && !slices.Contains(none, s.To) &&
		slices.Contains([]int{0, 1, 2, 3, 4, 5, 6, 7}, s.Addr.Seat) &&
		s.Addr.Count > -1 && s.Addr.Count < 250 &&
		slices.Contains(offers, s.Offer)
}

// head is the ten bytes of such parts, whatever they are.
func head(from, to uint32, seat, count byte) string {
	return string([]byte{
		byte(from % 256), byte(from / 256 % 256), byte(from / 65536 % 256), byte(from / 16777216),
		byte(to % 256), byte(to / 256 % 256), byte(to / 65536 % 256), byte(to / 16777216),
		seat, count,
	})
}

// five is the bytes of o's parts, each cut to one.
func five(o api.Offer) string {
	return string([]byte{1, 1, byte(o.Baud), 2, 1, byte(o.Silent), 3, 1, byte(o.Win), 4, 1, byte(o.Size), 5, 1, byte(o.Wait)})
}

// bytesOf is the bytes of s, in a second way.
func bytesOf(s api.Setup) string {
	return head(s.From, s.To, byte(s.Addr.Seat), byte(s.Addr.Count)) + five(s.Offer)
}

func checkPut(t *testing.T, s api.Setup) {
	t.Helper()
	text, ok := Put(s)
	if !fits(s) {
		if ok || text != "" {
			t.Errorf("P11.1: Put(%+v): %x, %t", s, text, ok)
		}
		return
	}
	if !ok || text != bytesOf(s) {
		t.Errorf("P11.1: Put(%+v): %x, %t", s, text, ok)
	}
	checkGot(t, text, s)
}

func checkGot(t *testing.T, text string, want api.Setup) {
	t.Helper()
	if s, ok := Get(text); !ok || s != want {
		t.Errorf("P11.1: Get(%x): %+v, %t, not %+v", text, s, ok, want)
	}
}

func checkNotGot(t *testing.T, text string) {
	t.Helper()
	if s, ok := Get(text); ok || s != (api.Setup{}) {
		t.Errorf("P11.1: Get(%.100x): %+v, %t", text, s, ok)
	}
}

func TestByHand(t *testing.T) {
	for _, w := range []struct {
		s    api.Setup
		text string
	}{
		{api.Setup{From: 1, To: 2, Offer: offers[0]}, "01000000020000000000" + "010101020101030101040101050101"},
		{api.Setup{From: 5, To: 5, Addr: api.Address{Seat: 1, Count: 1}, Offer: offers[0]}, "05000000050000000101" + "010101020101030101040101050101"},
		{api.Setup{From: 0x01020304, To: 0xFFFEFDFC, Addr: api.Address{Seat: 7, Count: 249}, Offer: offers[1]}, "04030201fcfdfeff07f9" + "01010f02010703017f04010f050107"},
		{api.Setup{From: 0xFFFFFFFE, To: 0x80000000, Addr: api.Address{Seat: 0, Count: 200}, Offer: offers[2]}, "feffffff0000008000c8" + "010109020105030140040108050104"},
	} {
		if text, ok := Put(w.s); !ok || fmt.Sprintf("%x", text) != w.text {
			t.Errorf("P11.1: Put(%+v): %x, %t", w.s, text, ok)
		}
		checkPut(t, w.s)
	}
}

func TestEveryIdAndOffer(t *testing.T) {
	for _, from := range ids {
		for _, to := range ids {
			for _, o := range slices.Concat(offers, poor) {
				checkPut(t, api.Setup{From: from, To: to, Addr: api.Address{Seat: 2, Count: 5}, Offer: o})
			}
		}
	}
	checkPut(t, api.Setup{})
}

func TestEveryAddress(t *testing.T) {
	s := good()
	for s.Addr.Seat = -300; s.Addr.Seat <= 300; s.Addr.Seat++ {
		for s.Addr.Count = -300; s.Addr.Count <= 300; s.Addr.Count++ {
			checkPut(t, s)
		}
	}
}

func TestFarAddresses(t *testing.T) {
	for _, a := range append([]int{-1, 0, 7, 8, 249, 250}, far...) {
		for _, b := range far {
			for _, addr := range []api.Address{{Seat: a, Count: b}, {Seat: b, Count: a}} {
				s := good()
				s.Addr = addr
				checkPut(t, s)
			}
		}
	}
}

func TestGetOfEverySeatAndCount(t *testing.T) {
	for seat := range 256 {
		for count := range 256 {
			text := head(7, 8, byte(seat), byte(count)) + five(offers[0])
			if seat < 8 && count < 250 {
				checkGot(t, text, api.Setup{From: 7, To: 8, Addr: api.Address{Seat: seat, Count: count}, Offer: offers[0]})
			} else {
				checkNotGot(t, text)
			}
		}
	}
}

func TestGetOfIds(t *testing.T) {
	for _, from := range ids {
		for _, to := range ids {
			s := api.Setup{From: from, To: to, Addr: api.Address{Seat: 7, Count: 249}, Offer: offers[1]}
			if fits(s) {
				checkGot(t, bytesOf(s), s)
			} else {
				checkNotGot(t, bytesOf(s))
			}
		}
	}
}

func TestGetOfEveryByteTurned(t *testing.T) {
	text := bytesOf(good())
	for i := range len(text) {
		for c := range 256 {
			turned := text[:i] + string([]byte{byte(c)}) + text[i+1:]
			s, ok := Get(turned)
			if !ok {
				checkNotGot(t, turned)
				continue
			}
			// Here what it takes is just what Put writes.
			if back, ok := Put(s); !ok || back != turned {
				t.Errorf("P11.1: Put of Get(%x): %x, %t", turned, back, ok)
			}
		}
	}
}

func TestGetOfShortTexts(t *testing.T) {
	for text := range sample.Each("\x00\x01\x05", 10) {
		checkNotGot(t, text)
	}
	whole := bytesOf(good())
	for n := range len(whole) {
		checkNotGot(t, whole[:n])
		checkNotGot(t, whole[n+1:])
	}
}

// TestGetTakesOtherParameters: of ones that are whole, wherever they stand.
func TestGetTakesOtherParameters(t *testing.T) {
	s := good()
	text := bytesOf(s)
	for _, id := range []int{0, 6, 77, 255} {
		for n := range 41 {
			more, _ := tuple.Put(api.Tuple{Id: id, Value: strings.Repeat("v", n)})
			for at := 10; at <= len(text); at += 3 {
				checkGot(t, text[:at]+more+text[at:], s)
			}
			for at := range 10 {
				checkSecond(t, text[:at]+more+text[at:])
			}
			checkNotGot(t, text+more[:len(more)-1])
		}
	}
}

func TestGetTakesEveryOrder(t *testing.T) {
	s := good()
	text := bytesOf(s)
	front, back := text[:10], text[10:]
	for at := 3; at < len(back); at += 3 {
		checkGot(t, front+back[at:]+back[:at], s)
	}
}

func TestGetTakesTheFirstOfAnId(t *testing.T) {
	s := good()
	checkGot(t, bytesOf(s)+five(offers[0]), s)
	checkGot(t, bytesOf(s)+five(poor[1]), s)
	checkNotGot(t, bytesOf(s)[:10]+five(poor[1])+five(offers[0]))
}

func TestGetOfLongTexts(t *testing.T) {
	s := good()
	text := bytesOf(s)
	// 64 bytes of parameters are the most: 15, 42 and 7.
	fill := "\x09\x28" + strings.Repeat("v", 40)
	checkGot(t, text+fill+"\x09\x05vvvvv", s)
	checkNotGot(t, text+fill+"\x09\x06vvvvvv")
	checkNotGot(t, text+text)
	checkNotGot(t, text+strings.Repeat("\x09\x00", 1<<19))
	checkNotGot(t, strings.Repeat("\x01", 1<<20))
}

// second is Get in a second way, of what qos.Get says.
func second(text string) (api.Setup, bool) {
	var n [10]int
	if copied := copyNumbers(&n, text); copied < 10 {
		return api.Setup{}, false
	}
	s := api.Setup{
		From: uint32(n[0] + 256*n[1] + 65536*n[2] + 16777216*n[3]),
		To:   uint32(n[4] + 256*n[5] + 65536*n[6] + 16777216*n[7]),
		Addr: api.Address{Seat: n[8], Count: n[9]},
	}
	o, ok := qos.Get(text[10:])
	// An offer of offers stands for o, which fits knows not.
	s.Offer = offers[0]
	if !ok || !fits(s) {
		return api.Setup{}, false
	}
	s.Offer = o
	return s, true
}

// copyNumbers puts the first bytes of text into n, and says how many it had.
func copyNumbers(n *[10]int, text string) int {
	for i := range n {
		if i == len(text) {
			return i
		}
		n[i] = int(text[i])
	}
	return len(n)
}

func checkSecond(t *testing.T, text string) bool {
	t.Helper()
	want, is := second(text)
	if is {
		checkGot(t, text, want)
	} else {
		checkNotGot(t, text)
	}
	return is
}

func TestGetOfMixedTexts(t *testing.T) {
	taken, refused := 0, 0
	for seed := range uint32(60000) {
		if checkSecond(t, mixedText(seed)) {
			taken++
		} else {
			refused++
		}
	}
	if taken < 1000 || refused < 1000 {
		t.Errorf("%d texts were taken, %d refused", taken, refused)
	}
}

// mixedText is the bytes of a Setup, with a few of them changed and a few more behind.
func mixedText(seed uint32) string {
	b := []byte(bytesOf(good()))
	for _, x := range sample.Mixed(int(seed%7), seed+1) {
		b = append(b, x%6)
	}
	change := sample.Mixed(6, seed)
	for i := 0; i < int(seed%4)*2; i += 2 {
		b[int(change[i])%len(b)] = change[i+1] % 16
	}
	return string(b)
}

func TestNothingIsKept(t *testing.T) {
	b := []byte(bytesOf(good()))
	s, ok := Get(unsafe.String(&b[0], len(b)))
	copy(b, bytes.Repeat([]byte{'!'}, len(b)))
	if !ok || s != good() {
		t.Errorf("P0.3: Get: %+v, %t", s, ok)
	}
	text, _ := Put(good())
	other := good()
	other.From, other.Addr.Seat = 9, 0
	checkPut(t, other)
	checkNotGot(t, "")
	if again, ok := Put(good()); !ok || again != text {
		t.Errorf("P0.5: Put again: %x, %t", again, ok)
	}
	checkGot(t, text, good())
}
