package xid

import (
	"bytes"
	"fmt"
	"math"
	"slices"
	"strings"
	"testing"
	"unsafe"

	"glowworm/api"
	"glowworm/nick"
	"glowworm/sample"
)

// ids are such as a device may have, then the two that none has.
var ids = []uint32{1, 2, 0xFF, 0x100, 0x01020304, 0x7FFFFFFF, 0x80000000, 0xFF000000, 0x00FFFFFF, 0xFFFFFFFE, 0, 0xFFFFFFFF}

// fine and poor are names that a device may have, and such that none has.
var fine, poor = sample.Names(), sample.Poor()

// far are numbers at the ends of int, and some that would be small if they were cut to fewer bits.
var far = []int{math.MinInt, math.MinInt + 6, -1 << 32, -1<<32 + 1, 1<<32 - 1, 1 << 32, 1<<32 + 1, 1<<32 + 6, 1<<16 + 6, math.MaxInt}

// good is an Xid that may be.
func good() api.Xid {
	return api.Xid{From: 0x01020304, To: 0xFFFEFDFC, Slot: 3, Slots: 6, Anew: true, Nick: "J\u00f6rg"}
}

// fits is May in a second way, of a name that is fine or poor.
func fits(x api.Xid) bool {
	slots := map[int][]int{
		1: {-1, 0},
		6: {-1, 0, 1, 2, 3, 4, 5},
		8: {-1, 0, 1, 2, 3, 4, 5, 6, 7},
	}
	return !slices.Contains([]uint32{0, 0xFFFFFFFF}, x.From) && slices.Contains(slots[x.Slots], x.Slot) && !slices.Contains(poor, x.Nick)
}

// written is the bytes of an Xid of such parts, whatever they are.
func written(from, to uint32, anew, slots, slot byte, name string) string {
	b := []byte{
		byte(from % 256), byte(from / 256 % 256), byte(from / 65536 % 256), byte(from / 16777216),
		byte(to % 256), byte(to / 256 % 256), byte(to / 65536 % 256), byte(to / 16777216),
		anew, slots, slot,
	}
	return string(b) + name
}

// bytesOf is the bytes of x, which may be, in a second way.
func bytesOf(x api.Xid) string {
	anew, slot := byte(0), byte(0xFF)
	if x.Anew {
		anew = 1
	}
	if x.Slot != -1 {
		slot = byte(x.Slot)
	}
	return written(x.From, x.To, anew, byte(x.Slots), slot, x.Nick)
}

func checkMay(t *testing.T, x api.Xid) {
	t.Helper()
	s, ok := Put(x)
	if !fits(x) {
		if May(x) || ok || s != "" {
			t.Errorf("P10.1: %+v: May %t, Put %q, %t", x, May(x), s, ok)
		}
		return
	}
	if !May(x) || !ok || s != bytesOf(x) {
		t.Errorf("P10.1: %+v: May %t, Put %x, %t", x, May(x), s, ok)
	}
	if y, ok := Get(s); !ok || y != x {
		t.Errorf("P10.1: Get of Put of %+v: %+v, %t", x, y, ok)
	}
}

func checkNotGot(t *testing.T, s string) {
	t.Helper()
	if x, ok := Get(s); ok || x != (api.Xid{}) {
		t.Errorf("P10.1: Get(%.100x): %+v, %t", s, x, ok)
	}
}

func TestByHand(t *testing.T) {
	for _, w := range []struct {
		x api.Xid
		s string
	}{
		{api.Xid{From: 1, Slots: 1}, "0100000000000000000100"},
		{api.Xid{From: 1, Slots: 1, Slot: -1}, "01000000000000000001ff"},
		{api.Xid{From: 0x01020304, To: 0xFFFEFDFC, Slot: 5, Slots: 6, Anew: true, Nick: "ab"}, "04030201fcfdfeff0106056162"},
		{api.Xid{From: 0xFFFFFFFE, To: 0xFFFFFFFF, Slot: 7, Slots: 8, Nick: "\u00e4"}, "feffffffffffffff000807c3a4"},
		{api.Xid{From: 0x80000000, To: 0x7FFFFFFF, Slot: -1, Slots: 8, Anew: true, Nick: " "}, "00000080ffffff7f0108ff20"},
	} {
		if s, ok := Put(w.x); !ok || fmt.Sprintf("%x", s) != w.s {
			t.Errorf("P10.1: Put(%+v): %x, %t", w.x, s, ok)
		}
		checkMay(t, w.x)
	}
}

func TestEveryIdAndName(t *testing.T) {
	for _, from := range ids {
		for _, to := range ids {
			for _, name := range slices.Concat(fine, poor) {
				checkMay(t, api.Xid{From: from, To: to, Slot: 2, Slots: 6, Nick: name})
				checkMay(t, api.Xid{From: from, To: to, Slot: -1, Slots: 8, Anew: true, Nick: name})
			}
		}
	}
}

func TestEverySlot(t *testing.T) {
	x := good()
	for x.Slots = -300; x.Slots <= 300; x.Slots++ {
		for x.Slot = -300; x.Slot <= 300; x.Slot++ {
			checkMay(t, x)
		}
	}
}

func TestFarSlots(t *testing.T) {
	for _, n := range far {
		for _, slots := range append([]int{0, 1, 6, 8, 9}, far...) {
			x := good()
			x.Slots, x.Slot = slots, n
			checkMay(t, x)
		}
		for slot := -1; slot < 9; slot++ {
			x := good()
			x.Slots, x.Slot = n, slot
			checkMay(t, x)
		}
	}
}

func TestGetOfEveryAnewSlotsAndSlot(t *testing.T) {
	for anew := range 256 {
		for slots := range 256 {
			for slot := range 256 {
				s := written(7, 0, byte(anew), byte(slots), byte(slot), "n")
				x := api.Xid{From: 7, Slot: slot, Slots: slots, Anew: anew == 1, Nick: "n"}
				if slot == 255 {
					x.Slot = -1
				}
				if got, ok := Get(s); ok != (anew < 2 && fits(x)) || ok && got != x || !ok && got != (api.Xid{}) {
					t.Fatalf("P10.1: Get(%x): %+v, %t", s, got, ok)
				}
			}
		}
	}
}

func TestGetOfIdsAndNames(t *testing.T) {
	for _, from := range ids {
		for _, to := range ids {
			for _, name := range slices.Concat(fine, poor) {
				s := written(from, to, 0, 8, 255, name)
				x := api.Xid{From: from, To: to, Slot: -1, Slots: 8, Nick: name}
				if !fits(x) {
					checkNotGot(t, s)
				} else if got, ok := Get(s); !ok || got != x {
					t.Errorf("P10.1: Get(%x): %+v, %t", s, got, ok)
				}
			}
		}
	}
}

func TestGetOfEveryShortText(t *testing.T) {
	for s := range sample.Each("\x00\x01\xff", 10) {
		checkNotGot(t, s)
	}
	whole, _ := Put(good())
	for n := range 11 {
		checkNotGot(t, whole[:n])
	}
}

func TestGetOfLongTexts(t *testing.T) {
	head := written(7, 0, 0, 8, 255, "")
	for n := range 300 {
		s := head + strings.Repeat("n", n)
		if n > 20 {
			checkNotGot(t, s)
		} else if x, ok := Get(s); !ok || len(x.Nick) != n {
			t.Errorf("P10.1: Get of a name of %d bytes: %+v, %t", n, x, ok)
		}
	}
	checkNotGot(t, head+strings.Repeat("n", 1<<20))
}

func TestGetOfEachByteTurned(t *testing.T) {
	s := bytesOf(good())
	for i := range len(s) {
		for c := range 256 {
			turned := s[:i] + string([]byte{byte(c)}) + s[i+1:]
			x, ok := Get(turned)
			if !ok {
				checkNotGot(t, turned)
				continue
			}
			// Whatever it takes is just what Put writes: no two texts are one Xid.
			if back, ok := Put(x); !ok || back != turned {
				t.Errorf("P10.1: Put of Get(%x): %x, %t", turned, back, ok)
			}
		}
	}
}

func TestGetOfMixedTexts(t *testing.T) {
	taken := 0
	for seed := range uint32(2000) {
		b := sample.Mixed(16, seed)
		copy(b[8:], []byte{byte(seed % 3), byte(seed % 10), b[10] % 16})
		s := string(b)
		x, ok := Get(s)
		if !ok {
			checkNotGot(t, s)
			if seed%3 < 2 && slices.Contains([]uint32{1, 6, 8}, seed%10) && uint32(b[10]) < seed%10 && nick.May(s[11:]) {
				t.Errorf("P10.1: Get(%x) says no", s)
			}
			continue
		}
		taken++
		if back, ok := Put(x); !ok || back != s {
			t.Errorf("P10.1: Put of Get(%x): %x, %t", s, back, ok)
		}
	}
	if taken == 0 {
		t.Error("the test takes no text at all")
	}
}

// second is Fresh in a second way.
func second(draws, not []uint32) (uint32, int) {
	for i := range draws {
		if draws[i] != 0 && draws[i] != 0xFFFFFFFF && !slices.Contains(not, draws[i]) {
			return draws[i], i + 1
		}
	}
	id := uint32(1)
	for slices.Contains(not, id) {
		id++
	}
	return id, len(draws)
}

func checkFresh(t *testing.T, draws, not []uint32) {
	t.Helper()
	id, n := Fresh(draws, not...)
	if want, many := second(draws, not); id != want || n != many {
		t.Errorf("P10.1: Fresh(%x, %x): %x, %d, not %x, %d", draws, not, id, n, want, many)
	}
}

// numbers are such as the bytes of s stand for.
func numbers(s string) []uint32 {
	of := map[byte]uint32{'0': 0, '1': 1, '2': 2, '3': 3, 'l': 0xFFFFFFFE, 'a': 0xFFFFFFFF}
	var all []uint32
	for i := range len(s) {
		all = append(all, of[s[i]])
	}
	return all
}

func TestFreshByHand(t *testing.T) {
	for _, w := range []struct {
		draws, not []uint32
		id         uint32
		n          int
	}{
		{nil, nil, 1, 0},
		{[]uint32{}, []uint32{}, 1, 0},
		{[]uint32{5}, nil, 5, 1},
		{[]uint32{5, 6}, nil, 5, 1},
		{[]uint32{0, 5, 6}, nil, 5, 2},
		{[]uint32{0, 0xFFFFFFFF}, nil, 1, 2},
		{[]uint32{0xFFFFFFFE}, nil, 0xFFFFFFFE, 1},
		{[]uint32{9, 9, 9, 8}, []uint32{9}, 8, 4},
		{[]uint32{9, 9, 9}, []uint32{9, 1}, 2, 3},
		{nil, []uint32{3, 1, 2}, 4, 0},
		{nil, []uint32{2, 2, 1, 1, 4}, 3, 0},
		{nil, []uint32{0, 2, 3}, 1, 0},
		{nil, []uint32{0, 0, 1, 0xFFFFFFFF}, 2, 0},
		{[]uint32{2}, []uint32{2}, 1, 1},
		{[]uint32{0}, []uint32{2, 0, 1}, 3, 1},
	} {
		if id, n := Fresh(w.draws, w.not...); id != w.id || n != w.n {
			t.Errorf("P10.1: Fresh(%x, %x): %x, %d, not %x, %d", w.draws, w.not, id, n, w.id, w.n)
		}
		checkFresh(t, w.draws, w.not)
	}
}

func TestFreshOfEveryShortList(t *testing.T) {
	for draws := range sample.Each("0123la", 3) {
		for not := range sample.Each("0123la", 4) {
			checkFresh(t, numbers(draws), numbers(not))
		}
	}
}

func TestFreshOfLongLists(t *testing.T) {
	for seed := range uint32(200) {
		var draws, not []uint32
		for _, b := range sample.Mixed(int(seed), seed) {
			draws = append(draws, uint32(b/2))
		}
		for _, b := range sample.Mixed(500, seed+7) {
			not = append(not, uint32(b/2))
		}
		checkFresh(t, draws, not)
		checkFresh(t, draws, not[:seed])
		checkFresh(t, nil, not)
	}
}

func TestFreshOfVeryLongLists(t *testing.T) {
	const many = 1 << 18
	var not []uint32
	for n := uint32(many); n > 0; n-- {
		not = append(not, n)
	}
	if id, n := Fresh(not, not...); id != many+1 || n != many {
		t.Errorf("P0.1: Fresh: %d, %d", id, n)
	}
	if id, n := Fresh(append(slices.Clone(not), many+9), not...); id != many+9 || n != many+1 {
		t.Errorf("P0.1: Fresh: %d, %d", id, n)
	}
}

func TestNothingIsChanged(t *testing.T) {
	draws := []uint32{0, 9, 8, 7, 6, 5}
	not := []uint32{9, 3, 1, 7, 2, 8, 4}
	for range 2 {
		if id, n := Fresh(draws[:4], not[:6]...); id != 4 || n != 4 {
			t.Errorf("P0.5: Fresh: %d, %d", id, n)
		}
	}
	if !slices.Equal(draws, []uint32{0, 9, 8, 7, 6, 5}) || !slices.Equal(not, []uint32{9, 3, 1, 7, 2, 8, 4}) {
		t.Errorf("P0.3: Fresh changed %d or %d", draws, not)
	}
}

func TestNothingIsKept(t *testing.T) {
	b := []byte(bytesOf(good()))
	x, ok := Get(unsafe.String(&b[0], len(b)))
	copy(b, bytes.Repeat([]byte{'!'}, len(b)))
	if !ok || x != good() {
		t.Errorf("P0.3: Get: %+v, %t", x, ok)
	}
	name := []byte("J\u00f6rg")
	y := good()
	y.Nick = unsafe.String(&name[0], len(name))
	s, ok := Put(y)
	copy(name, "!!!!!")
	if !ok || s != bytesOf(good()) {
		t.Errorf("P0.3: Put: %q, %t", s, ok)
	}
}
