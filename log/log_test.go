package log

import (
	"fmt"
	"maps"
	"math"
	"slices"
	"strings"
	"testing"
	"unsafe"

	"glowworm/api"
	"glowworm/sample"
	"glowworm/xid"
)

// second is Log in a second way: it keeps all that may be and was heard, and looks through it anew.
type second struct {
	me    uint32
	heard []api.Xid
}

// noted is the first ones of sixteen numbers, in their order.
func (s *second) noted() []api.Xid {
	var firsts []api.Xid
	numbers := map[uint32]int{s.me: 1}
	for _, x := range s.heard {
		if numbers[x.From]++; numbers[x.From] == 1 && len(firsts) < 16 {
			firsts = append(firsts, x)
		}
	}
	return firsts
}

// clashes says whether x is another one's than that of noted, or mine.
func (s *second) clashes(noted []api.Xid, x api.Xid) bool {
	if x.From == s.me {
		return true
	}
	for _, n := range noted {
		if n.From == x.From {
			return n.Nick != x.Nick || n.Slot != x.Slot
		}
	}
	return false
}

func (s *second) add(x api.Xid) bool {
	if !xid.May(x) {
		return false
	}
	s.heard = append(s.heard, x)
	noted := s.noted()
	is := func(n api.Xid) bool { return n.From == x.From }
	return !s.clashes(noted, x) && slices.ContainsFunc(noted, is)
}

func (s *second) all() []api.Device {
	var ds []api.Device
	for _, n := range s.noted() {
		ds = append(ds, api.Device{Id: n.From, Nick: n.Nick})
	}
	return ds
}

// clash asks of each that was heard: what was noted when it came is noted still.
func (s *second) clash() []uint32 {
	numbers, noted := map[uint32]int{}, s.noted()
	for _, x := range s.heard {
		if s.clashes(noted, x) {
			numbers[x.From]++
		}
	}
	return slices.Sorted(maps.Keys(numbers))
}

// pair is a Log, and what is to be the same.
type pair struct {
	l *Log
	s second
}

func newPair(me uint32) *pair { return &pair{New(me), second{me: me}} }

// add has x heard; what is told is what Add is to tell, too.
func (p *pair) add(t *testing.T, x api.Xid) bool {
	t.Helper()
	got, want := p.l.Add(x), p.s.add(x)
	if got != want {
		t.Fatalf("P16.1: me %x: Add of %+v: %t", p.s.me, x, got)
	}
	p.check(t)
	return got
}

// check looks at what is asked without a change.
func (p *pair) check(t *testing.T) {
	t.Helper()
	all, clash := p.s.all(), p.s.clash()
	for range 2 {
		if !slices.Equal(p.l.All(), all) || !slices.Equal(p.l.Clash(), clash) || p.l.Len() != len(all) {
			t.Fatalf("P16.1: me %x: All %v, Clash %x, Len %d, not %v, %x", p.s.me, p.l.All(), p.l.Clash(), p.l.Len(), all, clash)
		}
	}
}

// said is what number id says in such a slot of 6.
func said(id uint32, slot int, nick string) api.Xid {
	return api.Xid{From: id, Slot: slot, Slots: 6, Nick: nick}
}

// full is a pair of me 100 that has noted the numbers 16 to 1, each in slot 2 as "n" and its number.
func full(t *testing.T) *pair {
	t.Helper()
	p := newPair(100)
	for id := uint32(16); id > 0; id-- {
		if !p.add(t, said(id, 2, fmt.Sprint("n", id))) {
			t.Fatalf("P16.1: Add of the number %d is false", id)
		}
	}
	return p
}

func checkTold(t *testing.T, l *Log, all string, clash string) {
	t.Helper()
	if got := fmt.Sprint(l.All()); got != all {
		t.Errorf("P16.1: All: %s, not %s", got, all)
	}
	if got := fmt.Sprint(l.Clash()); got != clash {
		t.Errorf("P16.1: Clash: %s, not %s", got, clash)
	}
}

func TestNew(t *testing.T) {
	for _, me := range []uint32{0, 1, 2, 0x80000000, 0xFFFFFFFE, 0xFFFFFFFF} {
		p := newPair(me)
		if p.l == nil {
			t.Fatalf("P16.1: New(%x) is nil", me)
		}
		p.check(t)
		for _, id := range []uint32{0, 1, 2, 0x80000000, 0xFFFFFFFE, 0xFFFFFFFF} {
			p.add(t, said(id, 0, "n"))
		}
	}
}

func TestByHand(t *testing.T) {
	l := New(9)
	for k, w := range []struct {
		x    api.Xid
		want bool
	}{
		{said(7, 0, "g"), true},
		{said(3, -1, "c"), true},
		{said(7, 0, "g"), true},  // once more
		{said(7, 1, "g"), false}, // another Slot
		{said(7, 1, "g"), false}, // that one was not noted
		{said(7, 0, "h"), false}, // another Nick
		{said(7, 0, "g"), true},  // as it was noted
		{said(9, 0, "i"), false}, // me
		{said(5, 0, "g"), true},  // another number with the same Slot and Nick
		{said(0, 0, "g"), false}, // may not be
		{said(5, 6, "g"), false}, // nor that: no clash
		{said(3, 5, "c"), false},
	} {
		if got := l.Add(w.x); got != w.want {
			t.Errorf("P16.1: %d: Add of %+v: %t", k, w.x, got)
		}
	}
	checkTold(t, l, "[{7 g} {3 c} {5 g}]", "[3 7 9]")
	if l.Len() != 3 {
		t.Errorf("P16.1: Len: %d", l.Len())
	}
}

// wrong is such as may not be, one part of each, all of them of number id.
func wrong(id uint32) []api.Xid {
	var xs []api.Xid
	for _, nick := range []string{strings.Repeat("n", 21), "\x00", "a\x7f", "\ufffd", "\xff", "a\xc3", strings.Repeat("n", 1<<16)} {
		xs = append(xs, said(id, 0, nick))
	}
	for _, n := range append([]int{0, 2, 3, 4, 5, 7}, sample.Wrong()...) {
		if n != 8 {
			xs = append(xs, api.Xid{From: id, Slots: n, Nick: "n"})
		}
		if n < -1 || n > 5 {
			xs = append(xs, said(id, n, "n"))
		}
	}
	return append(xs, api.Xid{From: id, Slot: 1, Slots: 1}, api.Xid{From: id, Slot: 8, Slots: 8})
}

// TestWhatMayNotBe: it is neither noted nor a clash, whoever says it.
func TestWhatMayNotBe(t *testing.T) {
	xs := slices.Concat(wrong(1), wrong(2), wrong(3), []api.Xid{{}, said(0, 0, "n"), said(0xFFFFFFFF, 0, "n")})
	for _, x := range xs {
		p := newPair(2)
		p.add(t, said(3, 0, "n"))
		if p.l.Add(x) {
			t.Errorf("P16.1: Add of %+v is true", x)
		}
		checkTold(t, p.l, "[{3 n}]", "[]")
	}
	p := full(t)
	for _, x := range xs {
		p.add(t, x)
	}
	if len(p.l.Clash()) != 0 {
		t.Errorf("P16.1: Clash: %v", p.l.Clash())
	}
}

// TestMeMayNotBe: what no device may say is no clash with me, if that is none either.
func TestMeMayNotBe(t *testing.T) {
	for _, me := range []uint32{0, 0xFFFFFFFF} {
		l := New(me)
		if l.Add(said(me, 0, "n")) || l.Len() != 0 || len(l.Clash()) != 0 {
			t.Errorf("P16.1: New(%x): Len %d, Clash %x", me, l.Len(), l.Clash())
		}
	}
}

// TestLooksAtNoMore: To, Slots and Anew may be others than they were.
func TestLooksAtNoMore(t *testing.T) {
	for _, slot := range []int{-1, 0} {
		p := newPair(9)
		p.add(t, said(4, slot, "n"))
		for _, to := range []uint32{0, 4, 9, 77, 0xFFFFFFFF} {
			for _, slots := range []int{1, 6, 8} {
				for bit := range 2 {
					x := api.Xid{From: 4, To: to, Slot: slot, Slots: slots, Anew: bit == 1, Nick: "n"}
					if !p.add(t, x) {
						t.Errorf("P16.1: Add of %+v is false", x)
					}
				}
			}
		}
		checkTold(t, p.l, "[{4 n}]", "[]")
	}
}

// TestEachIsNoted: whatever its To, Slots, Slot, Anew and Nick are.
func TestEachIsNoted(t *testing.T) {
	for _, nick := range []string{"", " ", "n", "J\u00f6rg", "\U0001F600", strings.Repeat("n", 20)} {
		for _, slots := range []int{1, 6, 8} {
			for slot := -1; slot < slots; slot++ {
				for _, to := range []uint32{0, 4, 9, 0xFFFFFFFF} {
					p := newPair(9)
					x := api.Xid{From: 4, To: to, Slot: slot, Slots: slots, Anew: slot%2 == 0, Nick: nick}
					if !p.add(t, x) {
						t.Errorf("P16.1: Add of %+v is false", x)
					}
					checkTold(t, p.l, "[{4 "+nick+"}]", "[]")
				}
			}
		}
	}
}

// TestEveryPairOfSlotsAndNicks: which two clash.
func TestEveryPairOfSlotsAndNicks(t *testing.T) {
	nicks := []string{"", "n", "N", "nn", "n ", "\u00e4", "a"}
	for a := -1; a < 8; a++ {
		for b := -1; b < 8; b++ {
			for _, m := range nicks {
				for _, n := range nicks {
					p := newPair(9)
					p.add(t, api.Xid{From: 4, Slot: a, Slots: 8, Nick: m})
					same := a == b && m == n
					if got := p.add(t, api.Xid{From: 4, Slot: b, Slots: 8, Nick: n}); got != same || len(p.l.Clash()) == 1 == same {
						t.Errorf("P16.1: slots %d, %d, nicks %q, %q: %t, Clash %v", a, b, m, n, got, p.l.Clash())
					}
				}
			}
		}
	}
}

func TestFull(t *testing.T) {
	p := full(t)
	if p.l.Len() != 16 {
		t.Fatalf("P16.1: Len: %d", p.l.Len())
	}
	for _, id := range []uint32{17, 99, 0x80000000, 0xFFFFFFFE, 17} {
		if p.add(t, said(id, 2, "n17")) {
			t.Errorf("P16.1: Add of a seventeenth one is true")
		}
		// One that is not noted clashes with none.
		if p.add(t, said(id, 3, "m")) || len(p.l.Clash()) != 0 {
			t.Errorf("P16.1: Clash: %v", p.l.Clash())
		}
	}
	for id := range uint32(16) {
		if !p.add(t, said(id+1, 2, fmt.Sprint("n", id+1))) {
			t.Errorf("P16.1: Add of the number %d once more is false", id+1)
		}
	}
	if p.add(t, said(5, 3, "n5")) || p.add(t, said(100, 2, "n")) || p.add(t, said(2, 2, "m")) {
		t.Error("P16.1: Add of a clash is true")
	}
	if got := p.l.Clash(); !slices.Equal(got, []uint32{2, 5, 100}) || p.l.Len() != 16 {
		t.Errorf("P16.1: Clash: %v, Len %d", got, p.l.Len())
	}
}

// TestClashRises: as many as can clash, in whatever order.
func TestClashRises(t *testing.T) {
	for step := uint32(1); step < 17; step++ {
		p := full(t)
		for k := range uint32(3 * 17) {
			id := k*step%17 + 1
			if id == 17 {
				id = 100
			}
			if p.add(t, said(id, 1, "m")) {
				t.Fatalf("P16.1: Add of a clash of %d is true", id)
			}
		}
		if n := len(p.l.Clash()); n != 17 {
			t.Errorf("P16.1: %d clash", n)
		}
	}
}

// TestClashIsOfNumbersWithoutSign: FFFFFFFE is more than 1.
func TestClashIsOfNumbersWithoutSign(t *testing.T) {
	p := newPair(0x80000000)
	for _, id := range []uint32{0xFFFFFFFE, 1, 0x80000000, 0x7FFFFFFF, 256, 255} {
		p.add(t, said(id, 1, "n"))
		p.add(t, said(id, 2, "n"))
	}
	if got := p.l.Clash(); !slices.Equal(got, []uint32{1, 255, 256, 0x7FFFFFFF, 0x80000000, 0xFFFFFFFE}) {
		t.Errorf("P16.1: Clash: %x", got)
	}
}

// TestEveryShortStory: every list of a few.
func TestEveryShortStory(t *testing.T) {
	of := map[rune]api.Xid{
		'a': said(1, 0, "n"),
		'A': said(1, 0, "m"),
		'1': said(1, -1, "n"),
		'b': said(2, 0, "n"),
		'B': said(2, -1, "m"),
		'm': said(9, 0, "n"),
		'x': said(1, 6, "n"),
	}
	for story := range sample.Each("aA1bBmx", 5) {
		p := newPair(9)
		for _, c := range story {
			p.add(t, of[c])
		}
	}
}

func TestLongStories(t *testing.T) {
	for seed := range uint32(100) {
		p := newPair(3)
		b := sample.Mixed(600, seed)
		for len(b) > 0 {
			// Seldom another Slot or Nick, and at times one that may not be.
			x := said(uint32(b[0]%24), int(b[1]/90), "n")
			x.To = uint32(b[2])
			if b[2] < 20 {
				x.Nick = "m"
			}
			if b[2] > 250 {
				x.Slots = 7
			}
			p.add(t, x)
			b = b[3:]
		}
		if p.l.Len() != 16 || len(p.l.Clash()) < 9 {
			t.Errorf("seed %d: Len %d, Clash %v", seed, p.l.Len(), p.l.Clash())
		}
	}
}

// TestManyMore: nothing grows with what is heard beyond what can be noted.
func TestManyMore(t *testing.T) {
	l := New(100)
	for i := range uint32(1 << 17) {
		l.Add(said(i, int(i%6), "n"))
		l.Add(said(i%40, int(i%3), "n"))
	}
	if l.Len() != 16 || len(l.Clash()) != 17 || cap(l.notes) > 64 || cap(l.clash) > 64 {
		t.Errorf("P16.1: Len %d, Clash %v", l.Len(), l.Clash())
	}
}

func TestAnswersAreNewMemory(t *testing.T) {
	p := newPair(9)
	for id := range uint32(5) {
		p.add(t, said(id+1, 0, "n"))
		p.add(t, said(id+1, 1, "n"))
	}
	all, clash := p.l.All(), p.l.Clash()
	other, others := p.l.All(), p.l.Clash()
	// Into their spare room, too.
	all, clash = all[:cap(all)], clash[:cap(clash)]
	for i := range all {
		all[i] = api.Device{Id: 77, Nick: "!"}
	}
	for i := range clash {
		clash[i] = 77
	}
	p.check(t)
	p.add(t, said(6, 0, "n"))
	p.add(t, said(9, 0, "n"))
	if fmt.Sprint(other, others) != "[{1 n} {2 n} {3 n} {4 n} {5 n}] [1 2 3 4 5]" {
		t.Errorf("P0.3: what was told ahead is %v, %v", other, others)
	}
	if all[0].Id != 77 || clash[0] != 77 {
		t.Errorf("P0.3: Add changed what was told: %v, %v", all, clash)
	}
}

func TestNothingIsKept(t *testing.T) {
	b := []byte("name")
	l := New(9)
	x := said(1, 0, unsafe.String(&b[0], len(b)))
	l.Add(x)
	l.Add(x)
	copy(b, "!!!!")
	checkTold(t, l, "[{1 name}]", "[]")
	if !l.Add(said(1, 0, "name")) {
		t.Error("P0.3: the Nick that was noted is another one")
	}
}

func TestOfTwoNeitherTouchesTheOther(t *testing.T) {
	a, b := newPair(9), newPair(9)
	for id := range uint32(3) {
		a.add(t, said(id+1, 0, "n"))
		b.add(t, said(id+1, 1, "m"))
		b.add(t, said(id+2, 1, "n"))
		a.check(t)
	}
	a.add(t, said(9, 0, "n"))
	b.check(t)
}

func TestNil(t *testing.T) {
	var l *Log
	for _, x := range append(wrong(1), api.Xid{}, said(1, 0, "n"), said(0, 0, "n"), said(math.MaxUint32, -1, "")) {
		if l.Add(x) {
			t.Errorf("P16.1: Add of a nil Log of %+v is true", x)
		}
		if l.All() != nil || l.Clash() != nil || l.Len() != 0 {
			t.Errorf("P16.1: a nil Log: %v, %v, %d", l.All(), l.Clash(), l.Len())
		}
	}
}

// TestEmpty: one that New did not make is not promised to work, but nothing panics.
func TestEmpty(t *testing.T) {
	l := new(Log)
	for id := range uint32(20) {
		l.Add(said(id, 0, "n"))
		l.Add(said(id, 1, "n"))
		l.All()
		l.Clash()
		l.Len()
	}
}
