package reply

import (
	"math"
	"slices"
	"strings"
	"testing"
	"unsafe"

	"glowworm/api"
	"glowworm/sample"
	"glowworm/xid"
)

// rounds are how many slots there may be.
var rounds = []int{1, 6, 8}

// ids are numbers that a device may have.
var ids = []uint32{1, 2, 9, 0xFF, 0x100, 0x01020304, 0x7FFFFFFF, 0x80000000, 0xFFFFFFFE}

// told is an Xid that was heard, and the draws that were there.
type told struct {
	x     api.Xid
	draws []uint32
}

// second is Reply in a second way: it keeps all that was said to it, and looks through it anew.
type second struct {
	me    uint32
	nick  string
	asked []told // from everybody's askers, since a round was ended
	anew  []told // to whoever
}

// id is the number that it has behind the first n of anew, and how many draws the last of them took.
func (s *second) id(n int) (uint32, int) {
	if n == 0 {
		return s.me, 0
	}
	old, _ := s.id(n - 1)
	last := s.anew[n-1]
	if last.x.To != old {
		return old, 0
	}
	for i, d := range last.draws {
		if d != 0 && d != math.MaxUint32 && d != old {
			return d, i + 1
		}
	}
	if old == 1 {
		return 2, len(last.draws)
	}
	return 1, len(last.draws)
}

func (s *second) now() uint32 {
	id, _ := s.id(len(s.anew))
	return id
}

// begin is the place of the Xid that the last round began with.
func (s *second) begin() int {
	i := len(s.asked) - 1
	for i > 0 {
		x, ahead := s.asked[i].x, s.asked[i-1].x
		if x.Slot == 0 || x.From != ahead.From || x.Slots != ahead.Slots {
			break
		}
		i--
	}
	return i
}

func (s *second) hear(x api.Xid, draws []uint32) (api.Xid, int, bool) {
	now := told{x, slices.Clone(draws)}
	if !xid.May(x) {
		return api.Xid{}, 0, false
	}
	if x.Anew {
		s.anew = append(s.anew, now)
		_, n := s.id(len(s.anew))
		return api.Xid{}, n, false
	}
	if x.To != 0 {
		return api.Xid{}, 0, false
	}
	if x.Slot == -1 {
		s.asked = nil
		return api.Xid{}, 0, false
	}
	s.asked = append(s.asked, now)
	at := s.begin()
	first, mine, used := s.asked[at], uint32(0), 0
	if len(first.draws) > 0 {
		mine = first.draws[0] % uint32(x.Slots)
		if at == len(s.asked)-1 {
			used = 1
		}
	}
	if int(mine) < first.x.Slot {
		mine = uint32(first.x.Slot)
	}
	if x.Slot != int(mine) {
		return api.Xid{}, used, false
	}
	return api.Xid{From: s.now(), To: x.From, Slot: x.Slot, Slots: x.Slots, Nick: s.nick}, used, true
}

// pair is a Reply, and what is to be the same.
type pair struct {
	r *Reply
	s second
}

func newPair(t *testing.T, me uint32, nick string) *pair {
	t.Helper()
	p := &pair{New(me, nick), second{me: me, nick: nick}}
	if p.r == nil {
		t.Fatalf("P18.1: New(%x, %q) is nil", me, nick)
	}
	p.check(t)
	return p
}

func (p *pair) hear(t *testing.T, x api.Xid, draws ...uint32) (api.Xid, int, bool) {
	t.Helper()
	// The list's spare room is not to be written into, either.
	room := append(slices.Clone(draws), 77, 78)
	y, n, says := p.r.Hear(x, room[:len(draws)])
	if !slices.Equal(room, append(slices.Clone(draws), 77, 78)) {
		t.Fatalf("P0.3: Hear of %+v makes the draws %x be %x", x, draws, room)
	}
	want, used, is := p.s.hear(x, draws)
	if y != want || n != used || says != is {
		t.Fatalf("P18.1: me %x: Hear of %+v, %x: %+v, %d, %t, not %+v, %d, %t", p.s.me, x, draws, y, n, says, want, used, is)
	}
	if says && !xid.May(y) {
		t.Fatalf("P18.1: what is said may not be: %+v", y)
	}
	p.check(t)
	return y, n, says
}

// check looks at what is asked without a change.
func (p *pair) check(t *testing.T) {
	t.Helper()
	for range 2 {
		if p.r.Id() != p.s.now() || p.r.Nick() != p.s.nick {
			t.Fatalf("P18.1: me %x: Id %x, Nick %q, not %x, %q", p.s.me, p.r.Id(), p.r.Nick(), p.s.now(), p.s.nick)
		}
	}
}

// ask is what number id asks everybody.
func ask(id uint32, slots, slot int) api.Xid {
	return api.Xid{From: id, Slot: slot, Slots: slots, Nick: "n"}
}

// anew is what number id says to number to, that it take another number.
func anew(id, to uint32) api.Xid {
	return api.Xid{From: id, To: to, Slots: 6, Anew: true}
}

func TestNew(t *testing.T) {
	for _, me := range append([]uint32{0, 0xFFFFFFFF}, ids...) {
		for _, nick := range slices.Concat(sample.Names(), sample.Poor()) {
			may := slices.Contains(ids, me) && slices.Contains(sample.Names(), nick)
			r := New(me, nick)
			if (r != nil) != may {
				t.Errorf("P18.1: New(%x, %q): nil: %t", me, nick, r == nil)
			}
			if may && (r.Id() != me || r.Nick() != nick) {
				t.Errorf("P18.1: New(%x, %q): Id %x, Nick %q", me, nick, r.Id(), r.Nick())
			}
		}
	}
	if New(1, strings.Repeat("n", 1<<24)) != nil {
		t.Error("P18.1: New of a long name is not nil")
	}
}

// TestByHand: two rounds, call by call.
func TestByHand(t *testing.T) {
	r := New(9, "J\u00f6rg")
	for i, w := range []struct {
		x     api.Xid
		draws []uint32
		want  api.Xid
		used  int
		says  bool
	}{
		{x: ask(4, 6, 0), draws: []uint32{8, 1}, used: 1},
		{x: ask(4, 6, 1), draws: []uint32{1}},
		{x: ask(4, 6, 2), draws: []uint32{1}, want: api.Xid{From: 9, To: 4, Slot: 2, Slots: 6, Nick: "J\u00f6rg"}, says: true},
		{x: ask(4, 6, 3)},
		{x: ask(4, 6, 4)},
		{x: ask(4, 6, 5)},
		{x: ask(4, 6, -1), draws: []uint32{1}},
		{x: ask(4, 6, 3), draws: []uint32{1}, want: api.Xid{From: 9, To: 4, Slot: 3, Slots: 6, Nick: "J\u00f6rg"}, used: 1, says: true},
		{x: anew(5, 9), draws: []uint32{9, 12, 13}, used: 2},
		{x: ask(4, 6, 3), draws: []uint32{1}, want: api.Xid{From: 12, To: 4, Slot: 3, Slots: 6, Nick: "J\u00f6rg"}, says: true},
	} {
		if y, n, says := r.Hear(w.x, w.draws); y != w.want || n != w.used || says != w.says {
			t.Errorf("P18.1: %d: Hear of %+v: %+v, %d, %t", i, w.x, y, n, says)
		}
	}
	if r.Id() != 12 {
		t.Errorf("P18.1: Id %d", r.Id())
	}
}

// draws are first draws at the edges of each count of slots and of 32 bits.
func draws() []uint32 {
	ds := []uint32{1<<16 + 5, 1<<31 - 1, 1 << 31, 1<<31 + 3, 1<<32 - 8, 1<<32 - 7, 1<<32 - 2, 1<<32 - 1}
	for d := range uint32(50) {
		ds = append(ds, d)
	}
	return ds
}

// TestEveryRound: whichever Slot it is heard from on, it answers once, not ahead of that Slot.
func TestEveryRound(t *testing.T) {
	for _, slots := range rounds {
		for from := range slots {
			for _, d := range draws() {
				for _, id := range []uint32{1, 4, 0xFFFFFFFE} {
					p := newPair(t, 9, "n")
					var said []int
					for slot := from; slot < slots; slot++ {
						y, n, says := p.hear(t, ask(id, slots, slot), d, d+1)
						if (n == 1) != (slot == from) || says && y.To != id {
							t.Errorf("P18.1: of %d slots from %d on, Slot %d: %d, %+v", slots, from, slot, n, y)
						}
						if says {
							said = append(said, y.Slot)
						}
					}
					if want := max(int(d%uint32(slots)), from); !slices.Equal(said, []int{want}) {
						t.Errorf("P18.1: of %d slots from %d on, with %d: said in %v, not %d", slots, from, d, said, want)
					}
				}
			}
		}
	}
}

// TestWithoutDraws: the slot is the first that is left, and none is used.
func TestWithoutDraws(t *testing.T) {
	for _, slots := range rounds {
		for from := range slots {
			p := newPair(t, 9, "n")
			if _, n, says := p.hear(t, ask(4, slots, from)); n != 0 || !says {
				t.Errorf("P18.1: of %d slots, Slot %d without draws: %d, %t", slots, from, n, says)
			}
			for slot := from + 1; slot < slots; slot++ {
				if _, n, says := p.hear(t, ask(4, slots, slot), 7); n != 0 || says {
					t.Errorf("P18.1: of %d slots, Slot %d behind: %d, %t", slots, slot, n, says)
				}
			}
		}
	}
}

// TestSlotsOutOfOrder: a round goes on with any Slot but 0, and that slot is answered each time.
func TestSlotsOutOfOrder(t *testing.T) {
	p := newPair(t, 9, "n")
	p.hear(t, ask(4, 8, 2), 5)
	for _, slot := range []int{7, 5, 1, 5, 5, 2, 6, 5} {
		if _, n, says := p.hear(t, ask(4, 8, slot), 3); n != 0 || says != (slot == 5) {
			t.Errorf("P18.1: Slot %d: %d, %t", slot, n, says)
		}
	}
	for d := range uint32(8) {
		if _, n, says := p.hear(t, ask(4, 8, 0), d); n != 1 || says != (d == 0) {
			t.Errorf("P18.1: Slot 0 once more, with %d: %d, %t", d, n, says)
		}
		if _, n, says := p.hear(t, ask(4, 8, 5), d); n != 0 || says != (d == 5) {
			t.Errorf("P18.1: Slot 5, with %d: %d, %t", d, n, says)
		}
	}
}

// TestWhatBeginsARound: a Slot 0, another asker, other Slots; not another name.
func TestWhatBeginsARound(t *testing.T) {
	named := ask(4, 6, 3)
	named.Nick = "other"
	for _, w := range []struct {
		x    api.Xid
		used int
	}{
		{ask(4, 6, 0), 1}, {ask(4, 6, 1), 0}, {ask(4, 6, 5), 0}, {named, 0}, {ask(5, 6, 1), 1}, {ask(5, 6, 0), 1},
		{ask(4, 8, 1), 1}, {ask(4, 8, 0), 1}, {ask(4, 1, 0), 1}, {ask(5, 8, 1), 1}, {ask(9, 6, 3), 1},
	} {
		p := newPair(t, 9, "n")
		p.hear(t, ask(4, 6, 0), 3)
		if _, n, _ := p.hear(t, w.x, 4); n != w.used {
			t.Errorf("P18.1: Hear of %+v uses %d", w.x, n)
		}
		// The first one's round is none any more, if another began.
		if _, n, _ := p.hear(t, ask(4, 6, 3), 4); w.x.From == 4 && w.x.Slots == 6 && n != 0 || (w.x.From != 4 || w.x.Slots != 6) && n != 1 {
			t.Errorf("P18.1: behind %+v the first one's Slot 3 uses %d", w.x, n)
		}
	}
}

// TestWhoAsksWithMyNumber: it is answered as another one is.
func TestWhoAsksWithMyNumber(t *testing.T) {
	p := newPair(t, 9, "n")
	if y, n, says := p.hear(t, ask(9, 6, 2), 0); n != 1 || !says || y.From != 9 || y.To != 9 {
		t.Errorf("P18.1: %+v, %d, %t", y, n, says)
	}
}

// TestLastOneEnds: whoever says it, and whatever draws there are.
func TestLastOneEnds(t *testing.T) {
	for _, by := range []uint32{4, 5, 9} {
		for _, slots := range rounds {
			for _, ds := range [][]uint32{nil, {2}, {2, 3}} {
				p := newPair(t, 9, "n")
				p.hear(t, ask(4, 6, 0), 3)
				p.hear(t, ask(by, slots, -1), ds...)
				p.hear(t, ask(by, slots, -1), ds...)
				if y, n, says := p.hear(t, ask(4, 6, 3), 5); n != 1 || says {
					t.Errorf("P18.1: behind the last one of %d, %d slots: %+v, %d, %t", by, slots, y, n, says)
				}
				if _, _, says := p.hear(t, ask(4, 6, 5), 3); !says {
					t.Errorf("P18.1: behind the last one of %d, %d slots the slot is not 5", by, slots)
				}
			}
		}
	}
}

// TestLastOneBeginsNone: the Slot behind it begins a round, as if nothing had been said.
func TestLastOneBeginsNone(t *testing.T) {
	for _, slots := range rounds {
		for slot := range slots {
			p := newPair(t, 9, "n")
			p.hear(t, ask(4, slots, -1), 7)
			if _, n, says := p.hear(t, ask(4, slots, slot), 0); n != 1 || !says {
				t.Errorf("P18.1: of %d slots, Slot %d behind the last one: %d, %t", slots, slot, n, says)
			}
		}
	}
}

// aside are Xids that neither begin a round nor end one, whatever their Slot.
func aside() []api.Xid {
	xs := []api.Xid{{}, ask(0, 6, 0), ask(0xFFFFFFFF, 6, 0), ask(0, 6, -1), ask(4, 0, -1), ask(4, 7, -1), ask(4, 1, 1)}
	for _, nick := range sample.Poor() {
		xs = append(xs, api.Xid{From: 4, Slots: 6, Nick: nick}, api.Xid{From: 4, Slots: 6, Slot: -1, Nick: nick})
	}
	for _, n := range sample.Wrong() {
		if n != 8 {
			xs = append(xs, ask(4, n, 0), ask(4, n, -1))
		}
		if n != -1 {
			xs = append(xs, ask(4, 8, n), ask(4, 6, n))
		}
	}
	for _, to := range []uint32{1, 4, 9, 100, 0xFFFFFFFF} {
		for slot := -1; slot < 6; slot++ {
			xs = append(xs, api.Xid{From: 4, To: to, Slot: slot, Slots: 6}, api.Xid{From: 5, To: to, Slot: slot, Slots: 6})
		}
	}
	return xs
}

func TestAside(t *testing.T) {
	p := newPair(t, 9, "n")
	for _, x := range aside() {
		if _, n, _ := p.hear(t, x, 5); n != 0 {
			t.Errorf("P18.1: Hear of %+v uses %d ahead of a round", x, n)
		}
	}
	p.hear(t, ask(4, 6, 0), 3)
	for _, x := range aside() {
		if _, n, says := p.hear(t, x, 5); n != 0 || says {
			t.Errorf("P18.1: Hear of %+v: %d, %t", x, n, says)
		}
		if _, n, says := p.hear(t, ask(4, 6, 3), 5); n != 0 || !says {
			t.Errorf("P18.1: behind %+v: %d, %t", x, n, says)
		}
	}
}

// TestAnew: for every short list of the draws that matter.
func TestAnew(t *testing.T) {
	for _, me := range ids {
		of := map[rune]uint32{'0': 0, 'f': 0xFFFFFFFF, 'm': me, '1': 1, '2': 2, 'x': 0x77, 'e': 0xFFFFFFFE}
		for list := range sample.Each("0fm12xe", 4) {
			var ds []uint32
			for _, c := range list {
				ds = append(ds, of[c])
			}
			p := newPair(t, me, "n")
			if y, _, says := p.hear(t, anew(4, me), ds...); says || y != (api.Xid{}) {
				t.Errorf("P18.1: %x anew, %x: %+v, %t", me, ds, y, says)
			}
			if now := p.r.Id(); now == me || !slices.Contains(ds, now) && now > 2 {
				t.Errorf("P18.1: %x anew, %x: Id %x", me, ds, now)
			}
			// The old number is not its own any more.
			p.hear(t, anew(4, me), 99)
			p.hear(t, ask(4, 6, 2), 0)
		}
	}
}

// TestAnewOfAnother: a number is changed by none that is to another one, to everybody, or may not be.
func TestAnewOfAnother(t *testing.T) {
	p := newPair(t, 9, "n")
	p.hear(t, ask(4, 6, 0), 3)
	xs := []api.Xid{{To: 9, Anew: true}, {From: 4, To: 9, Anew: true}, {From: 4, To: 9, Slots: 6, Slot: 6, Anew: true}}
	for _, to := range []uint32{0, 1, 4, 8, 10, 0x109, 0x80000009, 0xFFFFFFFF} {
		for slot := -1; slot < 6; slot++ {
			xs = append(xs, api.Xid{From: 4, To: to, Slot: slot, Slots: 6, Anew: true})
		}
	}
	for _, x := range xs {
		if _, n, says := p.hear(t, x, 5, 6); n != 0 || says || p.r.Id() != 9 {
			t.Errorf("P18.1: Hear of %+v: %d, %t, Id %d", x, n, says, p.r.Id())
		}
		if _, n, says := p.hear(t, ask(4, 6, 3), 5); n != 0 || !says {
			t.Errorf("P18.1: behind %+v: %d, %t", x, n, says)
		}
	}
}

// TestAnewWithinARound: whatever its Slot and Slots, the round and its slot stay.
func TestAnewWithinARound(t *testing.T) {
	for _, from := range []uint32{4, 5, 9} {
		for _, slots := range rounds {
			for slot := -1; slot < slots; slot++ {
				p := newPair(t, 9, "n")
				p.hear(t, ask(4, 6, 1), 3)
				p.hear(t, api.Xid{From: from, To: 9, Slot: slot, Slots: slots, Anew: true, Nick: "m"}, 44)
				if y, n, says := p.hear(t, ask(4, 6, 3), 5); n != 0 || !says || y.From != 44 {
					t.Errorf("P18.1: %d anew in Slot %d of %d: %+v, %d, %t", from, slot, slots, y, n, says)
				}
			}
		}
	}
}

// TestEveryShortStory: every list of a few calls, with a first draw that is another one each time.
func TestEveryShortStory(t *testing.T) {
	of := map[rune]api.Xid{
		'0': ask(4, 6, 0), '1': ask(4, 6, 1), '2': ask(4, 6, 2), 'o': ask(5, 6, 2), '8': ask(4, 8, 2), 'e': ask(4, 6, -1),
		'E': ask(5, 8, -1), 't': {From: 4, To: 9, Slot: 1, Slots: 6}, 'a': anew(4, 9), 'A': anew(4, 1),
	}
	for story := range sample.Each("012o8eEtaA", 5) {
		p := newPair(t, 9, "n")
		for i, c := range story {
			if i == 2 {
				p.hear(t, of[c])
				continue
			}
			p.hear(t, of[c], uint32(i+1)%3)
		}
	}
}

func TestLongStories(t *testing.T) {
	for seed := range uint32(200) {
		p := newPair(t, 3, "n")
		for b := sample.Mixed(1200, seed); len(b) > 0; b = b[6:] {
			x := ask(uint32(b[0]%3+4), rounds[b[1]%3], int(b[2]%9)-1)
			if b[3] < 60 {
				x.To, x.Anew = p.r.Id()+uint32(b[3]%2), b[3] < 40
			}
			ds := []uint32{uint32(b[4] % 9), uint32(b[5]) << 24, 11}
			p.hear(t, x, ds[:b[5]%4]...)
		}
	}
}

func TestNothingIsKept(t *testing.T) {
	b := []byte("name")
	r := New(9, unsafe.String(&b[0], len(b)))
	ds := []uint32{3, 4}
	r.Hear(ask(4, 6, 0), ds)
	copy(b, "!!!!")
	ds[0] = 5
	if y, _, says := r.Hear(ask(4, 6, 3), ds); !says || y.Nick != "name" || r.Nick() != "name" {
		t.Errorf("P0.3: %+v, %t, Nick %q", y, says, r.Nick())
	}
}

func TestOfTwoNeitherTouchesTheOther(t *testing.T) {
	a, b := newPair(t, 9, "a"), newPair(t, 9, "b")
	for i := range uint32(100) {
		a.hear(t, ask(4, 8, int(i%8)), i)
		b.hear(t, ask(4, 8, int(i/8%8)), i+1)
		if i%9 == 0 {
			a.hear(t, anew(4, a.r.Id()), i)
			b.hear(t, anew(4, 9), 3)
		}
		b.check(t)
	}
}

func TestNil(t *testing.T) {
	var r *Reply
	for _, x := range []api.Xid{{}, ask(4, 6, 0), ask(4, 6, -1), anew(4, 0), anew(4, 9), {Anew: true}} {
		for _, ds := range [][]uint32{nil, {}, {0}, {5, 6}} {
			if y, n, says := r.Hear(x, ds); y != (api.Xid{}) || n != 0 || says {
				t.Errorf("P18.1: Hear of a nil Reply of %+v: %+v, %d, %t", x, y, n, says)
			}
		}
	}
	if r.Id() != 0 || r.Nick() != "" {
		t.Errorf("P18.1: a nil Reply: Id %d, Nick %q", r.Id(), r.Nick())
	}
}

// TestEmpty: one that New did not make is not promised to work, but nothing panics.
func TestEmpty(t *testing.T) {
	r := new(Reply)
	for _, x := range append(aside(), ask(4, 6, 0), ask(4, 6, -1), anew(4, 0), anew(4, 9)) {
		r.Hear(x, nil)
		r.Hear(x, []uint32{5})
		r.Id()
		r.Nick()
	}
}
