package query

import (
	"slices"
	"strings"
	"testing"
	"unsafe"

	"glowworm/api"
	"glowworm/log"
	"glowworm/sample"
	"glowworm/xid"
)

// rounds are how many slots there may be.
var rounds = []int{1, 6, 8}

// ids are numbers that a device may have.
var ids = []uint32{1, 2, 9, 0xFF, 0x100, 0x01020304, 0x7FFFFFFF, 0x80000000, 0xFFFFFFFE}

// second is Query in a second way: all that it says, tick by tick, is written down at first.
type second struct {
	me    uint32
	ahead []api.Xid // a zero one: nothing is said
	said  int
	log   *log.Log
}

func newSecond(me uint32, nick string, slots int) second {
	var ahead []api.Xid
	for slot := range slots {
		ahead = append(ahead, api.Xid{From: me, Slot: slot, Slots: slots, Nick: nick})
		ahead = append(ahead, make([]api.Xid, 7)...)
	}
	ahead = append(ahead, api.Xid{From: me, Slot: -1, Slots: slots, Nick: nick})
	// The tick with which it is over.
	ahead = append(ahead, api.Xid{})
	return second{me: me, ahead: ahead, log: log.New(me)}
}

func (s *second) over() bool { return len(s.ahead) == 0 }

func (s *second) tick() (api.Xid, bool) {
	if s.over() {
		return api.Xid{}, false
	}
	x := s.ahead[0]
	s.ahead = s.ahead[1:]
	if x == (api.Xid{}) {
		return x, false
	}
	s.said++
	return x, true
}

func (s *second) hear(x api.Xid) bool {
	if s.said > 0 && !s.over() && x.To == s.me {
		return s.log.Add(x)
	}
	return false
}

// pair is a Query, and what is to be the same.
type pair struct {
	q *Query
	s second
}

func newPair(t *testing.T, me uint32, nick string, slots int) *pair {
	t.Helper()
	p := &pair{New(me, nick, slots), newSecond(me, nick, slots)}
	if p.q == nil {
		t.Fatalf("P17.1: New(%x, %q, %d) is nil", me, nick, slots)
	}
	p.check(t)
	return p
}

func (p *pair) tick(t *testing.T) (api.Xid, bool) {
	t.Helper()
	x, says := p.q.Tick()
	want, is := p.s.tick()
	if x != want || says != is {
		t.Fatalf("P17.1: me %x: Tick: %+v, %t, not %+v, %t", p.s.me, x, says, want, is)
	}
	p.check(t)
	return x, says
}

func (p *pair) ticks(t *testing.T, n int) *pair {
	t.Helper()
	for range n {
		p.tick(t)
	}
	return p
}

func (p *pair) hear(t *testing.T, x api.Xid) bool {
	t.Helper()
	got, want := p.q.Hear(x), p.s.hear(x)
	if got != want {
		t.Fatalf("P17.1: me %x: Hear of %+v: %t", p.s.me, x, got)
	}
	p.check(t)
	return got
}

// check looks at what is asked without a change.
func (p *pair) check(t *testing.T) {
	t.Helper()
	for range 2 {
		if p.q.Over() != p.s.over() {
			t.Fatalf("P17.1: me %x: Over: %t", p.s.me, p.q.Over())
		}
		got, want := p.q.Log(), p.s.log
		if !slices.Equal(got.All(), want.All()) || !slices.Equal(got.Clash(), want.Clash()) || got.Len() != want.Len() {
			t.Fatalf("P17.1: me %x: All %v, Clash %x, not %v, %x", p.s.me, got.All(), got.Clash(), want.All(), want.Clash())
		}
	}
}

// answer is what number id answers to number to, in Slot 2 of 6.
func answer(id, to uint32) api.Xid {
	return api.Xid{From: id, To: to, Slot: 2, Slots: 6, Nick: "n"}
}

func TestNew(t *testing.T) {
	for _, me := range append([]uint32{0, 0xFFFFFFFF}, ids...) {
		for _, nick := range slices.Concat(sample.Names(), sample.Poor()) {
			for _, slots := range append([]int{0, 1, 2, 3, 4, 5, 6, 7}, sample.Wrong()...) {
				may := slices.Contains(ids, me) && slices.Contains(sample.Names(), nick) && slices.Contains(rounds, slots)
				if q := New(me, nick, slots); (q != nil) != may {
					t.Errorf("P17.1: New(%x, %q, %d): nil: %t", me, nick, slots, q == nil)
				}
			}
		}
	}
	if New(1, strings.Repeat("n", 1<<24), 6) != nil {
		t.Error("P17.1: New of a long name is not nil")
	}
	for _, slots := range []int{1<<32 + 1, 1<<32 + 6, 1<<16 + 8, 256 + 6, -1<<32 + 1, -6} {
		if New(1, "n", slots) != nil {
			t.Errorf("P17.1: New of %d slots is not nil", slots)
		}
	}
}

// TestByHand: a round of one slot, call by call.
func TestByHand(t *testing.T) {
	q := New(9, "J\u00f6rg", 1)
	for n, w := range []struct {
		x          api.Xid
		says, over bool
	}{
		{x: api.Xid{From: 9, Slots: 1, Nick: "J\u00f6rg"}, says: true},
		{}, {}, {}, {}, {}, {}, {},
		{x: api.Xid{From: 9, Slot: -1, Slots: 1, Nick: "J\u00f6rg"}, says: true},
		{over: true}, {over: true}, {over: true},
	} {
		if x, says := q.Tick(); x != w.x || says != w.says || q.Over() != w.over {
			t.Errorf("P17.1: Tick %d: %+v, %t, then Over %t", n, x, says, q.Over())
		}
	}
}

func TestEveryTick(t *testing.T) {
	for _, me := range ids {
		for _, nick := range sample.Names() {
			for _, slots := range rounds {
				p := newPair(t, me, nick, slots)
				var said []int
				for n := range 300 {
					x, says := p.tick(t)
					if !says {
						continue
					}
					if !xid.May(x) {
						t.Errorf("P17.1: what is said may not be: %+v", x)
					}
					if n != 8*len(said) {
						t.Errorf("P17.1: Tick %d says %+v", n, x)
					}
					said = append(said, x.Slot)
				}
				if all := []int{0, 1, 2, 3, 4, 5, 6, 7}; !slices.Equal(said, append(all[:slots], -1)) {
					t.Errorf("P17.1: of %d slots these are said: %v", slots, said)
				}
			}
		}
	}
}

// TestOverStays: however often it is asked.
func TestOverStays(t *testing.T) {
	for _, slots := range rounds {
		p := newPair(t, 9, "n", slots).ticks(t, 8*slots+1)
		if p.q.Over() || !p.hear(t, answer(4, 9)) {
			t.Errorf("P17.1: of %d slots it is over with the last Xid", slots)
		}
		for n := range 1 << 20 {
			if x, says := p.q.Tick(); says || x != (api.Xid{}) || !p.q.Over() || p.q.Hear(answer(5, 9)) || p.q.Hear(answer(9, 9)) {
				t.Fatalf("P17.1: of %d slots, %d behind the last Xid: %+v, %t, Over %t", slots, n+1, x, says, p.q.Over())
			}
		}
		if got := p.q.Log(); got.Len() != 1 || len(got.Clash()) != 0 {
			t.Errorf("P17.1: what comes when it is over: %v, %v", got.All(), got.Clash())
		}
	}
}

// TestHearBehindEachTick: it hears from its first call of Tick on, until it is over.
func TestHearBehindEachTick(t *testing.T) {
	for _, slots := range rounds {
		for n := range 8*slots + 20 {
			p := newPair(t, 9, "n", slots).ticks(t, n)
			hears := n >= 1 && n <= 8*slots+1
			if p.hear(t, answer(4, 9)) != hears || (p.q.Log().Len() == 1) != hears {
				t.Errorf("P17.1: of %d slots, behind %d ticks: Log %v", slots, n, p.q.Log().All())
			}
			// One with my number is a clash, if it is heard.
			if p.hear(t, answer(9, 9)) || slices.Equal(p.q.Log().Clash(), []uint32{9}) != hears {
				t.Errorf("P17.1: of %d slots, behind %d ticks: Clash %v", slots, n, p.q.Log().Clash())
			}
			p.ticks(t, 8*slots+3)
		}
	}
}

// TestHearsWhatIsToMe: all else is neither noted nor a clash.
func TestHearsWhatIsToMe(t *testing.T) {
	for _, me := range ids {
		for _, to := range append([]uint32{0, 3, 0xFFFFFFFF}, ids...) {
			p := newPair(t, me, "n", 6).ticks(t, 20)
			p.hear(t, answer(4, to))
			p.hear(t, answer(me, to))
			noted, clash := 0, 0
			if to == me {
				noted, clash = 1, 1
			}
			if got := p.q.Log(); got.Len() != noted || len(got.Clash()) != clash {
				t.Errorf("P17.1: me %x, To %x: %v, %x", me, to, got.All(), got.Clash())
			}
		}
	}
}

// TestHearLooksAtNoMore: what log.Add takes is noted, be it of another round or another slot.
func TestHearLooksAtNoMore(t *testing.T) {
	for _, slots := range rounds {
		for _, nick := range sample.Names() {
			for _, of := range rounds {
				for slot := -1; slot < of; slot++ {
					for bit := range 2 {
						p := newPair(t, 9, "n", slots).ticks(t, 3)
						x := api.Xid{From: 4, To: 9, Slot: slot, Slots: of, Anew: bit == 1, Nick: nick}
						if !p.hear(t, x) || !slices.Equal(p.q.Log().All(), []api.Device{{Id: 4, Nick: nick}}) {
							t.Errorf("P17.1: Hear of %+v: Log %v", x, p.q.Log().All())
						}
					}
				}
			}
		}
	}
}

// TestWhatMayNotBe: it is not noted, though it is to me.
func TestWhatMayNotBe(t *testing.T) {
	xs := []api.Xid{{To: 9}, answer(0, 9), answer(0xFFFFFFFF, 9), {From: 4, To: 9, Slot: 1, Slots: 1}}
	for _, nick := range sample.Poor() {
		xs = append(xs, api.Xid{From: 4, To: 9, Slots: 1, Nick: nick})
	}
	for _, n := range sample.Wrong() {
		if n != 8 {
			xs = append(xs, api.Xid{From: 4, To: 9, Slots: n})
		}
		if n != -1 {
			xs = append(xs, api.Xid{From: 4, To: 9, Slots: 8, Slot: n})
		}
	}
	p := newPair(t, 9, "n", 8).ticks(t, 5)
	p.hear(t, answer(4, 9))
	for _, x := range xs {
		if p.hear(t, x) {
			t.Errorf("P17.1: Hear of %+v is true", x)
		}
	}
	if got := p.q.Log(); got.Len() != 1 || len(got.Clash()) != 0 {
		t.Errorf("P17.1: Log %v, Clash %v", got.All(), got.Clash())
	}
}

func TestFullLog(t *testing.T) {
	p := newPair(t, 100, "n", 6)
	for id := range uint32(20) {
		p.ticks(t, 2)
		if p.hear(t, answer(id+1, 100)) != (id < 16) {
			t.Errorf("P17.1: Hear of the device %d", id+1)
		}
	}
	for id := range uint32(16) {
		if !p.hear(t, answer(id+1, 100)) {
			t.Errorf("P17.1: Hear of the device %d once more is false", id+1)
		}
	}
}

// TestLogIsTheVeryOne: what is done to it is done there, whether the query has begun or is over.
func TestLogIsTheVeryOne(t *testing.T) {
	p := newPair(t, 9, "n", 1)
	l := p.q.Log()
	if l == nil {
		t.Fatal("P17.1: Log is nil")
	}
	for id := range uint32(14) {
		x := answer(20+id, 9)
		if !p.q.Log().Add(x) || !p.s.log.Add(x) {
			t.Errorf("P0.3: Add of %+v is false", x)
		}
		p.hear(t, answer(20+id+1, 9))
		p.tick(t)
		if p.q.Log() != l {
			t.Fatal("P0.3: Log is another one")
		}
	}
	if !p.q.Over() || l.Len() != 14 {
		t.Errorf("P17.1: Over %t, Len %d", p.q.Over(), l.Len())
	}
}

// TestEveryShortStory: every list of a few calls.
func TestEveryShortStory(t *testing.T) {
	of := map[rune]api.Xid{
		'a': answer(1, 9),
		'A': {From: 1, To: 9, Slot: 3, Slots: 6, Nick: "n"},
		'b': answer(2, 9),
		'0': answer(1, 0),
		'm': answer(9, 9),
	}
	ticks := map[rune]int{'t': 1, 'T': 8}
	for story := range sample.Each("tTaAb0m", 5) {
		p := newPair(t, 9, "n", 1)
		for _, c := range story {
			if x, is := of[c]; is {
				p.hear(t, x)
			}
			p.ticks(t, ticks[c])
		}
	}
}

func TestLongStories(t *testing.T) {
	for seed := range uint32(300) {
		p := newPair(t, 3, "n", rounds[seed%3])
		for b := sample.Mixed(600, seed); len(b) > 0; b = b[3:] {
			if b[0] < 100 {
				p.tick(t)
				continue
			}
			x := answer(uint32(b[1]%24), uint32(b[2]%2)*3)
			if b[2] < 40 {
				x.Nick = "m"
			}
			p.hear(t, x)
		}
	}
}

func TestNothingIsKept(t *testing.T) {
	b := []byte("name")
	q := New(9, unsafe.String(&b[0], len(b)), 6)
	x, _ := q.Tick()
	c := []byte("heard")
	q.Hear(api.Xid{From: 4, To: 9, Slots: 6, Nick: unsafe.String(&c[0], len(c))})
	copy(b, "!!!!")
	copy(c, "!!!!!")
	if x.Nick != "name" || !slices.Equal(q.Log().All(), []api.Device{{Id: 4, Nick: "heard"}}) {
		t.Errorf("P0.3: Nick %q, Log %v", x.Nick, q.Log().All())
	}
	for range 8 {
		x, _ = q.Tick()
	}
	if x.Nick != "name" {
		t.Errorf("P0.3: Nick %q", x.Nick)
	}
}

func TestOfTwoNeitherTouchesTheOther(t *testing.T) {
	a, b := newPair(t, 9, "a", 6), newPair(t, 9, "b", 8)
	for id := range uint32(80) {
		a.tick(t)
		a.hear(t, answer(id, 9))
		b.check(t)
		if id%3 == 0 {
			b.tick(t)
			b.hear(t, answer(id+1, 9))
			a.check(t)
		}
	}
}

func TestNil(t *testing.T) {
	var q *Query
	for range 20 {
		if x, says := q.Tick(); says || x != (api.Xid{}) {
			t.Errorf("P17.1: Tick of a nil Query: %+v, %t", x, says)
		}
		for _, x := range []api.Xid{{}, answer(4, 0), answer(4, 9), {From: 1, Slots: 1}} {
			if q.Hear(x) {
				t.Errorf("P17.1: Hear of a nil Query of %+v is true", x)
			}
		}
		if !q.Over() || q.Log() != nil {
			t.Errorf("P17.1: a nil Query: Over %t, Log %v", q.Over(), q.Log())
		}
	}
}

// TestEmpty: one that New did not make is not promised to work, but nothing panics.
func TestEmpty(t *testing.T) {
	q := new(Query)
	for range 20 {
		q.Tick()
		q.Hear(api.Xid{})
		q.Hear(answer(4, 0))
		q.Over()
		q.Log().Len()
	}
}
