package turn

import (
	"fmt"
	"math"
	"slices"
	"strings"
	"testing"
	"unsafe"

	"glowworm/api"
	"glowworm/sample"
)

// second is Turn in a second way: it keeps all there ever was, and counts without end.
type second struct {
	primary   bool
	mine      bool
	win, size int
	all       []string // all that was put
	acked     int
	sent      int // of all
	taken     int
	odd       bool
}

func newSecond(role, win, size int) second {
	return second{primary: role == api.RPrim, mine: role == api.RPrim, win: win, size: size}
}

func (s *second) put(body string) api.Errno {
	if len(body) > s.size || len(body) > 64 {
		return api.ErrForm
	}
	if len(s.all)-s.acked == 8 {
		return api.ErrFull
	}
	s.all = append(s.all, body)
	return api.OK
}

func (s *second) turn() []api.Plain {
	if !s.mine {
		return nil
	}
	s.mine = false
	last := min(len(s.all), s.acked+s.win)
	var ps []api.Plain
	for i := s.acked; i < last; i++ {
		ps = append(ps, api.Plain{Cmd: s.primary, Kind: 1, Nr: s.taken % 8, Ns: i % 8, PF: i == last-1, Body: s.all[i]})
	}
	s.sent = max(s.sent, last)
	if ps == nil {
		ps = append(ps, api.Plain{Cmd: s.primary, Kind: 2, Nr: s.taken % 8, PF: true})
		if s.odd {
			ps[0].Sort = 2
		}
	}
	return ps
}

func (s *second) take(p api.Plain) (string, bool) {
	kinds, numbers := []int{1, 2}, []int{0, 1, 2, 3, 4, 5, 6, 7}
	if !slices.Contains(kinds, p.Kind) || p.Cmd == s.primary || !slices.Contains(numbers, p.Nr) || !slices.Contains(numbers, p.Ns) {
		return "", false
	}
	for k := s.acked; k <= s.sent; k++ {
		if k%8 == p.Nr {
			s.acked = k
			break
		}
	}
	if p.PF {
		s.mine = true
	}
	if p.Kind == 2 {
		return "", false
	}
	s.odd = p.Ns != s.taken%8
	if s.odd {
		return "", false
	}
	s.taken++
	return p.Body, true
}

func (s *second) late() bool {
	is := s.primary && !s.mine
	s.mine = s.mine || is
	return is
}

func (s *second) swap() {
	s.primary = !s.primary
	s.mine = s.primary
}

func (s *second) role() int {
	if s.primary {
		return 1
	}
	return 2
}

// pair is a Turn, and what is to be the same.
type pair struct {
	t *Turn
	s second
}

func newPair(role, win, size int) *pair {
	return &pair{New(role, api.Deal{Win: win, Size: size}), newSecond(role, win, size)}
}

// check looks at what is asked without a change; told says what the call ahead told.
func (p *pair) check(t *testing.T, call string, told bool) {
	t.Helper()
	for range 2 {
		if !told || p.t.Mine() != p.s.mine || p.t.Role() != p.s.role() || p.t.Left() != len(p.s.all)-p.s.acked {
			t.Fatalf("P15.1: %s: told %t, Mine %t, Role %d, Left %d; to be %+v", call, told, p.t.Mine(), p.t.Role(), p.t.Left(), p.s)
		}
	}
}

func (p *pair) put(t *testing.T, body string) {
	t.Helper()
	p.check(t, "Put", p.t.Put(body) == p.s.put(body))
}

func (p *pair) turn(t *testing.T) []api.Plain {
	t.Helper()
	got, want := p.t.Go(), p.s.turn()
	p.check(t, "Go", slices.Equal(got, want))
	return got
}

func (p *pair) take(t *testing.T, x api.Plain) (string, bool) {
	t.Helper()
	got, ok := p.t.Take(x)
	want, wantOk := p.s.take(x)
	p.check(t, "Take", got == want && ok == wantOk)
	return got, ok
}

func (p *pair) late(t *testing.T) {
	t.Helper()
	p.check(t, "Late", p.t.Late() == p.s.late())
}

func (p *pair) swap(t *testing.T) {
	t.Helper()
	p.t.Swap()
	p.s.swap()
	p.check(t, "Swap", true)
}

// body is one that no other one is.
func (p *pair) body() string { return fmt.Sprint("b", len(p.s.all)) }

// awaited is what the other end may say; k is so many behind the one that is awaited.
func (p *pair) awaited(k int, pf bool) api.Plain {
	return api.Plain{Cmd: !p.s.primary, Kind: 1, Nr: p.s.acked % 8, Ns: (p.s.taken + k) % 8, PF: pf, Body: fmt.Sprint("t", p.s.taken)}
}

// step does what a letter of a story stands for.
func (p *pair) step(t *testing.T, c rune) {
	t.Helper()
	switch c {
	case 'p':
		p.put(t, p.body())
	case 'g':
		p.turn(t)
	case 'l':
		p.late(t)
	case 's':
		p.swap(t)
	case 'i':
		p.take(t, p.awaited(0, false))
	case 'I':
		p.take(t, p.awaited(0, true))
	case 'o':
		p.take(t, p.awaited(2, true))
	case 'a':
		p.take(t, api.Plain{Cmd: !p.s.primary, Kind: 2, Nr: p.s.sent % 8, PF: true})
	case '1':
		p.take(t, api.Plain{Cmd: !p.s.primary, Kind: 2, Nr: 1})
	}
}

// at is a pair that a story has led to.
func at(t *testing.T, role, win int, story string) *pair {
	t.Helper()
	p := newPair(role, win, 64)
	for _, c := range story {
		p.step(t, c)
	}
	return p
}

func TestNew(t *testing.T) {
	d := api.Deal{Baud: 32, Silent: 200, Win: 2, Size: 8, Wait: 1}
	for _, role := range append([]int{0, 3, 4, 5}, sample.Wrong()...) {
		if New(role, d) != nil {
			t.Errorf("P15.1: New of the role %d is not nil", role)
		}
	}
	for _, role := range []int{api.RPrim, api.RSec} {
		p := &pair{New(role, d), newSecond(role, 2, 8)}
		p.check(t, "New", p.t != nil)
		p.turn(t)
	}
}

// TestWin: as many are said at once as out.New makes of the deal's Win.
func TestWin(t *testing.T) {
	for _, win := range append([]int{0, 1, 2, 3, 4, 5, 6, 7}, sample.Wrong()...) {
		p := newPair(api.RPrim, min(max(win, 1), 7), 64)
		p.t = New(api.RPrim, api.Deal{Win: win, Size: 64})
		for range 9 {
			p.put(t, p.body())
		}
		p.turn(t)
	}
}

func TestPutOfEachSize(t *testing.T) {
	for _, role := range []int{api.RPrim, api.RSec} {
		for size := -2; size <= 70; size++ {
			for n := range 72 {
				p := newPair(role, 7, size)
				p.put(t, strings.Repeat("x", n))
			}
		}
	}
	for _, size := range []int{math.MinInt, -1 << 32, 1 << 32, math.MaxInt} {
		for _, n := range []int{0, 1, 64, 65, 1 << 20} {
			p := newPair(api.RSec, 7, size)
			p.put(t, strings.Repeat("x", n))
		}
	}
}

func TestPutOfWhatIsTooLongAndTooMuch(t *testing.T) {
	p := newPair(api.RPrim, 7, 3)
	for range 10 {
		p.put(t, "abc")
		p.put(t, "abcd")
	}
	if err := p.t.Put("abcd"); err != api.ErrForm {
		t.Errorf("P15.1: Put of a long ninth one: %d", err)
	}
	if err := p.t.Put("abc"); err != api.ErrFull || p.t.Left() != 8 {
		t.Errorf("P15.1: Put of a ninth one: %d, Left %d", err, p.t.Left())
	}
}

func checkGo(t *testing.T, u *Turn, want ...api.Plain) {
	t.Helper()
	if got := u.Go(); !slices.Equal(got, want) {
		t.Errorf("P15.1: Go: %+v, not %+v", got, want)
	}
	if u.Mine() || u.Go() != nil {
		t.Error("P15.1: the turn is mine behind Go")
	}
}

func checkTake(t *testing.T, u *Turn, p api.Plain, want string, wantOk, mine bool) {
	t.Helper()
	if got, ok := u.Take(p); got != want || ok != wantOk || u.Mine() != mine {
		t.Errorf("P15.1: Take of %+v: %q, %t, Mine %t, not %q, %t, %t", p, got, ok, u.Mine(), want, wantOk, mine)
	}
}

func TestByHand(t *testing.T) {
	a, b := New(api.RPrim, api.Deal{Win: 2, Size: 4}), New(api.RSec, api.Deal{Win: 3, Size: 8})
	checkGo(t, b)
	for _, body := range []string{"a0", "", "a2", "a3"} {
		a.Put(body)
	}
	checkGo(t, a,
		api.Plain{Cmd: true, Kind: 1, Ns: 0, Body: "a0"},
		api.Plain{Cmd: true, Kind: 1, Ns: 1, PF: true})
	// The first one is lost.
	checkTake(t, b, api.Plain{Cmd: true, Kind: 1, Ns: 1, PF: true}, "", false, true)
	checkGo(t, b, api.Plain{Kind: 2, Sort: api.SReject, PF: true})
	checkTake(t, a, api.Plain{Kind: 2, Sort: api.SReject, PF: true}, "", false, true)
	checkGo(t, a,
		api.Plain{Cmd: true, Kind: 1, Ns: 0, Body: "a0"},
		api.Plain{Cmd: true, Kind: 1, Ns: 1, PF: true})
	checkTake(t, b, api.Plain{Cmd: true, Kind: 1, Ns: 0, Body: "a0"}, "a0", true, false)
	checkTake(t, b, api.Plain{Cmd: true, Kind: 1, Ns: 1, PF: true}, "", true, true)
	b.Put("b0")
	checkGo(t, b, api.Plain{Kind: 1, Nr: 2, Ns: 0, PF: true, Body: "b0"})
	// That is lost: the primary takes it for late.
	if !a.Late() || !a.Mine() || a.Late() || a.Left() != 4 {
		t.Errorf("P15.1: Late: Mine %t, Left %d", a.Mine(), a.Left())
	}
	checkGo(t, a,
		api.Plain{Cmd: true, Kind: 1, Ns: 0, Body: "a0"},
		api.Plain{Cmd: true, Kind: 1, Ns: 1, PF: true})
	checkTake(t, b, api.Plain{Cmd: true, Kind: 1, Ns: 0, Body: "a0"}, "", false, false)
	checkTake(t, b, api.Plain{Cmd: true, Kind: 1, Ns: 1, PF: true}, "", false, true)
	checkGo(t, b, api.Plain{Kind: 1, Nr: 2, Ns: 0, PF: true, Body: "b0"})
	checkTake(t, a, api.Plain{Kind: 1, Nr: 2, Ns: 0, PF: true, Body: "b0"}, "b0", true, true)
	if a.Left() != 2 || b.Left() != 1 {
		t.Errorf("P15.1: Left %d, %d", a.Left(), b.Left())
	}
	checkGo(t, a,
		api.Plain{Cmd: true, Kind: 1, Nr: 1, Ns: 2, Body: "a2"},
		api.Plain{Cmd: true, Kind: 1, Nr: 1, Ns: 3, PF: true, Body: "a3"})
	checkTake(t, b, api.Plain{Cmd: true, Kind: 1, Nr: 1, Ns: 2, Body: "a2"}, "a2", true, false)
	checkTake(t, b, api.Plain{Cmd: true, Kind: 1, Nr: 1, Ns: 3, PF: true, Body: "a3"}, "a3", true, true)
	checkGo(t, b, api.Plain{Kind: 2, Sort: api.SReady, Nr: 4, PF: true})
	checkTake(t, a, api.Plain{Kind: 2, Sort: api.SReady, Nr: 4, PF: true}, "", false, true)
	checkGo(t, a, api.Plain{Cmd: true, Kind: 2, Sort: api.SReady, Nr: 1, PF: true})
	if a.Left() != 0 || b.Left() != 0 {
		t.Errorf("P15.1: Left %d, %d", a.Left(), b.Left())
	}
}

// TestEveryTake: of each small Plain, in some places that a Turn may be in.
func TestEveryTake(t *testing.T) {
	for _, role := range []int{api.RPrim, api.RSec} {
		for _, story := range []string{"", "g", "pppg", "ppppIgoi", "Ipgappppppg"} {
			for kind := -1; kind <= 4; kind++ {
				for nr := -1; nr <= 8; nr++ {
					for ns := -1; ns <= 8; ns++ {
						for bits := range 4 {
							p := at(t, role, 3, story)
							p.take(t, api.Plain{Cmd: bits&1 != 0, Kind: kind, Nr: nr, Ns: ns, PF: bits&2 != 0, Body: "x"})
							p.late(t)
							p.turn(t)
						}
					}
				}
			}
		}
	}
}

func TestTakeOfWrongNumbers(t *testing.T) {
	for _, role := range []int{api.RPrim, api.RSec} {
		cmd := role == api.RSec
		for _, n := range sample.Wrong() {
			for _, x := range []api.Plain{{Kind: n, Cmd: cmd}, {Kind: 1, Nr: n, Cmd: cmd}, {Kind: 1, Ns: n, Cmd: cmd}, {Kind: 2, Nr: n, Cmd: cmd}, {Kind: 2, Ns: n, Cmd: cmd}} {
				x.PF = true
				x.Body = "x"
				p := at(t, role, 7, "gppIgppppppgl")
				p.turn(t)
				was := p.s
				p.take(t, x)
				if p.t.Mine() || p.t.Left() != len(was.all)-was.acked {
					t.Errorf("P15.1: Take of %+v changed something", x)
				}
			}
		}
	}
}

// TestTakeLooksAtNoMore: a Plain's Addr and Sort may be any, and its Body of any length.
func TestTakeLooksAtNoMore(t *testing.T) {
	for _, sort := range []int{math.MinInt, -1, 0, 1, 2, 3, 4, math.MaxInt} {
		for _, seat := range []int{math.MinInt, -1, 0, 5, 127, 128} {
			for _, n := range []int{0, 1, 9, 65, 1 << 16} {
				for kind := 1; kind <= 2; kind++ {
					p := at(t, api.RPrim, 7, "ppg")
					x := api.Plain{Addr: api.Address{Seat: seat, Count: 2 * seat}, Kind: kind, Sort: sort, Nr: 1, PF: true, Body: strings.Repeat("x", n)}
					p.take(t, x)
					p.turn(t)
				}
			}
		}
	}
}

// TestAnAckOfWhatWasNotSent: it is let be, and what stands beside it counts.
func TestAnAckOfWhatWasNotSent(t *testing.T) {
	for nr := range 8 {
		p := at(t, api.RPrim, 2, "pppg")
		x := p.awaited(0, true)
		x.Nr = nr
		body, ok := p.take(t, x)
		left := 3
		if nr <= 2 {
			left -= nr
		}
		if body != "t0" || !ok || !p.t.Mine() || p.t.Left() != left {
			t.Errorf("P15.1: Take with Nr %d: %q, %t, Mine %t, Left %d", nr, body, ok, p.t.Mine(), p.t.Left())
		}
	}
}

// TestTheTurnStays: nothing that comes takes the turn away.
func TestTheTurnStays(t *testing.T) {
	for _, story := range []string{"i", "1", "o", "ii", "I1i"} {
		p := at(t, api.RPrim, 7, story)
		if !p.t.Mine() || p.t.Late() {
			t.Errorf("P15.1: behind %s the turn is not the primary's", story)
		}
	}
}

func TestLate(t *testing.T) {
	for _, c := range []struct {
		role       int
		story      string
		late, mine bool
	}{
		{api.RPrim, "", false, true},
		{api.RPrim, "g", true, true},
		{api.RPrim, "gi", true, true},
		{api.RPrim, "gI", false, true},
		{api.RPrim, "s", false, false},
		{api.RPrim, "gss", false, true},
		{api.RSec, "", false, false},
		{api.RSec, "I", false, true},
		{api.RSec, "s", false, true},
		{api.RSec, "sg", true, true},
	} {
		p := at(t, c.role, 7, c.story)
		if p.t.Late() != c.late || p.t.Mine() != c.mine || p.t.Late() {
			t.Errorf("P15.1: Late of the role %d behind %q, Mine %t", c.role, c.story, p.t.Mine())
		}
	}
}

// TestSwap: the role and the turn alone are others.
func TestSwap(t *testing.T) {
	for _, role := range []int{api.RPrim, api.RSec} {
		for _, story := range []string{"", "g", "I", "pppgIo", "pppIIg"} {
			p := at(t, role, 2, story)
			left := p.t.Left()
			p.swap(t)
			if p.t.Role() != 3-role || p.t.Mine() != (role == api.RSec) || p.t.Left() != left {
				t.Errorf("P15.1: Swap of the role %d: Role %d, Mine %t, Left %d", role, p.t.Role(), p.t.Mine(), p.t.Left())
			}
			// It says what the other role says, and hears what its other role says.
			p.take(t, api.Plain{Cmd: p.s.primary, Kind: 1, Ns: p.s.taken % 8, Nr: p.s.acked % 8, PF: true, Body: "x"})
			p.take(t, p.awaited(0, true))
			p.turn(t)
			p.swap(t)
			p.late(t)
			p.turn(t)
		}
	}
}

// TestEveryShortStory: every list of a few calls.
func TestEveryShortStory(t *testing.T) {
	for _, role := range []int{api.RPrim, api.RSec} {
		for story := range sample.Each("pglsiIoa1", 5) {
			at(t, role, 1+len(story)%3, story)
		}
	}
}

func TestLongStories(t *testing.T) {
	const letters = "pppppggggllsiiIIIooaaa11"
	for seed := range uint32(300) {
		p := newPair(1+int(seed%2), 1+int(seed%7), 64)
		for _, x := range sample.Mixed(400, seed) {
			p.step(t, rune(letters[int(x)%len(letters)]))
		}
		if p.s.acked < 9 || p.s.taken < 9 {
			t.Errorf("seed %d: no more than %d were acknowledged, %d taken", seed, p.s.acked, p.s.taken)
		}
	}
}

// wire is two ends, and what is on its way from each, in its order.
type wire struct {
	ends [2]*pair
	way  [2][]api.Plain
	told [2][]string // at each end
}

func newWire(wins ...int) *wire {
	w := &wire{}
	w.ends[0] = newPair(api.RPrim, wins[0], 64)
	w.ends[1] = newPair(api.RSec, wins[1], 64)
	return w
}

func (w *wire) speak(t *testing.T, i int) {
	t.Helper()
	w.way[i] = append(w.way[i], w.ends[i].turn(t)...)
}

// pass takes the first that is on its way from i off the air; it comes, or is lost.
func (w *wire) pass(t *testing.T, i int, lost bool) {
	t.Helper()
	if len(w.way[i]) == 0 {
		return
	}
	p := w.way[i][0]
	w.way[i] = w.way[i][1:]
	if lost {
		return
	}
	if body, ok := w.ends[1-i].take(t, p); ok {
		w.told[1-i] = append(w.told[1-i], body)
	}
}

// checkTold holds G1.
func (w *wire) checkTold(t *testing.T) {
	t.Helper()
	for i := range w.told {
		told, put := w.told[i], w.ends[1-i].s.all
		if len(told) > len(put) || !slices.Equal(told, put[:len(told)]) {
			t.Fatalf("G1: %v was told, and %v put", told, put)
		}
	}
}

// settle ends all losses: then what was put is told, and acknowledged.
func (w *wire) settle(t *testing.T) {
	t.Helper()
	for i := range w.way {
		for len(w.way[i]) > 0 {
			w.pass(t, i, false)
		}
	}
	if w.ends[0].s.primary == w.ends[1].s.primary {
		w.ends[0].swap(t)
	}
	// 8 of each, of which one and an answer come in each round at the least.
	for range 24 {
		for i := range w.ends {
			w.ends[i].late(t)
			w.speak(t, i)
			for len(w.way[i]) > 0 {
				w.pass(t, i, false)
			}
		}
	}
	w.checkTold(t)
	for i := range w.told {
		if len(w.told[i]) != len(w.ends[1-i].s.all) || w.ends[i].t.Left() != 0 {
			t.Fatalf("G1: %d of %d were told, Left %d", len(w.told[i]), len(w.ends[1-i].s.all), w.ends[i].t.Left())
		}
	}
}

// TestG1: what each says is lost, or comes at any time, in its order.
func TestG1(t *testing.T) {
	for seed := range uint32(400) {
		w := newWire(1+int(seed%7), 1+int(seed/7%7))
		steps := sample.Mixed(6000, seed)
		for len(steps) > 0 {
			x, y := steps[0], int(steps[1])
			steps = steps[2:]
			i := y % 2
			switch {
			case x < 80:
				w.ends[i].put(t, w.ends[i].body())
			case x < 120:
				w.speak(t, i)
			case x < 140:
				w.ends[i].late(t)
			case x < 245:
				// Some ends hear little for long, and some nearly all at once.
				for range y/2%12 + 1 {
					w.pass(t, i, y/2%6 < int(seed%4))
				}
			case x < 248:
				w.ends[0].swap(t)
				w.ends[1].swap(t)
			case x < 249 || w.ends[0].s.primary == w.ends[1].s.primary:
				w.ends[i].swap(t)
			}
			w.checkTold(t)
		}
		w.settle(t)
		if len(w.told[0]) < 17 || len(w.told[1]) < 17 {
			t.Errorf("seed %d: no more than %d and %d were told", seed, len(w.told[0]), len(w.told[1]))
		}
	}
}

// TestG2: the primary takes for late what was lost, and nothing else: neither what comes, nor an end that has not spoken yet.
func TestG2(t *testing.T) {
	for seed := range uint32(200) {
		w := newWire(1+int(seed%7), 1+int(seed/7%7))
		turns, lates := 0, 0
		for _, x := range sample.Mixed(1000, seed) {
			i := int(x/64) % 2
			switch {
			case x%64 < 16:
				w.ends[i].put(t, w.ends[i].body())
			case x%64 < 32:
				w.speak(t, i)
			case x%64 < 56:
				w.pass(t, i, x%8 == 0)
			case len(w.way[0])+len(w.way[1]) == 0 && !w.ends[0].t.Mine() && !w.ends[1].t.Mine():
				w.ends[0].late(t)
				lates++
			}
			if w.ends[0].t.Mine() && w.ends[1].t.Mine() {
				t.Fatalf("G2: seed %d: both have the turn", seed)
			}
			if w.ends[1].t.Mine() {
				turns++
			}
		}
		if turns == 0 || lates == 0 {
			t.Errorf("seed %d: the secondary had the turn %d times, %d were late", seed, turns, lates)
		}
	}
}

// TestBodies: what is put comes byte for byte.
func TestBodies(t *testing.T) {
	w := newWire(7, 7)
	for _, b := range []string{"", "", "a", "a", "\x00\xff\xc0\xc1\x7d", "\u00e4", strings.Repeat("x", 64)} {
		w.ends[0].put(t, b)
		w.ends[1].put(t, b)
	}
	w.settle(t)
}

func TestAnswersAreNewMemory(t *testing.T) {
	p := at(t, api.RPrim, 2, "ppp")
	earlier := p.turn(t)
	p.late(t)
	ps := p.turn(t)
	// Into its spare room, too.
	ps = ps[:cap(ps)]
	for i := range ps {
		ps[i] = api.Plain{Body: "!"}
	}
	if len(earlier) != 2 || earlier[0].Body != "b0" || earlier[1].Body != "b1" {
		t.Errorf("P0.3: the earlier Go: %+v", earlier)
	}
	p.late(t)
	_ = append(p.turn(t), api.Plain{Body: "!"})
	p.step(t, 'a')
	p.turn(t)
}

func TestNoMoreIsKept(t *testing.T) {
	b := []byte("body")
	body := unsafe.String(&b[0], len(b))
	p := New(api.RPrim, api.Deal{Win: 7, Size: 64})
	p.Put(body)
	told, ok := p.Take(api.Plain{Kind: 1, PF: true, Body: body})
	copy(b, "!!!!")
	if told != "body" || !ok {
		t.Errorf("P0.3: what was told is %q, %t", told, ok)
	}
	if ps := p.Go(); len(ps) != 1 || ps[0].Body != "body" {
		t.Errorf("P0.3: what was put is %+v", ps)
	}
}

func TestOfTwoNeitherTouchesTheOther(t *testing.T) {
	a, b := at(t, api.RPrim, 3, "pp"), at(t, api.RPrim, 3, "pp")
	a.turn(t)
	a.step(t, 'I')
	a.step(t, 'a')
	b.turn(t)
	b.late(t)
	a.swap(t)
	b.step(t, 'o')
	b.turn(t)
	a.step(t, 'I')
	a.turn(t)
}

func TestNil(t *testing.T) {
	var u *Turn
	for _, n := range append([]int{0, 1, 2, 7}, sample.Wrong()...) {
		for _, x := range []api.Plain{{Kind: n, PF: true}, {Kind: 1, Nr: n, PF: true, Cmd: true, Body: "x"}, {Kind: 2, Ns: n, PF: true}} {
			if body, ok := u.Take(x); body != "" || ok {
				t.Errorf("P15.1: Take of a nil Turn: %q, %t", body, ok)
			}
		}
	}
	for _, b := range []string{"", "a", strings.Repeat("x", 65)} {
		if err := u.Put(b); err != api.ErrDown {
			t.Errorf("P15.1: Put of a nil Turn: %d", err)
		}
	}
	u.Swap()
	if u.Mine() || u.Go() != nil || u.Late() || u.Role() != 0 || u.Left() != 0 {
		t.Error("P15.1: a nil Turn")
	}
}

// TestEmpty: one that New did not make is not promised to work, but nothing panics.
func TestEmpty(t *testing.T) {
	u := new(Turn)
	for range 3 {
		u.Put("")
		u.Put("a")
		u.Late()
		u.Take(api.Plain{Kind: 1, PF: true})
		u.Take(api.Plain{Cmd: true, Kind: 2, PF: true})
		u.Go()
		u.Swap()
		u.Go()
	}
}
