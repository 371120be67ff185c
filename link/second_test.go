package link

import (
	"fmt"
	"slices"
	"testing"

	"glowworm/api"
	"glowworm/frame"
	"glowworm/meet"
	"glowworm/sample"
	"glowworm/setup"
	"glowworm/turn"
)

// second is Link in a second way: the chapter's words, one by one; nothing is cleared but where they say so.
type second struct {
	me    uint32
	seat  int
	offer api.Offer
	last  int

	state int
	addr  api.Address
	deal  api.Deal
	peer  uint32
	turn  *turn.Turn

	silence, patience, pause, tries int
	ends, resets, changes           bool
	took                            api.Address
	owes                            []api.Plain
	tells                           []api.Tell
	taken                           int // how much came in this link
}

func newSecond(me uint32, seat int, o api.Offer) *second {
	return &second{me: me, seat: seat, offer: o}
}

func (s *second) role() int {
	if s.state != 2 {
		return 0
	}
	return s.turn.Role()
}

func (s *second) seen() seen {
	return seen{s.state, s.role(), s.addr, s.deal, s.peer, s.turn.Left()}
}

func (s *second) next() api.Address {
	s.last++
	if s.last == 250 {
		s.last = 0
	}
	return api.Address{Seat: s.seat, Count: s.last}
}

func (s *second) tell(kind int) { s.tells = append(s.tells, api.Tell{Kind: kind, Id: s.peer}) }

func (s *second) none() {
	s.state, s.addr, s.deal, s.peer, s.turn = 0, api.Address{}, api.Deal{}, 0, nil
}

func (s *second) newLink(role int, x api.Setup, d api.Deal) {
	s.state, s.addr, s.peer, s.deal, s.turn = 2, x.Addr, x.From, d, turn.New(role, d)
	s.ends, s.resets, s.changes, s.tries, s.owes, s.taken = false, false, false, 0, nil, 0
}

func (s *second) u(sort int, cmd bool) api.Plain {
	return api.Plain{Addr: s.addr, Cmd: cmd, Kind: 3, Sort: sort, PF: true}
}

func (s *second) setup(sort int, cmd bool, a api.Address) api.Plain {
	return api.Plain{Addr: everybody, Cmd: cmd, Kind: 3, Sort: sort, PF: true, Body: setupBody(s.me, s.peer, a, s.offer)}
}

func (s *second) goOn() []api.Plain {
	ps := s.turn.Go()
	for k := range ps {
		ps[k].Addr = s.addr
	}
	return ps
}

func (s *second) toReset() {
	if !s.resets && s.role() == 1 {
		s.took, s.tries = s.next(), 0
	}
	s.resets = true
}

// ask is Ask of what box.May takes.
func (s *second) ask(a api.Ask) api.Errno {
	switch {
	case a.Kind == 1 || a.Kind == 7:
		return 1
	case a.Kind == 2 && s.state != 0:
		return 2
	case a.Kind == 2 && a.Id == s.me:
		return 1
	case a.Kind == 2:
		s.state, s.peer, s.addr, s.tries, s.patience, s.pause = 1, a.Id, s.next(), 0, 0, 0
		return 0
	case s.state != 2:
		return 2
	case a.Kind == 3:
		return s.turn.Put(a.Body)
	case a.Kind == 4:
		s.ends, s.tries = true, 0
	case a.Kind == 5:
		s.toReset()
	case s.role() == 2:
		return 2
	default:
		s.changes = true
	}
	return 0
}

func (s *second) tick(free bool) []api.Plain {
	if s.state == 2 {
		s.silence++
		if s.silence == s.deal.Silent {
			s.tell(4)
			s.none()
			return nil
		}
	}
	if s.patience > 0 {
		s.patience--
		if s.patience == 0 {
			if s.state == 1 && s.tries > 2 {
				s.tell(7)
				s.none()
				return nil
			}
			if s.role() == 1 {
				if (s.ends || s.resets) && s.tries > 2 {
					s.tell(4)
					s.none()
					return nil
				}
				s.turn.Late()
			}
		}
	}
	if s.pause > 0 {
		s.pause--
		return nil
	}
	if !free {
		return nil
	}
	return s.says()
}

func (s *second) says() []api.Plain {
	if len(s.owes) > 0 {
		ps := s.owes
		s.owes = nil
		return ps
	}
	mine, calm := s.turn.Mine(), s.patience == 0
	if s.state == 1 && calm {
		s.tries++
		s.patience = 70
		return []api.Plain{s.setup(2, true, s.addr)}
	}
	if s.role() == 1 && mine && calm {
		s.patience = 70
		if s.ends {
			s.tries++
			return []api.Plain{s.u(5, true)}
		}
		if s.resets {
			s.tries++
			return []api.Plain{s.setup(2, true, s.took)}
		}
		if s.changes {
			return []api.Plain{s.u(6, true)}
		}
		return s.goOn()
	}
	if s.role() == 2 && mine {
		if s.ends {
			p := s.u(4, false)
			s.tell(4)
			s.none()
			return []api.Plain{p}
		}
		if s.resets {
			s.turn.Go()
			return []api.Plain{s.u(7, false)}
		}
		return s.goOn()
	}
	return nil
}

func (s *second) hear(p api.Plain) {
	if _, ok := frame.Of(p); !ok {
		return
	}
	x, isSetup := setup.Get(p.Body)
	d, isDeal := meet.Deal(s.offer, x.Offer)
	isSetup = isSetup && isDeal && p.Kind == 3 && p.Addr == everybody && x.To == s.me
	if isSetup && p.Sort == 2 && p.Cmd && x.From != s.me {
		s.hearCall(x, d)
	}
	if isSetup && p.Sort == 3 && !p.Cmd && x.From == s.peer {
		if s.state == 1 && x.Addr == s.addr || s.role() == 1 && s.resets && x.Addr == s.took {
			was := s.state
			s.newLink(1, x, d)
			s.tell(map[int]int{1: 2, 2: 5}[was])
			s.silence, s.patience, s.pause = 0, 0, d.Wait
		}
		return
	}
	if s.state == 2 && p.Addr == s.addr {
		s.hearOwn(p)
	}
}

func (s *second) hearCall(x api.Setup, d api.Deal) {
	if s.state == 1 || s.state == 2 && x.From != s.peer {
		return
	}
	if s.state == 0 {
		s.newLink(2, x, d)
		s.tell(2)
	} else if s.role() == 1 || x.Addr != s.addr {
		s.newLink(2, x, d)
		s.tell(5)
	}
	s.silence = 0
	s.owes = []api.Plain{s.setup(3, false, x.Addr)}
	s.pause = s.deal.Wait
}

func (s *second) hearOwn(p api.Plain) {
	if p.Cmd && s.role() == 1 && s.changes {
		s.turn.Swap()
		s.changes, s.patience = false, 0
		s.tell(6)
	}
	if s.role() == 1 && p.Cmd || s.role() == 2 && !p.Cmd {
		return
	}
	s.silence = 0
	if p.Kind != 3 {
		was := s.turn.Mine()
		if body, ok := s.turn.Take(p); ok {
			s.taken++
			s.tells = append(s.tells, api.Tell{Kind: 3, Id: s.peer, Body: body})
		}
		if s.turn.Mine() && !was {
			s.patience, s.pause = 0, s.deal.Wait
		}
		return
	}
	s.hearU(p.Sort, s.role())
}

func (s *second) hearU(sort, role int) {
	switch {
	case role == 2 && sort == 5:
		s.owes, s.pause = []api.Plain{s.u(3, false)}, s.deal.Wait
		s.tell(4)
		s.none()
	case role == 2 && sort == 6:
		s.turn.Swap()
		s.tell(6)
		s.patience, s.pause, s.changes = 0, s.deal.Wait, false
		if s.resets {
			s.took, s.tries = s.next(), 0
		}
	case role == 1 && (sort == 4 || sort == 3 && s.ends):
		s.tell(4)
		s.none()
	case role == 1 && sort == 7:
		s.turn.Late()
		s.patience, s.pause = 0, s.deal.Wait
		s.toReset()
	}
}

// pair is a Link, and what is to be the same.
type pair struct {
	l       *Link
	s       *second
	t       *testing.T // nil: nothing is held
	story   string
	puts    int
	strange int // how often something was told
}

func newPair(t *testing.T) *pair {
	return &pair{l: idler(), s: newSecond(mine, 3, offer(0)), t: t}
}

func sameTells(a, b []api.Tell) bool {
	return slices.EqualFunc(a, b, func(x, y api.Tell) bool {
		return x.Kind == y.Kind && x.Id == y.Id && x.Body == y.Body && len(x.Devices)+len(y.Devices) == 0
	})
}

func (p *pair) check(fine bool, got ...any) {
	if p.t == nil {
		return
	}
	p.t.Helper()
	if !fine || look(p.l) != p.s.seen() {
		p.t.Fatalf("P20: behind %q: %+v, %+v; to be %+v", p.story, got, look(p.l), p.s)
	}
}

func (p *pair) ask(a api.Ask) {
	got, want := p.l.Ask(a), p.s.ask(a)
	p.check(got == want, "Ask", got, want)
}

func (p *pair) hear(x api.Plain) {
	p.s.tells = nil
	p.s.hear(x)
	ts := p.l.Hear(x)
	p.strange += len(ts)
	p.check(sameTells(ts, p.s.tells), "Hear", ts)
}

func (p *pair) ticks(n int, free bool) {
	for range n {
		p.s.tells = nil
		want := p.s.tick(free)
		ps, ts := p.l.Tick(free)
		p.strange += len(ts)
		p.check(slices.Equal(ps, want) && sameTells(ts, p.s.tells), "Tick", ps, ts)
	}
}

func (p *pair) me(id uint32) {
	is := p.s.state == 0 && id != 0 && id != 0xFFFFFFFF
	if is {
		p.s.me = id
	}
	p.check(p.l.Me(id) == is, "Me")
}

// awaited is the I that comes next, with what the other one awaits.
func (p *pair) awaited(pf bool) api.Plain {
	return api.Plain{Addr: p.s.addr, Cmd: p.s.role() == 2, Kind: 1, Nr: p.puts % 8, Ns: p.s.taken % 8, PF: pf, Body: fmt.Sprint("t", p.s.taken)}
}

// u is a U that the other one may say.
func (p *pair) u(sort int) api.Plain {
	return api.Plain{Addr: p.s.addr, Cmd: p.s.role() == 2, Kind: 3, Sort: sort}
}

func (p *pair) call(id uint32, count int) api.Plain {
	return call(id, p.s.me, from(count), offer(p.puts%3))
}

const letters = "tnTZzcdxremSQOKAaBisoIPDXUMRyYw"

// do does what a letter of a story stands for.
func (p *pair) do(c rune) {
	p.story += string(c)
	switch c {
	case 't':
		p.ticks(1, true)
	case 'n':
		p.ticks(1, false)
	case 'T':
		p.ticks(69, true)
	case 'Z':
		p.ticks(199, true)
	case 'z':
		p.ticks(71, len(p.story)%2 == 0)
	case 'm':
		p.me(uint32(mine + len(p.story)%2))
	default:
		p.doMore(c)
	}
}

func (p *pair) doMore(c rune) {
	switch c {
	case 'c':
		p.ask(connect(theirs))
	case 'd':
		p.puts++
		p.ask(data(fmt.Sprint("d", p.puts)))
	case 'x', 'r', 'e':
		p.ask(ask(map[rune]int{'x': 4, 'r': 5, 'e': 6}[c]))
	case 'S':
		p.hear(p.call(theirs, 1))
	case 'Q':
		p.hear(p.call(theirs, 2))
	case 'O':
		p.hear(p.call(third, 1))
	case 'K':
		p.hear(call(theirs, p.s.me, p.s.addr, offer(1)))
	case 'A':
		p.hear(answer(theirs, p.s.me, p.s.addr, offer(p.puts%3)))
	case 'a':
		p.hear(answer(third, p.s.me, p.s.addr, offer(1)))
	case 'B':
		p.hear(answer(theirs, p.s.me, p.s.took, offer(p.puts%3)))
	case 'i', 'I':
		p.hear(p.awaited(c == 'I'))
	case 's', 'P':
		x := p.awaited(c == 'P')
		x.Kind, x.Ns, x.Body = 2, 0, ""
		p.hear(x)
	case 'o':
		x := p.awaited(true)
		x.Ns = (x.Ns + 2) % 8
		p.hear(x)
	case 'D', 'X', 'U', 'M', 'R':
		p.hear(p.u(map[rune]int{'D': 5, 'X': 6, 'U': 3, 'M': 4, 'R': 7}[c]))
	case 'y':
		p.hear(cmd(p.u(api.UXchg)))
	case 'Y':
		p.hear(last(cmd(p.awaited(true))))
	case 'w':
		x := p.awaited(true)
		x.Addr.Count++
		p.hear(x)
	}
}

func (p *pair) tell(story string) {
	for _, c := range story {
		p.do(c)
	}
}

// TestEveryShortStory: every list of a few steps, behind some that lead somewhere.
func TestEveryShortStory(t *testing.T) {
	for _, first := range []string{"", "ct", "cA", "cAttdt", "St", "StPdr", "cAxt", "cArtT", "cAet", "StDc", "SX", "cArxe"} {
		for story := range sample.Each(letters, 2) {
			p := newPair(t)
			p.tell(first)
			p.tell(story)
		}
	}
}

// TestEveryStoryWithoutWaiting: every somewhat longer one of the steps that do the most.
func TestEveryStoryWithoutWaiting(t *testing.T) {
	for _, first := range []string{"cA", "StP", "SX"} {
		for story := range sample.Each("tzxreABPDXRy", 4) {
			p := newPair(t)
			p.tell(first)
			p.tell(story)
		}
	}
}

func TestLongStories(t *testing.T) {
	// Some steps come more often than others: those that end a link are rare.
	const often = "tttttttnTzcccddddxrremSQOKAAABBiisoIIPPPXRRyYw"
	const rare = "ZDUM"
	strange := 0
	for seed := range uint32(1500) {
		p := newPair(t)
		bytes := sample.Mixed(400, seed)
		for k := 0; k < len(bytes); k += 2 {
			from := often
			if bytes[k] < 8 {
				from = rare
			}
			p.do(rune(from[int(bytes[k+1])%len(from)]))
		}
		strange += p.strange
	}
	if strange < 30_000 {
		t.Errorf("no more than %d were told", strange)
	}
}
