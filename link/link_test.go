package link

import (
	"fmt"
	"slices"
	"strings"
	"testing"
	"unsafe"

	"glowworm/api"
	"glowworm/sample"
)

const (
	mine   = 0x01020304 // the number of the one that is looked at
	theirs = 0x0A0B0C0D
	third  = 77
)

// everybody's Addr.
var everybody = api.Address{Seat: 127, Count: 255}

// at is the Addr of a link of seat 3, which is the one looked at.
func at(count int) api.Address { return api.Address{Seat: 3, Count: count} }

// from is the Addr of a link of seat 5, which is the other one.
func from(count int) api.Address { return api.Address{Seat: 5, Count: count} }

// offer is what can be told from what each other one here offers.
func offer(wait int) api.Offer {
	return api.Offer{Baud: 3, Silent: 1, Win: 4, Size: 2, Wait: 1 << wait}
}

// said is text of frames: I, S or the name of a U, ! for Cmd, ? for PF, the Addr, Nr, Ns, the Body.
func said(ps []api.Plain) string {
	names := []string{"", "xid", "nrm", "ua", "dm", "disc", "xchg", "reset"}
	var parts []string
	for _, p := range ps {
		name := []string{"", "I", fmt.Sprint("S", p.Sort), names[p.Sort]}[p.Kind]
		if p.Cmd {
			name += "!"
		}
		if p.PF {
			name += "?"
		}
		name += fmt.Sprintf(" %d.%d", p.Addr.Seat, p.Addr.Count)
		if p.Kind < 3 {
			name += fmt.Sprint(" ", p.Nr)
		}
		if p.Kind == 1 {
			name += fmt.Sprint(" ", p.Ns, " ", p.Body)
		}
		if p.Kind == 3 && p.Body != "" {
			name += setupText(p.Body)
		}
		parts = append(parts, name)
	}
	return strings.Join(parts, "; ")
}

// setupText is text of the ends and the Addr that a Setup's bytes tell of.
func setupText(b string) string {
	if len(b) != 25 {
		return fmt.Sprintf(" %x", b)
	}
	return fmt.Sprintf(" %x %x %d.%d", b[:4], b[4:8], b[8], b[9])
}

// told is text of what was told.
func told(ts []api.Tell) string {
	names := []string{"", "found", "linked", "data", "ended", "reset", "xchg", "failed"}
	var parts []string
	for _, x := range ts {
		part := names[x.Kind]
		if x.Body != "" || x.Kind == 3 {
			part += " " + x.Body
		}
		if x.Id != theirs {
			part += fmt.Sprintf(" of %x", x.Id)
		}
		if len(x.Devices) > 0 {
			part += " of devices"
		}
		parts = append(parts, part)
	}
	return strings.Join(parts, "; ")
}

// does is what a tick says and tells.
func does(l *Link, free bool) string {
	ps, ts := l.Tick(free)
	return said(ps) + "/" + told(ts)
}

// checkDoes holds one tick after the other, the air being free, against wants.
func checkDoes(t *testing.T, l *Link, promise string, wants ...string) {
	t.Helper()
	for i, want := range wants {
		if got := does(l, true); got != want {
			t.Errorf("%s: tick %d: %q, not %q", promise, i, got, want)
		}
	}
}

// checkStill holds that in n ticks nothing is said and nothing told.
func checkStill(t *testing.T, l *Link, promise string, n int) {
	t.Helper()
	for i := range n {
		if got := does(l, true); got != "/" {
			t.Fatalf("%s: tick %d: %q, not nothing", promise, i, got)
		}
	}
}

func checkHears(t *testing.T, l *Link, promise, want string, p api.Plain) {
	t.Helper()
	if got := told(l.Hear(p)); got != want {
		t.Errorf("%s: Hear(%+v): %q, not %q", promise, p, got, want)
	}
}

func checkAsk(t *testing.T, l *Link, want api.Errno, a api.Ask) {
	t.Helper()
	if got := l.Ask(a); got != want {
		t.Errorf("P20.2: Ask(%+v): %d, not %d", a, got, want)
	}
}

// seen is all that can be asked of a Link without a change.
type seen struct {
	state, role int
	addr        api.Address
	deal        api.Deal
	peer        uint32
	left        int
}

func look(l *Link) seen {
	return seen{l.State(), l.Role(), l.Addr(), l.Deal(), l.Peer(), l.Left()}
}

func checkSeen(t *testing.T, l *Link, promise string, want seen) {
	t.Helper()
	for range 2 {
		if got := look(l); got != want {
			t.Errorf("%s: %+v, not %+v", promise, got, want)
		}
	}
}

func ask(kind int) api.Ask       { return api.Ask{Kind: kind} }
func data(body string) api.Ask   { return api.Ask{Kind: api.QData, Body: body} }
func connect(id uint32) api.Ask  { return api.Ask{Kind: api.QConnect, Id: id} }
func cmd(p api.Plain) api.Plain  { p.Cmd = true; return p }
func last(p api.Plain) api.Plain { p.PF = true; return p }

// u is a U as it is heard: PF is of no matter there.
func u(sort int, a api.Address) api.Plain {
	return api.Plain{Addr: a, Kind: 3, Sort: sort}
}

func i(ns int, body string, a api.Address) api.Plain {
	return api.Plain{Addr: a, Kind: 1, Ns: ns, Body: body}
}

func s(nr int, a api.Address) api.Plain {
	return api.Plain{Addr: a, Kind: 2, Nr: nr}
}

// setupBody is a Setup's bytes.
func setupBody(from, to uint32, a api.Address, o api.Offer) string {
	var b []byte
	for _, id := range []uint32{from, to} {
		b = append(b, byte(id), byte(id>>8), byte(id>>16), byte(id>>24))
	}
	b = append(b, byte(a.Seat), byte(a.Count))
	for k, n := range []int{o.Baud, o.Silent, o.Win, o.Size, o.Wait} {
		b = append(b, byte(k+1), 1, byte(n))
	}
	return string(b)
}

func call(from, to uint32, a api.Address, o api.Offer) api.Plain {
	return api.Plain{Addr: everybody, Cmd: true, Kind: 3, Sort: api.USnrm, PF: true, Body: setupBody(from, to, a, o)}
}

func answer(from, to uint32, a api.Address, o api.Offer) api.Plain {
	return api.Plain{Addr: everybody, Kind: 3, Sort: api.UUa, PF: true, Body: setupBody(from, to, a, o)}
}

// idler is a Link that never was linked.
func idler() *Link { return New(mine, 3, offer(0)) }

// caller is one that calls.
func caller(t *testing.T) *Link {
	t.Helper()
	l := idler()
	checkAsk(t, l, api.OK, connect(theirs))
	return l
}

// primary is one that is linked as a primary; the other one offers wait.
func primary(t *testing.T, wait int) *Link {
	t.Helper()
	l := caller(t)
	checkHears(t, l, "P20.4", "linked", answer(theirs, mine, at(1), offer(wait)))
	for range wait {
		l.Tick(true)
	}
	return l
}

// secondary is one that is linked as a secondary, and has said so; the other one offers wait.
func secondary(t *testing.T, wait int) *Link {
	t.Helper()
	l := idler()
	checkHears(t, l, "P20.4", "linked", call(theirs, mine, from(1), offer(wait)))
	for range wait + 1 {
		l.Tick(true)
	}
	return l
}

// turned is a secondary that has the turn.
func turned(t *testing.T) *Link {
	t.Helper()
	l := secondary(t, 0)
	checkHears(t, l, "P20.4", "", last(cmd(s(0, from(1)))))
	return l
}

// deal is what comes of an offer of wait.
func deal(wait int) api.Deal {
	return api.Deal{Baud: 64, Silent: 200, Win: 3, Size: 16, Wait: wait}
}

func TestNew(t *testing.T) {
	for _, id := range []uint32{0, 0xFFFFFFFF} {
		if New(id, 0, offer(0)) != nil {
			t.Errorf("P20.1: New of %x is not nil", id)
		}
	}
	for _, id := range []uint32{1, 0x80000000, 0xFFFFFFFE} {
		l := New(id, 0, offer(0))
		checkSeen(t, l, "P20.1", seen{})
		checkAsk(t, l, api.ErrForm, connect(id))
	}
	for _, seat := range append([]int{-1, 8}, sample.Wrong()...) {
		if New(mine, seat, offer(0)) != nil {
			t.Errorf("P20.1: New of the seat %d is not nil", seat)
		}
	}
	for seat := range 8 {
		l := New(mine, seat, offer(0))
		l.Ask(connect(theirs))
		checkSeen(t, l, "P20.1", seen{state: 1, addr: api.Address{Seat: seat, Count: 1}, peer: theirs})
	}
	for _, o := range []api.Offer{{}, {Baud: 2, Silent: 1, Win: 4, Size: 2, Wait: 1}, {Baud: 1, Silent: 2, Win: 4, Size: 2, Wait: 1}, {Baud: 1, Silent: 1, Win: 128, Size: 2, Wait: 1}, {Baud: 1, Silent: 1, Win: 4, Size: 16, Wait: 1}, {Baud: 1, Silent: 1, Win: 4, Size: 2}, {Baud: 1, Silent: 1, Win: 4, Size: 2, Wait: 8}} {
		if New(mine, 0, o) != nil {
			t.Errorf("P20.1: New of the offer %+v is not nil", o)
		}
	}
}

func TestMe(t *testing.T) {
	l := idler()
	for _, id := range []uint32{0, 0xFFFFFFFF} {
		if l.Me(id) {
			t.Errorf("P20.1: Me(%x)", id)
		}
	}
	checkAsk(t, l, api.ErrForm, connect(mine))
	for _, id := range []uint32{0xFFFFFFFE, 9, 9} {
		if !l.Me(id) {
			t.Errorf("P20.1: Me(%x) is false", id)
		}
	}
	checkAsk(t, l, api.ErrForm, connect(9))
	checkHears(t, l, "P20.1", "", call(theirs, mine, from(1), offer(0)))
	checkAsk(t, l, api.OK, connect(mine))
	if l.Me(8) {
		t.Error("P20.1: Me in State 1")
	}
	checkDoes(t, l, "P20.1", "nrm!? 127.255 09000000 04030201 3.1/")
	checkHears(t, l, "P20.1", "linked of 1020304", answer(mine, 9, at(1), offer(0)))
	if l.Me(8) {
		t.Error("P20.1: Me in State 2")
	}
	l.Ask(ask(api.QReset))
	checkDoes(t, l, "P20.1", "nrm!? 127.255 09000000 04030201 3.2/")
	checkHears(t, l, "P20.1", "ended of 1020304", u(api.UDm, at(1)))
	if !l.Me(8) {
		t.Error("P20.1: Me behind a link")
	}
	checkHears(t, l, "P20.1", "linked", call(theirs, 8, from(1), offer(0)))
}

// TestAskOfEachState: what is answered to each Ask in each State; wrong ones change nothing.
func TestAskOfEachState(t *testing.T) {
	const ok, form, state = api.OK, api.ErrForm, api.ErrState
	for _, c := range []struct {
		a                               api.Ask
		idle, calls, primary, secondary api.Errno
	}{
		{connect(theirs), ok, state, state, state},
		{connect(third), ok, state, state, state},
		{connect(mine), form, state, state, state},
		{connect(0), form, form, form, form},
		{connect(0xFFFFFFFF), form, form, form, form},
		{api.Ask{Kind: api.QConnect, Id: third, N: 1}, form, form, form, form},
		{data(""), state, state, ok, ok},
		{data(strings.Repeat("x", 16)), state, state, ok, ok},
		{data(strings.Repeat("x", 17)), state, state, form, form},
		{data(strings.Repeat("x", 64)), state, state, form, form},
		{data(strings.Repeat("x", 65)), form, form, form, form},
		{ask(api.QDisc), state, state, ok, ok},
		{ask(api.QReset), state, state, ok, ok},
		{ask(api.QXchg), state, state, ok, state},
		{api.Ask{Kind: api.QDisc, Id: 1}, form, form, form, form},
		{api.Ask{Kind: api.QReset, N: 1}, form, form, form, form},
		{api.Ask{Kind: api.QXchg, Body: "x"}, form, form, form, form},
		{api.Ask{Kind: api.QDiscover, N: 1}, form, form, form, form},
		{api.Ask{Kind: api.QDiscover, N: 8}, form, form, form, form},
		{api.Ask{Kind: api.QAnew, Id: third}, form, form, form, form},
		{api.Ask{}, form, form, form, form},
		{ask(-1), form, form, form, form},
		{ask(8), form, form, form, form},
		{ask(1<<32 + api.QDisc), form, form, form, form},
	} {
		for k, l := range []*Link{idler(), caller(t), primary(t, 0), secondary(t, 0)} {
			want := []api.Errno{c.idle, c.calls, c.primary, c.secondary}[k]
			was := look(l)
			checkAsk(t, l, want, c.a)
			if want == ok {
				continue
			}
			checkSeen(t, l, "P20.2: nothing changes", was)
			checkDoes(t, l, "P20.2: nothing changes", []string{"/", "nrm!? 127.255 04030201 0d0c0b0a 3.1/", "S0!? 3.1 0/", "/"}[k])
		}
	}
}

func TestConnect(t *testing.T) {
	l := caller(t)
	checkSeen(t, l, "P20.2", seen{state: 1, addr: at(1), peer: theirs})
	const said = "nrm!? 127.255 04030201 0d0c0b0a 3.1/"
	if got := does(l, false); got != "/" {
		t.Errorf("P20.3: said though the air is not free: %s", got)
	}
	ps, ts := l.Tick(true)
	if len(ps) != 1 || len(ts) != 0 || ps[0] != call(mine, theirs, at(1), offer(0)) {
		t.Errorf("P20.3: %+v", ps)
	}
	for range 2 {
		checkStill(t, l, "P20.3", 69)
		checkDoes(t, l, "P20.3", said)
	}
	checkStill(t, l, "P20.3", 69)
	checkSeen(t, l, "P20.3", seen{state: 1, addr: at(1), peer: theirs})
	checkDoes(t, l, "P20.3", "/failed")
	checkSeen(t, l, "P20.3", seen{})
	checkStill(t, l, "P20.3", 300)
	// And anew: the next Addr, three tries.
	checkAsk(t, l, api.OK, connect(third))
	for range 3 {
		checkDoes(t, l, "P20.2", "nrm!? 127.255 04030201 4d000000 3.2/")
		checkStill(t, l, "P20.2", 69)
	}
	checkDoes(t, l, "P20.3", "/failed of 4d")
}

// TestPatienceRunsOutUnheard: it counts whether the air is free or not.
func TestPatienceRunsOutUnheard(t *testing.T) {
	l := caller(t)
	l.Tick(true)
	for k := range 90 {
		if got := does(l, false); got != "/" {
			t.Fatalf("P20.3: tick %d: %s", k, got)
		}
	}
	checkDoes(t, l, "P20.3", "nrm!? 127.255 04030201 0d0c0b0a 3.1/")
	checkStill(t, l, "P20.3", 69)
	checkDoes(t, l, "P20.3", "nrm!? 127.255 04030201 0d0c0b0a 3.1/")
	for range 69 {
		l.Tick(false)
	}
	if got := does(l, false); got != "/failed" {
		t.Errorf("P20.3: the third one's end: %s", got)
	}
}

// TestCounts: the next Addr is modulo 250, whatever it was taken for.
func TestCounts(t *testing.T) {
	l := idler()
	for k := 1; k <= 520; k++ {
		checkAsk(t, l, api.OK, connect(theirs))
		checkSeen(t, l, "P20.2", seen{state: 1, addr: at(k % 250), peer: theirs})
		checkHears(t, l, "P20.4", "linked", answer(theirs, mine, at(k%250), offer(0)))
		for range k % 3 {
			k++
			checkAsk(t, l, api.OK, ask(api.QReset))
			checkDoes(t, l, "P20.2", fmt.Sprintf("nrm!? 127.255 04030201 0d0c0b0a 3.%d/", k%250))
			checkHears(t, l, "P20.4", "reset", answer(theirs, mine, at(k%250), offer(0)))
		}
		checkHears(t, l, "P20.4", "ended", u(api.UDm, at(k%250)))
	}
}

// TestCountsOfItsOwn: another one's Addr is none that it took, even one of its own seat.
func TestCountsOfItsOwn(t *testing.T) {
	l := idler()
	l.Hear(call(theirs, mine, at(9), offer(0)))
	checkSeen(t, l, "P20.4", seen{state: 2, role: 2, addr: at(9), deal: deal(0), peer: theirs})
	checkHears(t, l, "P20.4", "ended", cmd(u(api.UDisc, at(9))))
	checkAsk(t, l, api.OK, connect(theirs))
	checkSeen(t, l, "P20.2", seen{state: 1, addr: at(1), peer: theirs})
}

func TestCall(t *testing.T) {
	l := idler()
	for k, p := range notCalls() {
		if ts := l.Hear(p); len(ts) != 0 || look(l) != (seen{}) || does(l, true) != "/" {
			t.Errorf("P20.4: no Setup, %d: %s", k, told(ts))
		}
	}
	checkHears(t, l, "P20.4", "linked", call(theirs, mine, from(7), offer(2)))
	checkSeen(t, l, "P20.4", seen{state: 2, role: 2, addr: from(7), deal: deal(2), peer: theirs})
	checkStill(t, l, "P20.3: a pause", 2)
	if got := does(l, false); got != "/" {
		t.Errorf("P20.3: said though the air is not free: %s", got)
	}
	ps, ts := l.Tick(true)
	if len(ps) != 1 || len(ts) != 0 || ps[0] != answer(mine, theirs, from(7), offer(0)) {
		t.Errorf("P20.4: it answers %+v", ps)
	}
	checkStill(t, l, "P20.3: it has not the turn", 100)
}

// notCalls is what is not quite a Setup to the one looked at.
func notCalls() []api.Plain {
	good := call(theirs, mine, from(7), offer(0))
	var ps []api.Plain
	add := func(change func(p *api.Plain)) {
		p := good
		change(&p)
		ps = append(ps, p)
	}
	add(func(p *api.Plain) { p.Cmd = false })
	add(func(p *api.Plain) { p.Sort = api.UUa })
	add(func(p *api.Plain) { p.Sort = api.UXid })
	add(func(p *api.Plain) { p.Kind, p.Sort = 1, 0 })
	add(func(p *api.Plain) { p.Nr = 1 })
	add(func(p *api.Plain) { p.Ns = 1 })
	add(func(p *api.Plain) { p.Addr = from(7) })
	add(func(p *api.Plain) { p.Addr.Count = 254 })
	add(func(p *api.Plain) { p.Addr.Seat = 126 })
	add(func(p *api.Plain) { p.Body = "" })
	add(func(p *api.Plain) { p.Body = p.Body[1:] })
	add(func(p *api.Plain) { p.Body += "\x01" })
	add(func(p *api.Plain) { p.Body = setupBody(theirs, third, from(7), offer(0)) })
	add(func(p *api.Plain) { p.Body = setupBody(mine, mine, from(7), offer(0)) })
	add(func(p *api.Plain) { p.Body = setupBody(0, mine, from(7), offer(0)) })
	add(func(p *api.Plain) { p.Body = setupBody(theirs, mine, api.Address{Seat: 8, Count: 7}, offer(0)) })
	add(func(p *api.Plain) { p.Body = setupBody(theirs, mine, from(250), offer(0)) })
	add(func(p *api.Plain) { p.Body = setupBody(theirs, mine, from(7), api.Offer{}) })
	add(func(p *api.Plain) { p.Body += strings.Repeat("\x09\x00", 30) })
	return append(ps, api.Plain{})
}

// TestCallWithMore: PF is of no matter, and other parameters neither.
func TestCallWithMore(t *testing.T) {
	p := call(theirs, mine, from(7), offer(0))
	p.PF = false
	p.Body += "\x09\x01x"
	l := idler()
	checkHears(t, l, "P20.4", "linked", p)
	checkDoes(t, l, "P20.4", "ua? 127.255 04030201 0d0c0b0a 5.7/")
}

func TestCallOfEachState(t *testing.T) {
	l := caller(t)
	checkHears(t, l, "P20.4: State 1", "", call(theirs, mine, from(1), offer(1)))
	checkHears(t, l, "P20.4: State 1", "", call(third, mine, from(1), offer(1)))
	checkDoes(t, l, "P20.4: State 1", "nrm!? 127.255 04030201 0d0c0b0a 3.1/")

	l = secondary(t, 0)
	l.Ask(data("old"))
	checkHears(t, l, "P20.4: another one", "", call(third, mine, from(2), offer(1)))
	checkHears(t, l, "P20.4: the same Addr", "", call(theirs, mine, from(1), offer(1)))
	checkSeen(t, l, "P20.4: the same Addr", seen{state: 2, role: 2, addr: from(1), deal: deal(0), peer: theirs, left: 1})
	// It waits as it was agreed on, whatever is offered now.
	checkDoes(t, l, "P20.4: the same Addr", "ua? 127.255 04030201 0d0c0b0a 5.1/", "/")
	checkHears(t, l, "P20.4: another Addr", "reset", call(theirs, mine, from(2), offer(1)))
	checkSeen(t, l, "P20.4: another Addr", seen{state: 2, role: 2, addr: from(2), deal: deal(1), peer: theirs})
	checkDoes(t, l, "P20.4: another Addr", "/", "ua? 127.255 04030201 0d0c0b0a 5.2/", "/")

	l = primary(t, 0)
	checkHears(t, l, "P20.4: another one", "", call(third, mine, at(1), offer(1)))
	checkHears(t, l, "P20.4: to a primary", "reset", call(theirs, mine, at(1), offer(1)))
	checkSeen(t, l, "P20.4: to a primary", seen{state: 2, role: 2, addr: at(1), deal: deal(1), peer: theirs})
	checkDoes(t, l, "P20.4: to a primary", "/", "ua? 127.255 04030201 0d0c0b0a 3.1/", "/")
}

// TestANewLinkIsNew: as a secondary it neither ends nor resets nor changes, and numbers begin anew.
func TestANewLinkIsNew(t *testing.T) {
	for _, kinds := range [][]int{{api.QDisc}, {api.QReset}, {api.QXchg}, {api.QDisc, api.QReset, api.QXchg}} {
		l := primary(t, 0)
		l.Ask(data("old"))
		l.Tick(true)
		checkHears(t, l, "P20.4", "data one", last(i(0, "one", at(1))))
		for _, k := range kinds {
			l.Ask(ask(k))
		}
		checkHears(t, l, "P20.4", "reset", call(theirs, mine, from(1), offer(0)))
		checkDoes(t, l, "P20.4", "ua? 127.255 04030201 0d0c0b0a 5.1/", "/")
		checkHears(t, l, "P20.4", "data two", last(cmd(i(0, "two", from(1)))))
		checkDoes(t, l, "P20.4", "S0? 5.1 1/")
	}
}

func TestAnswer(t *testing.T) {
	l := caller(t)
	good := answer(theirs, mine, at(1), offer(2))
	if ts := idler().Hear(good); len(ts) != 0 {
		t.Errorf("P20.4: an answer in State 0: %s", told(ts))
	}
	for k, p := range notAnswers(at(1)) {
		if ts := l.Hear(p); len(ts) != 0 || look(l) != (seen{state: 1, addr: at(1), peer: theirs}) {
			t.Errorf("P20.4: no answer, %d: %s", k, told(ts))
		}
	}
	checkDoes(t, l, "P20.3", "nrm!? 127.255 04030201 0d0c0b0a 3.1/", "/")
	checkHears(t, l, "P20.4", "linked", good)
	checkSeen(t, l, "P20.4", seen{state: 2, role: 1, addr: at(1), deal: deal(2), peer: theirs})
	checkHears(t, l, "P20.4: it does not reset", "", good)
	// Its patience is at its end, and it waits two ticks.
	checkDoes(t, l, "P20.4", "/", "/", "S0!? 3.1 0/")
}

// notAnswers is what is not quite an answer of that Addr.
func notAnswers(a api.Address) []api.Plain {
	good := answer(theirs, mine, a, offer(2))
	var ps []api.Plain
	add := func(change func(p *api.Plain)) {
		p := good
		change(&p)
		ps = append(ps, p)
	}
	add(func(p *api.Plain) { p.Cmd = true })
	add(func(p *api.Plain) { p.Sort = api.USnrm })
	add(func(p *api.Plain) { p.Sort = api.UDm })
	add(func(p *api.Plain) { p.Kind, p.Sort = 1, 0 })
	add(func(p *api.Plain) { p.Ns = 1 })
	add(func(p *api.Plain) { p.Addr = a })
	add(func(p *api.Plain) { p.Addr.Count = 0 })
	add(func(p *api.Plain) { p.Body = "" })
	add(func(p *api.Plain) { p.Body += "\x01" })
	add(func(p *api.Plain) { p.Body = setupBody(third, mine, a, offer(2)) })
	add(func(p *api.Plain) { p.Body = setupBody(mine, mine, a, offer(2)) })
	add(func(p *api.Plain) { p.Body = setupBody(theirs, third, a, offer(2)) })
	add(func(p *api.Plain) { p.Body = setupBody(theirs, mine, api.Address{Seat: 4, Count: a.Count}, offer(2)) })
	add(func(p *api.Plain) { p.Body = setupBody(theirs, mine, at(a.Count+1), offer(2)) })
	add(func(p *api.Plain) { p.Body = setupBody(theirs, mine, at(a.Count-1), offer(2)) })
	add(func(p *api.Plain) {
		p.Body = setupBody(theirs, mine, a, api.Offer{Baud: 2, Silent: 1, Win: 1, Size: 1, Wait: 1})
	})
	return ps
}

func TestData(t *testing.T) {
	l := primary(t, 0)
	for k := range 8 {
		checkAsk(t, l, api.OK, data(fmt.Sprint("b", k)))
	}
	checkAsk(t, l, api.ErrFull, data("b8"))
	checkAsk(t, l, api.ErrForm, data(strings.Repeat("x", 17)))
	checkDoes(t, l, "P20.3", "I! 3.1 0 0 b0; I! 3.1 0 1 b1; I!? 3.1 0 2 b2/", "/")
	// One that is late, and not the last: the turn is not given back.
	checkHears(t, l, "P20.4", "data a0", i(0, "a0", at(1)))
	checkHears(t, l, "P20.4: twice", "", i(0, "a0", at(1)))
	checkStill(t, l, "P20.3", 68)
	checkDoes(t, l, "P20.3: it takes the turn back", "I! 3.1 1 0 b0; I! 3.1 1 1 b1; I!? 3.1 1 2 b2/")
	checkHears(t, l, "P20.4", "", last(s(2, at(1))))
	checkSeen(t, l, "P20.4", seen{state: 2, role: 1, addr: at(1), deal: deal(0), peer: theirs, left: 6})
	checkDoes(t, l, "P20.3", "I! 3.1 1 2 b2; I! 3.1 1 3 b3; I!? 3.1 1 4 b4/")
	x := last(i(1, "", at(1)))
	x.Nr = 5
	checkHears(t, l, "P20.4: an empty one", "data ", x)
	checkDoes(t, l, "P20.3", "I! 3.1 2 5 b5; I! 3.1 2 6 b6; I!? 3.1 2 7 b7/")
	checkHears(t, l, "P20.4", "", last(s(0, at(1))))
	checkHears(t, l, "P20.4: the turn is its own already", "data a2", last(i(2, "a2", at(1))))
	checkDoes(t, l, "P20.3: nothing to be told", "S0!? 3.1 3/")
	checkHears(t, l, "P20.4: one is missed", "", last(i(4, "a4", at(1))))
	checkDoes(t, l, "P20.3", "S2!? 3.1 3/")
}

func TestDataOfASecondary(t *testing.T) {
	l := secondary(t, 1)
	checkAsk(t, l, api.OK, data("b0"))
	checkStill(t, l, "P20.3: it has not the turn", 100)
	checkHears(t, l, "P20.4", "data a0", cmd(i(0, "a0", from(1))))
	checkStill(t, l, "P20.3: it has not the turn", 3)
	checkHears(t, l, "P20.4", "data a1", last(cmd(i(1, "a1", from(1)))))
	checkDoes(t, l, "P20.3: a pause", "/", "I? 5.1 2 0 b0/")
	checkStill(t, l, "P20.3: it has no patience that could end", 100)
	checkHears(t, l, "P20.4", "", last(cmd(s(1, from(1)))))
	if l.Left() != 0 {
		t.Error("P20.4: Left of what was acknowledged")
	}
	checkDoes(t, l, "P20.3: a pause", "/", "S0? 5.1 2/")
}

// TestPauseOfTheTurn: there is one when the turn comes, none for what comes behind that.
func TestPauseOfTheTurn(t *testing.T) {
	l := primary(t, 2)
	l.Tick(true)
	checkHears(t, l, "P20.4", "", s(0, at(1)))
	checkHears(t, l, "P20.4", "", last(s(0, at(1))))
	l.Tick(true)
	checkHears(t, l, "P20.4", "", last(s(0, at(1))))
	checkDoes(t, l, "P20.4", "/", "S0!? 3.1 0/")
	// Patience stays where the turn was its own: it asked for the end.
	l = primary(t, 2)
	l.Ask(ask(api.QDisc))
	l.Tick(true)
	checkHears(t, l, "P20.4", "", last(s(0, at(1))))
	checkStill(t, l, "P20.4", 69)
	checkDoes(t, l, "P20.3", "disc!? 3.1/")
}

// TestPauseIsNotFree: it goes by while the air is not free, too.
func TestPauseIsNotFree(t *testing.T) {
	l := idler()
	l.Hear(call(theirs, mine, from(1), offer(2)))
	l.Tick(false)
	l.Tick(false)
	checkDoes(t, l, "P20.3", "ua? 127.255 04030201 0d0c0b0a 5.1/")
}

func TestNotItsOwn(t *testing.T) {
	for k, l := range []*Link{primary(t, 0), secondary(t, 0)} {
		own := []api.Address{at(1), from(1)}[k]
		l.Tick(true)
		l.silence = 150
		var ps []api.Plain
		for _, a := range []api.Address{everybody, {Seat: own.Seat, Count: own.Count + 1}, {Seat: own.Seat + 1, Count: own.Count}, {}, {Seat: own.Seat, Count: 255}} {
			for _, c := range []bool{false, true} {
				for sort := 1; sort <= 7; sort++ {
					ps = append(ps, api.Plain{Addr: a, Cmd: c, Kind: 3, Sort: sort})
				}
				ps = append(ps, api.Plain{Addr: a, Cmd: c, Kind: 1, PF: true}, api.Plain{Addr: a, Cmd: c, Kind: 2, PF: true})
			}
		}
		for _, n := range append(sample.Wrong(), 9) {
			ps = append(ps, api.Plain{Addr: own, Cmd: k == 1, Kind: 2, Nr: n, PF: true}, api.Plain{Addr: own, Cmd: k == 1, Kind: 1, Ns: n, PF: true})
			ps = append(ps, api.Plain{Addr: own, Cmd: k == 1, Kind: 3, Sort: n}, api.Plain{Addr: own, Cmd: k == 1, Kind: n})
		}
		// A command is nothing to a primary, an answer nothing to a secondary.
		for sort := 1; sort <= 7; sort++ {
			ps = append(ps, api.Plain{Addr: own, Cmd: k == 0, Kind: 3, Sort: sort, PF: true})
		}
		ps = append(ps, api.Plain{Addr: own, Cmd: k == 0, Kind: 1, PF: true, Body: "x"}, api.Plain{Addr: own, Cmd: k == 0, Kind: 2, PF: true})
		ps = append(ps, api.Plain{Addr: own, Cmd: k == 1, Kind: 1, PF: true, Body: strings.Repeat("x", 65)}, api.Plain{Addr: own, Cmd: k == 1, Kind: 2, PF: true, Body: "x"}, api.Plain{Addr: own, Cmd: k == 1, Kind: 2, Sort: 3})
		was := *l
		for _, p := range ps {
			if got := told(l.Hear(p)); got != "" || *l != was || l.turn.Mine() {
				t.Fatalf("P20.4: Hear(%+v) is not nothing: %q", p, got)
			}
		}
		checkStill(t, l, "P20.4: silence goes on", 49)
		checkDoes(t, l, "P20.4: silence goes on", "/ended")
	}
}

// TestOthers: what means nothing to it was heard all the same.
func TestOthers(t *testing.T) {
	for k, sorts := range [][]int{{api.UXid, api.USnrm, api.UUa, api.UDisc, api.UXchg}, {api.UXid, api.USnrm, api.UUa, api.UDm, api.UReset}} {
		for _, sort := range sorts {
			l := []*Link{primary(t, 0), secondary(t, 0)}[k]
			p := u(sort, l.Addr())
			p.Cmd = k == 1
			l.Tick(true)
			l.silence = 199
			was := look(l)
			checkHears(t, l, "P20.4: others", "", p)
			checkSeen(t, l, "P20.4: others", was)
			if got := does(l, false); got != "/" || l.silence != 1 {
				t.Errorf("P20.4: behind the U %d: %s, silence of %d", sort, got, l.silence)
			}
		}
	}
}

// TestSilence holds G3: of each agreement, in either role, whether the air is free or not.
func TestSilence(t *testing.T) {
	for k, ticks := range []int{200, 300, 500} {
		o := api.Offer{Baud: 1, Silent: 1, Win: 1, Size: 1, Wait: 1}
		o.Silent |= 1 << k
		for _, free := range []bool{false, true} {
			for role := 1; role <= 2; role++ {
				l := New(mine, 3, o)
				if role == 1 {
					l.Ask(connect(theirs))
					l.Hear(answer(theirs, mine, at(1), o))
				} else {
					l.Hear(call(theirs, mine, from(1), o))
				}
				// Both have bit 0: it is the lowest.
				l.deal.Silent = ticks
				for n := 1; n < ticks; n++ {
					if _, ts := l.Tick(free); len(ts) != 0 || l.State() != 2 {
						t.Fatalf("G3: tick %d of %d: %s", n, ticks, told(ts))
					}
				}
				if got := does(l, free); got != "/ended" {
					t.Errorf("G3: at %d: %s", ticks, got)
				}
				checkSeen(t, l, "G3", seen{})
			}
		}
	}
}

// TestWhatEndsSilence: what is heard of the link, and a Setup of it, does.
func TestWhatEndsSilence(t *testing.T) {
	for k, p := range []api.Plain{cmd(s(0, from(1))), last(cmd(s(7, from(1)))), cmd(i(5, "", from(1))), cmd(u(api.UXid, from(1))), call(theirs, mine, from(1), offer(0)), call(theirs, mine, from(2), offer(0))} {
		l := secondary(t, 0)
		for range 198 {
			l.Tick(false)
		}
		l.Hear(p)
		for n := 1; n < 200; n++ {
			if got := does(l, false); got != "/" {
				t.Fatalf("P20.4, %d: tick %d: %s", k, n, got)
			}
		}
		if got := does(l, false); got != "/ended" {
			t.Errorf("P20.4, %d: %s", k, got)
		}
	}
	l := primary(t, 0)
	l.Ask(ask(api.QReset))
	l.Tick(true)
	for range 190 {
		l.Tick(false)
	}
	checkHears(t, l, "P20.4", "reset", answer(theirs, mine, at(2), offer(0)))
	for n := 1; n < 200; n++ {
		if got := does(l, false); got != "/" {
			t.Fatalf("P20.4: tick %d: %s", n, got)
		}
	}
	if got := does(l, false); got != "/ended" {
		t.Errorf("P20.4: %s", got)
	}
}

// TestSilenceIsTheFirst: nothing more comes of the tick in which it ends the link.
func TestSilenceIsTheFirst(t *testing.T) {
	l := secondary(t, 0)
	l.silence = 199
	l.owed = u(api.UUa, from(1))
	l.pause = 1
	checkDoes(t, l, "P20.3", "/ended", "/", "ua 5.1/", "/")
	l = primary(t, 0)
	l.Tick(true)
	l.silence, l.patience = 199, 1
	checkDoes(t, l, "P20.3", "/ended", "/")
}

func TestEndOfAPrimary(t *testing.T) {
	l := primary(t, 1)
	l.Ask(data("never"))
	checkAsk(t, l, api.OK, ask(api.QDisc))
	checkDoes(t, l, "P20.3", "disc!? 3.1/")
	checkStill(t, l, "P20.3", 69)
	checkDoes(t, l, "P20.3", "disc!? 3.1/")
	checkStill(t, l, "P20.3", 5)
	checkHears(t, l, "P20.4", "ended", u(api.UUa, at(1)))
	checkSeen(t, l, "P20.4", seen{})
	checkStill(t, l, "P20.4", 300)
	// It ends though it may not wish to: the other one has none.
	l = primary(t, 0)
	l.Tick(true)
	checkHears(t, l, "P20.4: it does not end", "", u(api.UUa, at(1)))
	checkHears(t, l, "P20.4", "ended", u(api.UDm, at(1)))
	checkSeen(t, l, "P20.4", seen{})
	// Without the turn it waits for it.
	l = primary(t, 0)
	l.Tick(true)
	l.Ask(ask(api.QDisc))
	checkStill(t, l, "P20.3", 10)
	checkHears(t, l, "P20.4", "", last(s(0, at(1))))
	checkDoes(t, l, "P20.3", "disc!? 3.1/")
}

// lively keeps its link from silence.
func lively(l *Link) *Link {
	l.silence = 0
	return l
}

func TestTriesOfAnEnd(t *testing.T) {
	for _, kind := range []int{api.QDisc, api.QReset} {
		l := primary(t, 0)
		l.Ask(ask(kind))
		want := []string{"disc!? 3.1/", "nrm!? 127.255 04030201 0d0c0b0a 3.2/"}[kind-api.QDisc]
		for range 3 {
			checkDoes(t, l, "P20.3", want)
			checkStill(t, lively(l), "P20.3", 69)
		}
		if got := does(lively(l), false); got != "/ended" {
			t.Errorf("P20.3: behind three tries: %s", got)
		}
		checkSeen(t, l, "P20.3", seen{})
		checkStill(t, l, "P20.3", 100)
	}
}

// TestTriesAnew: who is asked for the end once more has all its tries; who is asked to reset once more has not.
func TestTriesAnew(t *testing.T) {
	l := primary(t, 0)
	l.Ask(ask(api.QDisc))
	for range 2 {
		for range 3 {
			checkDoes(t, l, "P20.2", "disc!? 3.1/")
			checkStill(t, lively(l), "P20.2", 69)
		}
		checkAsk(t, l, api.OK, ask(api.QDisc))
	}
	checkDoes(t, lively(l), "P20.2", "disc!? 3.1/")

	l = primary(t, 0)
	l.Ask(ask(api.QReset))
	for range 3 {
		checkDoes(t, l, "P20.2", "nrm!? 127.255 04030201 0d0c0b0a 3.2/")
		checkStill(t, lively(l), "P20.2", 69)
		checkAsk(t, l, api.OK, ask(api.QReset))
	}
	checkDoes(t, lively(l), "P20.2", "/ended")

	// Tries of one thing are none of the other one.
	l = primary(t, 0)
	l.Ask(ask(api.QDisc))
	for range 3 {
		l.Tick(true)
		checkStill(t, lively(l), "P20.2", 69)
	}
	checkAsk(t, l, api.OK, ask(api.QReset))
	checkDoes(t, lively(l), "P20.3: its end is ahead of that", "disc!? 3.1/")
}

// TestTriesAreOfEndsAlone: data and a change of places are tried as long as something is heard.
func TestTriesAreOfEndsAlone(t *testing.T) {
	for _, a := range []api.Ask{data("a"), ask(api.QXchg)} {
		l := primary(t, 0)
		l.Ask(a)
		want := map[int]string{api.QData: "I!? 3.1 0 0 a/", api.QXchg: "xchg!? 3.1/"}[a.Kind]
		for range 9 {
			checkDoes(t, lively(l), "P20.3", want)
			checkStill(t, lively(l), "P20.3", 69)
		}
	}
}

// TestMoreThanThreeTries: a UReset has it try at once, and it ends behind more than three, too.
func TestMoreThanThreeTries(t *testing.T) {
	l := primary(t, 0)
	l.Ask(ask(api.QReset))
	for range 4 {
		checkDoes(t, l, "P20.4", "nrm!? 127.255 04030201 0d0c0b0a 3.2/", "/")
		checkHears(t, l, "P20.4", "", u(api.UReset, at(1)))
	}
	checkDoes(t, l, "P20.4", "nrm!? 127.255 04030201 0d0c0b0a 3.2/")
	checkStill(t, l, "P20.3", 69)
	checkDoes(t, l, "P20.3", "/ended")
}

func TestEndOfASecondary(t *testing.T) {
	l := secondary(t, 0)
	l.Ask(data("never"))
	checkAsk(t, l, api.OK, ask(api.QDisc))
	checkStill(t, l, "P20.3: it has not the turn", 20)
	checkHears(t, l, "P20.4", "", last(cmd(s(0, from(1)))))
	checkDoes(t, l, "P20.3", "dm? 5.1/ended", "/")
	checkSeen(t, l, "P20.3", seen{})
}

func TestTheOtherOneEnds(t *testing.T) {
	l := secondary(t, 2)
	checkHears(t, l, "P20.4", "ended", cmd(u(api.UDisc, from(1))))
	checkSeen(t, l, "P20.4", seen{})
	if got := does(l, true) + does(l, false) + does(l, false); got != "///" {
		t.Errorf("P20.3: a pause, and the air is not free: %s", got)
	}
	checkDoes(t, l, "P20.4: what is owed is said in State 0, too", "ua? 5.1/", "/")
	// Where it owes the other answer yet, it owes this one now.
	l = idler()
	l.Hear(call(theirs, mine, from(1), offer(1)))
	checkHears(t, l, "P20.4", "ended", cmd(u(api.UDisc, from(1))))
	checkDoes(t, l, "P20.4", "/", "ua? 5.1/", "/")
}

// TestOwedGoesFirst: ahead of a Setup, and of data, without patience.
func TestOwedGoesFirst(t *testing.T) {
	l := secondary(t, 2)
	l.Hear(cmd(u(api.UDisc, from(1))))
	checkAsk(t, l, api.OK, connect(theirs))
	checkDoes(t, l, "P20.2: no pause", "ua? 5.1/", "nrm!? 127.255 04030201 0d0c0b0a 3.1/", "/")
	// A new link owes nothing of that.
	l = secondary(t, 2)
	l.Hear(cmd(u(api.UDisc, from(1))))
	l.Ask(connect(theirs))
	checkHears(t, l, "P20.4", "linked", answer(theirs, mine, at(1), offer(0)))
	checkDoes(t, l, "P20.4", "S0!? 3.1 0/")
	// It is owed when silence has ended the link, too.
	l = idler()
	l.Hear(call(theirs, mine, from(1), offer(0)))
	for range 200 {
		l.Tick(false)
	}
	checkSeen(t, l, "G3", seen{})
	checkDoes(t, l, "P20.4", "ua? 127.255 04030201 0d0c0b0a 5.1/", "/")
	// Data comes behind it.
	l = idler()
	l.Hear(call(theirs, mine, from(1), offer(0)))
	l.Hear(last(cmd(s(0, from(1)))))
	checkDoes(t, l, "P20.3", "ua? 127.255 04030201 0d0c0b0a 5.1/", "S0? 5.1 0/", "/")
	// So does a command.
	l = idler()
	l.Hear(call(theirs, mine, from(1), offer(0)))
	checkHears(t, l, "P20.4", "xchg", cmd(u(api.UXchg, from(1))))
	checkDoes(t, l, "P20.3", "ua? 127.255 04030201 0d0c0b0a 5.1/", "S0!? 5.1 0/", "/")
}

func TestResetOfAPrimary(t *testing.T) {
	l := primary(t, 0)
	l.Ask(data("lost"))
	l.Tick(true)
	checkAsk(t, l, api.OK, ask(api.QReset))
	checkStill(t, l, "P20.3: it has not the turn", 5)
	checkHears(t, l, "P20.4", "", last(s(0, at(1))))
	checkDoes(t, l, "P20.3", "nrm!? 127.255 04030201 0d0c0b0a 3.2/", "/")
	checkSeen(t, l, "P20.3", seen{state: 2, role: 1, addr: at(1), deal: deal(0), peer: theirs, left: 1})
	was := *l
	for k, p := range notAnswers(at(2)) {
		// Some of these are of its Addr, and not of the answer's.
		if p.Addr == at(2) || p.Addr == everybody {
			if ts := l.Hear(p); len(ts) != 0 || *l != was {
				t.Errorf("P20.4: no answer, %d: %s", k, told(ts))
			}
		}
	}
	l.Ask(ask(api.QDisc))
	l.Ask(ask(api.QXchg))
	checkHears(t, l, "P20.4", "reset", answer(theirs, mine, at(2), offer(2)))
	checkSeen(t, l, "P20.4", seen{state: 2, role: 1, addr: at(2), deal: deal(2), peer: theirs})
	l.Ask(data("new"))
	checkDoes(t, l, "P20.4", "/", "/", "I!? 3.2 0 0 new/")
	checkHears(t, l, "P20.4: it does not reset any more", "", answer(theirs, mine, at(2), offer(2)))
	// The answer of another Addr is none though the other one's number fits.
	l = primary(t, 0)
	checkHears(t, l, "P20.4: it does not reset", "", answer(theirs, mine, api.Address{}, offer(0)))
	checkHears(t, l, "P20.4: it does not reset", "", answer(theirs, mine, at(2), offer(0)))
}

func TestResetOfASecondary(t *testing.T) {
	l := secondary(t, 1)
	l.Ask(data("lost"))
	checkAsk(t, l, api.OK, ask(api.QReset))
	checkAsk(t, l, api.OK, ask(api.QReset))
	checkStill(t, l, "P20.3: it has not the turn", 20)
	for range 2 {
		checkHears(t, l, "P20.4", "", last(cmd(s(0, from(1)))))
		checkDoes(t, l, "P20.3", "/", "reset? 5.1/", "/")
	}
	checkHears(t, l, "P20.4: no answer to it", "", answer(theirs, mine, api.Address{}, offer(0)))
	checkHears(t, l, "P20.4: no answer to it", "", answer(theirs, mine, at(1), offer(0)))
	// turn.Go was asked, and counts: what was not said can be acknowledged.
	checkHears(t, l, "P20.3", "", last(cmd(s(1, from(1)))))
	if l.Left() != 0 {
		t.Errorf("P20.3: Left %d", l.Left())
	}
	checkHears(t, l, "P20.4", "reset", call(theirs, mine, from(2), offer(1)))
	checkDoes(t, l, "P20.4", "/", "ua? 127.255 04030201 0d0c0b0a 5.2/", "/")
	checkHears(t, l, "P20.4", "", last(cmd(s(0, from(2)))))
	checkDoes(t, l, "P20.4: it does not reset any more", "/", "S0? 5.2 0/")
	// It took no Addr.
	checkHears(t, l, "P20.4", "ended", cmd(u(api.UDisc, from(2))))
	checkAsk(t, l, api.OK, connect(theirs))
	checkSeen(t, l, "P20.2", seen{state: 1, addr: at(1), peer: theirs})
}

func TestTheOtherOneResets(t *testing.T) {
	l := primary(t, 2)
	l.Ask(data("b0"))
	checkDoes(t, l, "P20.3", "I!? 3.1 0 0 b0/", "/")
	checkHears(t, l, "P20.4", "", u(api.UReset, at(1)))
	checkDoes(t, l, "P20.4", "/", "/", "nrm!? 127.255 04030201 0d0c0b0a 3.2/", "/")
	// It does already: no other Addr.
	checkHears(t, l, "P20.4", "", u(api.UReset, at(1)))
	checkDoes(t, l, "P20.4", "/", "/", "nrm!? 127.255 04030201 0d0c0b0a 3.2/", "/")
	checkHears(t, l, "P20.4", "reset", answer(theirs, mine, at(2), offer(0)))
	// In its own turn, too; and the end is ahead of that.
	checkHears(t, l, "P20.4", "", u(api.UReset, at(2)))
	checkAsk(t, l, api.OK, ask(api.QDisc))
	checkDoes(t, l, "P20.3", "disc!? 3.2/", "/")
}

func TestChangeOfAPrimary(t *testing.T) {
	for _, p := range []api.Plain{i(0, "x", at(1)), last(i(0, "x", at(1))), last(s(0, at(1))), u(api.UXid, at(1)), u(api.UDisc, at(1)), u(api.USnrm, at(1))} {
		l := primary(t, 2)
		l.Ask(data("b0"))
		checkAsk(t, l, api.OK, ask(api.QXchg))
		checkAsk(t, l, api.OK, ask(api.QXchg))
		checkDoes(t, l, "P20.3", "xchg!? 3.1/", "/")
		checkStill(t, l, "P20.3", 68)
		checkDoes(t, l, "P20.3: once more", "xchg!? 3.1/", "/")
		ts := told(l.Hear(cmd(p)))
		switch {
		case p.Kind == 1:
			checkAll(t, ts, "xchg; data x")
		case p.Sort == api.UDisc:
			checkAll(t, ts, "xchg; ended")
			checkDoes(t, l, "P20.4", "/", "/", "ua? 3.1/", "/")
			continue
		default:
			checkAll(t, ts, "xchg")
		}
		checkSeen(t, l, "P20.4", seen{state: 2, role: 2, addr: at(1), deal: deal(2), peer: theirs, left: 1})
		checkAsk(t, l, api.ErrState, ask(api.QXchg))
		if p.PF {
			checkDoes(t, l, "P20.4: the turn came with it", "/", "/", fmt.Sprintf("I? 3.1 %d 0 b0/", 2-p.Kind))
			continue
		}
		checkStill(t, l, "P20.4: a secondary waits", 100)
		checkHears(t, l, "P20.4: it is none that changes", "xchg", cmd(u(api.UXchg, at(1))))
		checkHears(t, l, "P20.4: it is none that changes", "", cmd(u(api.UXchg, at(1))))
	}
}

// checkAll holds what is told.
func checkAll(t *testing.T, got, want string) {
	t.Helper()
	if got != want {
		t.Errorf("P20.4: %q was told, not %q", got, want)
	}
}

// TestBothChange: who is asked to change, and hears a command, is a secondary, and then hears it as one.
func TestBothChange(t *testing.T) {
	l := primary(t, 1)
	l.Ask(ask(api.QXchg))
	checkHears(t, l, "P20.4", "xchg; xchg", cmd(u(api.UXchg, at(1))))
	checkSeen(t, l, "P20.4", seen{state: 2, role: 1, addr: at(1), deal: deal(1), peer: theirs})
	checkDoes(t, l, "P20.4: it changes no more", "/", "S0!? 3.1 0/")
	// An answer has no place changed.
	l = primary(t, 1)
	l.Ask(ask(api.QXchg))
	checkHears(t, l, "P20.4", "", last(s(0, at(1))))
	checkDoes(t, l, "P20.4: it changes yet", "xchg!? 3.1/")
	// It is of no matter that the turn was its own.
	checkHears(t, l, "P20.4", "xchg; data x", last(cmd(i(0, "x", at(1)))))
	checkDoes(t, l, "P20.4", "/", "S0? 3.1 1/")
}

// TestAChangeEndsPatience: a secondary awaits no answer, whatever it tried as a primary.
func TestAChangeEndsPatience(t *testing.T) {
	l := primary(t, 0)
	l.Ask(ask(api.QXchg))
	l.Ask(ask(api.QDisc))
	for range 2 {
		checkDoes(t, l, "P20.3", "disc!? 3.1/")
		checkStill(t, lively(l), "P20.3", 69)
	}
	checkDoes(t, l, "P20.3", "disc!? 3.1/")
	checkHears(t, l, "P20.4", "xchg", cmd(s(0, at(1))))
	checkStill(t, l, "P20.4", 100)
	checkHears(t, l, "P20.4", "", last(cmd(s(0, at(1)))))
	checkDoes(t, l, "P20.3: it ends yet", "dm? 3.1/ended", "/")
}

func TestChangeOfASecondary(t *testing.T) {
	l := secondary(t, 2)
	l.Ask(data("b0"))
	checkHears(t, l, "P20.4", "xchg", cmd(u(api.UXchg, from(1))))
	checkSeen(t, l, "P20.4", seen{state: 2, role: 1, addr: from(1), deal: deal(2), peer: theirs, left: 1})
	checkHears(t, l, "P20.4: it comes twice", "", cmd(u(api.UXchg, from(1))))
	checkDoes(t, l, "P20.4", "/", "/", "I!? 5.1 0 0 b0/", "/")
	checkHears(t, l, "P20.4", "data x", last(i(0, "x", from(1))))
	// Its own next Addr.
	checkAsk(t, l, api.OK, ask(api.QReset))
	checkDoes(t, l, "P20.2", "/", "/", "nrm!? 127.255 04030201 0d0c0b0a 3.1/", "/")
	checkHears(t, l, "P20.4", "reset", answer(theirs, mine, at(1), offer(0)))
	checkSeen(t, l, "P20.4", seen{state: 2, role: 1, addr: at(1), deal: deal(0), peer: theirs})
}

// TestAChangeThatResets: a primary takes its next Addr when it comes to be one, with no tries.
func TestAChangeThatResets(t *testing.T) {
	l := secondary(t, 0)
	checkAsk(t, l, api.OK, ask(api.QReset))
	checkHears(t, l, "P20.4", "xchg", cmd(u(api.UXchg, from(1))))
	for range 2 {
		checkDoes(t, l, "P20.4", "nrm!? 127.255 04030201 0d0c0b0a 3.1/")
		checkStill(t, lively(l), "P20.3", 69)
	}
	// It changes back, and comes to be a primary once more.
	checkAsk(t, l, api.OK, ask(api.QXchg))
	checkHears(t, l, "P20.4", "xchg", cmd(s(0, from(1))))
	checkHears(t, l, "P20.4: a secondary awaits no answer", "", answer(theirs, mine, at(1), offer(0)))
	checkHears(t, l, "P20.4", "xchg", cmd(u(api.UXchg, from(1))))
	for range 3 {
		checkDoes(t, lively(l), "P20.4", "nrm!? 127.255 04030201 0d0c0b0a 3.2/")
		checkHears(t, l, "P20.4: of the one ahead", "", answer(theirs, mine, at(1), offer(0)))
		checkStill(t, lively(l), "P20.3", 69)
	}
	checkDoes(t, lively(l), "P20.3", "/ended")
	// Who does not reset keeps its tries, and takes no Addr.
	l = secondary(t, 0)
	l.Hear(cmd(u(api.UXchg, from(1))))
	checkAsk(t, l, api.OK, ask(api.QReset))
	checkDoes(t, l, "P20.4", "nrm!? 127.255 04030201 0d0c0b0a 3.1/")
}

// TestWhatIsSaidFirst: of all that it was asked for.
func TestWhatIsSaidFirst(t *testing.T) {
	l := primary(t, 0)
	for _, a := range []api.Ask{data("a"), ask(api.QXchg), ask(api.QReset), ask(api.QDisc)} {
		l.Ask(a)
		want := map[int]string{api.QData: "I!? 3.1 0 0 a/", api.QXchg: "xchg!? 3.1/", api.QReset: "nrm!? 127.255 04030201 0d0c0b0a 3.2/", api.QDisc: "disc!? 3.1/"}[a.Kind]
		checkDoes(t, l, "P20.3", want, "/")
		l.Hear(last(s(0, at(1))))
		checkStill(t, lively(l), "P20.3", map[bool]int{true: 0, false: 68}[a.Kind == api.QData])
	}
	l = turned(t)
	l.Ask(data("a"))
	checkDoes(t, l, "P20.3", "I? 5.1 0 0 a/", "/")
	for _, kind := range []int{api.QReset, api.QDisc} {
		l.Ask(ask(kind))
		l.Hear(last(cmd(s(0, from(1)))))
		want := map[int]string{api.QReset: "reset? 5.1/", api.QDisc: "dm? 5.1/ended"}[kind]
		checkDoes(t, l, "P20.3", want, "/")
	}
}

// TestNotFree: nothing is said, but all that goes by goes by.
func TestNotFree(t *testing.T) {
	for k, l := range []*Link{caller(t), primary(t, 0), turned(t), turned(t), idler()} {
		if k == 3 {
			l.Ask(ask(api.QDisc))
		}
		if k == 4 {
			l.Hear(call(theirs, mine, from(1), offer(0)))
		}
		for range 5 {
			if got := does(l, false); got != "/" {
				t.Errorf("P20.3: not free, %d: %s", k, got)
			}
		}
		if got := does(l, true); got == "/" {
			t.Errorf("P20.3: free, %d: %s", k, got)
		}
	}
}

func TestAnswersAreNewMemory(t *testing.T) {
	l := primary(t, 0)
	l.Ask(data("a"))
	l.Ask(data("b"))
	ps, _ := l.Tick(true)
	ps = ps[:cap(ps)]
	for k := range ps {
		ps[k] = api.Plain{Body: "!"}
	}
	checkStill(t, l, "P0.3", 69)
	checkDoes(t, l, "P0.3", "I! 3.1 0 0 a; I!? 3.1 0 1 b/")
	ts := l.Hear(last(i(0, "x", at(1))))
	ts = ts[:cap(ts)]
	for k := range ts {
		ts[k] = api.Tell{Kind: 1, Body: "!"}
	}
	checkHears(t, l, "P0.3", "data y", i(1, "y", at(1)))
	// What is owed, and said again.
	l = secondary(t, 0)
	for range 2 {
		l.Hear(call(theirs, mine, from(1), offer(0)))
		ps, _ := l.Tick(true)
		if said(ps) != "ua? 127.255 04030201 0d0c0b0a 5.1" {
			t.Errorf("P0.3: %s", said(ps))
		}
		ps[0] = api.Plain{}
	}
}

func TestNoMoreIsKept(t *testing.T) {
	b := []byte("body")
	body := unsafe.String(&b[0], len(b))
	l := primary(t, 0)
	l.Ask(data(body))
	ts := l.Hear(i(0, body, at(1)))
	copy(b, "!!!!")
	if told(ts) != "data body" {
		t.Errorf("P0.3: %s", told(ts))
	}
	checkDoes(t, l, "P0.3", "I!? 3.1 1 0 body/")
	c := []byte(setupBody(theirs, mine, from(1), offer(0)))
	p := call(theirs, mine, from(1), offer(0))
	p.Body = unsafe.String(&c[0], len(c))
	l = idler()
	l.Hear(p)
	clear(c)
	checkDoes(t, l, "P0.3", "ua? 127.255 04030201 0d0c0b0a 5.1/")
}

func TestNil(t *testing.T) {
	var l *Link
	for _, a := range []api.Ask{{}, connect(theirs), data("x"), ask(api.QDisc), ask(-1), {Kind: api.QAnew, Id: 3}} {
		checkAsk(t, l, api.ErrDown, a)
	}
	for _, p := range slices.Concat(notCalls(), notAnswers(at(1)), []api.Plain{call(theirs, mine, from(1), offer(0))}) {
		if len(l.Hear(p)) != 0 {
			t.Error("P20.4: Hear of a nil Link")
		}
	}
	for _, free := range []bool{false, true} {
		if ps, ts := l.Tick(free); len(ps) != 0 || len(ts) != 0 {
			t.Error("P20.4: Tick of a nil Link")
		}
	}
	for _, id := range []uint32{0, 1, mine, 0xFFFFFFFF} {
		if l.Me(id) {
			t.Error("P20.4: Me of a nil Link")
		}
	}
	checkSeen(t, l, "P20.4", seen{})
}

// TestEmpty: one that New did not make is not promised to work, but nothing panics.
func TestEmpty(t *testing.T) {
	for _, story := range []string{"tccttt", "Stttdtdxrett", "xdretAtt", "cttAtdtti", "mcAtrtBtt"} {
		p := &pair{l: new(Link), s: newSecond(mine, 3, offer(0))}
		for _, c := range story {
			p.do(c)
		}
	}
}
