package link

import (
	"fmt"
	"slices"
	"strings"
	"testing"

	"glowworm/api"
	"glowworm/sample"
)

// wire is two links, and what is on its way from each, in its order.
type wire struct {
	ends [2]*Link
	long int        // ticks that a burst takes
	way  [2]air     // from each
	was  [2]history // of each end's last link
	old  []history  // of the links ahead of that
	told []string
	puts int // bodies, of which no two are the same
	lost int
}

// air is what one sends.
type air struct {
	left   int // ticks
	frames []api.Plain
}

// history is what one end of a link was asked for, and told.
type history struct {
	at         int
	addr       api.Address
	puts, came []string
}

func newWire(long int, waits ...int) *wire {
	a, b := offer(waits[0]), offer(waits[1])
	a.Baud, b.Baud = 7, 11
	return &wire{long: long, ends: [2]*Link{New(1, 3, a), New(2, 5, b)}}
}

func (w *wire) ask(n int, a api.Ask) api.Errno {
	err := w.ends[n].Ask(a)
	if a.Kind == api.QData && err == api.OK {
		w.was[n].puts = append(w.was[n].puts, a.Body)
	}
	return err
}

// note takes what end n told.
func (w *wire) note(t *testing.T, n int, ts []api.Tell) {
	t.Helper()
	for _, x := range ts {
		w.told = append(w.told, fmt.Sprint(n, " ", told([]api.Tell{{Kind: x.Kind, Id: theirs, Body: x.Body}})))
		switch x.Kind {
		case api.TLinked, api.TReset:
			w.old = append(w.old, w.was[n])
			w.was[n] = history{at: n, addr: w.ends[n].Addr()}
		case api.TData:
			w.was[n].came = append(w.was[n].came, x.Body)
			w.checkData(t, n)
		}
	}
}

// tick has both hear what has come, and say something; lost says for each end whether it hears nothing.
func (w *wire) tick(t *testing.T, lost [2]bool) {
	t.Helper()
	for n := range w.way {
		if w.way[n].left == 0 {
			continue
		}
		w.way[n].left--
		if w.way[n].left > 0 {
			continue
		}
		for _, p := range w.way[n].frames {
			if lost[1-n] {
				w.lost++
				continue
			}
			w.note(t, 1-n, w.ends[1-n].Hear(p))
		}
	}
	for n, l := range w.ends {
		ps, ts := l.Tick(w.way[n].left == 0)
		w.note(t, n, ts)
		if len(ps) > 0 {
			w.way[n] = air{w.long, ps}
		}
	}
	w.checkDeals(t)
}

// both says whether the two are linked with one another.
func (w *wire) both() bool {
	a, b := w.ends[0], w.ends[1]
	return a.State() == 2 && b.State() == 2 && a.Addr() == b.Addr() && a.Role() != b.Role()
}

// checkData holds G1 of what end n was told.
func (w *wire) checkData(t *testing.T, n int) {
	t.Helper()
	w.checkCame(t, w.was[n], w.was[1-n])
	for _, h := range w.old {
		w.checkCame(t, w.was[n], h)
	}
}

// checkDeals holds G4.
func (w *wire) checkDeals(t *testing.T) {
	t.Helper()
	if !w.both() {
		return
	}
	a, b := w.ends[0].Deal(), w.ends[1].Deal()
	if a.Baud != 64 || a.Baud != b.Baud || a.Silent != b.Silent || w.ends[0].Peer() != 2 || w.ends[1].Peer() != 1 {
		t.Fatalf("G4: %+v, %+v", a, b)
	}
}

// checkCame holds G1 of h, if other is its other end.
func (w *wire) checkCame(t *testing.T, h, other history) {
	t.Helper()
	if h.at == other.at || h.addr != other.addr {
		return
	}
	if len(h.came) > len(other.puts) || !slices.Equal(h.came, other.puts[:len(h.came)]) {
		t.Fatalf("G1: of the link %v %v was taken, and %v told: %v", h.addr, other.puts, h.came, w.told)
	}
}

// ticks has nothing lost: then at most one of the two sends.
func (w *wire) ticks(t *testing.T, n int) {
	t.Helper()
	for range n {
		w.tick(t, [2]bool{})
		if w.way[0].left > 0 && w.way[1].left > 0 {
			t.Fatalf("P20.3: both send: %s, %s", said(w.way[0].frames), said(w.way[1].frames))
		}
	}
}

func (w *wire) checkTold(t *testing.T, promise string, wants ...string) {
	t.Helper()
	slices.Sort(w.told)
	slices.Sort(wants)
	if !slices.Equal(w.told, wants) {
		t.Errorf("%s: %q, not %q", promise, w.told, wants)
	}
	w.told = nil
}

// TestAllThatIsAsked: without a loss all of it is done, however long it takes.
func TestAllThatIsAsked(t *testing.T) {
	for long := 1; long <= 30; long++ {
		for waits := range 9 {
			w := newWire(long, waits%3, waits/3)
			w.ask(0, connect(2))
			w.ticks(t, 200)
			w.checkTold(t, "P20.4", "0 linked", "1 linked")
			var wants []string
			for k := range 7 {
				for n := range w.ends {
					w.ask(n, data(fmt.Sprint(k)))
					wants = append(wants, fmt.Sprint(1-n, " data ", k))
				}
			}
			w.ticks(t, 400)
			w.checkTold(t, "P20.4", wants...)
			for n := range w.ends {
				w.ask(n, data("more"))
			}
			w.ask(0, ask(api.QXchg))
			w.ticks(t, 400)
			w.checkTold(t, "P20.4", "0 xchg", "1 xchg", "0 data more", "1 data more")
			if w.ends[0].Role() != api.RSec || w.ends[1].Role() != api.RPrim || w.ends[0].Left()+w.ends[1].Left() > 0 {
				t.Errorf("P20.4: roles %d, %d", w.ends[0].Role(), w.ends[1].Role())
			}
			for n := range w.ends {
				w.ask(n, ask(api.QReset))
				w.ticks(t, 400)
				w.checkTold(t, "P20.4", "0 reset", "1 reset")
				if !w.both() || w.ends[0].Addr() != from(1+n) {
					t.Errorf("P20.4: %+v, %+v", w.ends[0].Addr(), w.ends[1].Addr())
				}
			}
			n := (long + waits) % 2
			w.ask(n, ask(api.QDisc))
			w.ticks(t, 400)
			w.checkTold(t, "P20.4", "0 ended", "1 ended")
		}
	}
}

// TestLosses holds G1, G3 and G4, whatever is lost.
func TestLosses(t *testing.T) {
	links, comes, lost := 0, 0, 0
	for seed := range uint32(300) {
		b := sample.Mixed(3000, seed)
		w := newWire(1+int(b[0])%30, int(b[1])%3, int(b[2])%3)
		losses := b[3] % 128
		for k, x := range b {
			w.tick(t, [2]bool{x < losses, x >= 255-losses/2})
			if k%3 == 0 {
				w.askSome(int(x), b[(k+1)%len(b)])
			}
		}
		lost += w.lost
		for _, s := range w.told {
			if strings.Contains(s, "linked") || strings.Contains(s, "reset") {
				links++
			}
			if strings.Contains(s, "data") {
				comes++
			}
		}
		checkEnds(t, w)
	}
	if links < 3000 || comes < 30_000 || lost < 5_000 {
		t.Errorf("no more than %d links, %d bodies, %d losses", links, comes, lost)
	}
}

// askSome asks one of the two for what bytes x and y choose.
func (w *wire) askSome(x int, y byte) {
	n := int(y) % 2
	switch {
	case w.ends[n].State() == 0:
		if x%4 == 0 {
			w.ask(n, connect(uint32(2-n)))
		}
	case y < 240:
		w.puts++
		w.ask(n, data(fmt.Sprint("d", w.puts)))
	case y < 246:
		w.ask(n, ask(api.QXchg))
	case y < 252:
		w.ask(n, ask(api.QReset))
	case y < 254:
		w.ask(n, ask(api.QDisc))
	}
}

// checkEnds holds G3: when nothing is heard any more neither is linked soon.
func checkEnds(t *testing.T, w *wire) {
	t.Helper()
	for range 200 {
		w.tick(t, [2]bool{true, true})
	}
	for n, l := range w.ends {
		if l.State() == 2 {
			t.Errorf("G3: %d is linked yet", n)
		}
	}
}
