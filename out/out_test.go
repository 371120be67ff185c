package out

import (
	"fmt"
	"slices"
	"strings"
	"testing"
	"unsafe"

	"glowworm/api"
	"glowworm/sample"
)

// second is Out in a second way: it keeps all there ever was, and counts without end.
type second struct {
	win   int
	all   []string
	acked int
	sent  int // of all
}

func (s *second) put(body string) api.Errno {
	if len(s.all)-s.acked == 8 {
		return api.ErrFull
	}
	s.all = append(s.all, body)
	return api.OK
}

func (s *second) burst() ([]int, []string) {
	var ns []int
	var bs []string
	for i := s.acked; i < len(s.all) && len(ns) < s.win; i++ {
		ns = append(ns, i%8)
		bs = append(bs, s.all[i])
		s.sent = max(s.sent, i+1)
	}
	return ns, bs
}

func (s *second) ack(nr int) (int, bool) {
	for k := s.acked; k <= s.sent; k++ {
		if k%8 == nr {
			n := k - s.acked
			s.acked = k
			return n, true
		}
	}
	return 0, false
}

// pair is an Out, and what is to be the same.
type pair struct {
	o *Out
	s second
}

func newPair(win int) *pair { return &pair{New(win), second{win: win}} }

// check holds what a call told against what the second way told, and then what is asked without a change.
func (p *pair) check(t *testing.T, call string, got, want any) {
	t.Helper()
	o := p.o
	got = fmt.Sprint(got, o.First(), o.Len(), o.Win())
	want = fmt.Sprint(want, p.s.acked%8, len(p.s.all)-p.s.acked, p.s.win)
	if got != want {
		t.Fatalf("P13.1: win %d, %d were put, %d acknowledged: %s: %v, not %v", p.s.win, len(p.s.all), p.s.acked, call, got, want)
	}
}

func (p *pair) put(t *testing.T, body string) {
	t.Helper()
	p.check(t, "Put", p.o.Put(body), p.s.put(body))
}

func (p *pair) burst(t *testing.T) {
	t.Helper()
	ns, bs := p.o.Burst()
	wantNs, wantBs := p.s.burst()
	p.check(t, "Burst", fmt.Sprintf("%v %q", ns, bs), fmt.Sprintf("%v %q", wantNs, wantBs))
}

func (p *pair) ack(t *testing.T, nr int) {
	t.Helper()
	n, ok := p.o.Ack(nr)
	wantN, wantOk := p.s.ack(nr)
	p.check(t, fmt.Sprint("Ack of ", nr), fmt.Sprint(n, ok), fmt.Sprint(wantN, wantOk))
}

// body is one that no other one is.
func (p *pair) body() string { return fmt.Sprint("b", len(p.s.all)) }

// at is a pair of which first were acknowledged, and behind these more were put, and none of them sent.
func at(t *testing.T, win, first, more int) *pair {
	t.Helper()
	p := newPair(win)
	for i := range first {
		p.put(t, p.body())
		p.burst(t)
		p.ack(t, (i+1)%8)
	}
	for range more {
		p.put(t, p.body())
	}
	return p
}

func checkBurst(t *testing.T, o *Out, want string) {
	t.Helper()
	ns, bs := o.Burst()
	if got := fmt.Sprint(ns, bs); got != want {
		t.Errorf("P13.1: Burst: %s, not %s", got, want)
	}
}

func checkAck(t *testing.T, o *Out, nr, want int) {
	t.Helper()
	if n, ok := o.Ack(nr); n != want || !ok {
		t.Errorf("P13.1: Ack(%d): %d, %t, not %d", nr, n, ok, want)
	}
}

func checkNoAck(t *testing.T, o *Out, nr int) {
	t.Helper()
	first, held := o.First(), o.Len()
	if n, ok := o.Ack(nr); n != 0 || ok {
		t.Errorf("P13.1: Ack(%d): %d, %t", nr, n, ok)
	}
	if o.First() != first || o.Len() != held {
		t.Errorf("P13.1: Ack(%d) was false, and First is %d, Len %d, not %d, %d", nr, o.First(), o.Len(), first, held)
	}
}

func TestNew(t *testing.T) {
	for win := -20; win <= 20; win++ {
		want := win
		if win < 1 {
			want = 1
		} else if win > 7 {
			want = 7
		}
		if o := New(win); o == nil || o.Win() != want || o.First() != 0 || o.Len() != 0 {
			t.Errorf("P13.1: New(%d): %+v", win, o)
		}
	}
	for _, win := range sample.Wrong() {
		want := 7
		if win < 1 {
			want = 1
		}
		p := at(t, want, 0, 8)
		p.o = New(win)
		for _, b := range p.s.all {
			p.o.Put(b)
		}
		p.burst(t)
		p.ack(t, want)
	}
}

func TestByHand(t *testing.T) {
	o := New(2)
	checkBurst(t, o, "[] []")
	for _, b := range []string{"a", "b", "c", "d"} {
		if err := o.Put(b); err != api.OK {
			t.Errorf("P13.1: Put: %d", err)
		}
	}
	checkNoAck(t, o, 1)
	checkBurst(t, o, "[0 1] [a b]")
	checkBurst(t, o, "[0 1] [a b]")
	checkNoAck(t, o, 3)
	checkNoAck(t, o, 7)
	checkAck(t, o, 0, 0)
	checkAck(t, o, 1, 1)
	// c was not sent yet, but b was.
	checkNoAck(t, o, 3)
	checkNoAck(t, o, 0)
	checkAck(t, o, 2, 1)
	checkBurst(t, o, "[2 3] [c d]")
	checkAck(t, o, 4, 2)
	checkNoAck(t, o, 5)
	for _, b := range []string{"e", "f", "g", "h", "i"} {
		o.Put(b)
	}
	checkBurst(t, o, "[4 5] [e f]")
	checkAck(t, o, 6, 2)
	checkBurst(t, o, "[6 7] [g h]")
	checkAck(t, o, 0, 2)
	checkBurst(t, o, "[0] [i]")
	checkNoAck(t, o, 2)
	checkAck(t, o, 1, 1)
	checkBurst(t, o, "[] []")
	if o.First() != 1 || o.Len() != 0 || o.Win() != 2 {
		t.Errorf("P13.1: First %d, Len %d, Win %d", o.First(), o.Len(), o.Win())
	}
}

func TestPutUntilFull(t *testing.T) {
	for first := range 8 {
		p := at(t, 7, first, 8)
		for range 3 {
			if err := p.o.Put("more"); err != api.ErrFull || p.o.Len() != 8 {
				t.Errorf("P13.1: Put of a ninth: %d, Len %d", err, p.o.Len())
			}
		}
		// What was sent waits as long as it isn't acknowledged.
		p.burst(t)
		p.put(t, "more")
		p.ack(t, (first+1)%8)
		p.put(t, "more")
		p.put(t, "and more")
		p.burst(t)
		p.ack(t, (first+8)%8)
		p.burst(t)
		p.ack(t, (first+9)%8)
	}
}

// TestEveryAck: of each number, from each First, with each win, so many that were put, and so many of them sent.
func TestEveryAck(t *testing.T) {
	for win := 1; win <= 7; win++ {
		for first := range 8 {
			for sent := range 9 {
				for unsent := range 9 - sent {
					for nr := range 8 {
						p := at(t, win, first, sent)
						p.burst(t)
						for range unsent {
							p.put(t, p.body())
						}
						p.ack(t, nr)
						p.ack(t, nr)
						p.ack(t, (nr+1)%8)
						p.burst(t)
						p.ack(t, (first+sent)%8)
					}
				}
			}
		}
	}
}

func TestAckOfWrongNumbers(t *testing.T) {
	for first := range 8 {
		for held := range 9 {
			p := at(t, 7, first, held)
			for range 2 {
				for _, nr := range sample.Wrong() {
					checkNoAck(t, p.o, nr)
				}
				p.burst(t)
			}
		}
	}
}

// TestAWholeWindow: with 7 that were sent each number is one that may be awaited.
func TestAWholeWindow(t *testing.T) {
	for first := range 8 {
		for nr := range 8 {
			o := at(t, 7, first, 8).o
			o.Burst()
			checkAck(t, o, nr, (nr-first+8)%8)
		}
		o := at(t, 7, first, 8).o
		checkAck(t, o, first, 0)
		checkNoAck(t, o, (first+1)%8)
	}
}

// TestEveryShortStory: every list of a few calls.
func TestEveryShortStory(t *testing.T) {
	for _, win := range []int{1, 2, 7} {
		for story := range sample.Each("pb01237", 5) {
			p := newPair(win)
			for _, c := range story {
				p.step(t, c)
			}
		}
	}
}

func TestLongStories(t *testing.T) {
	for seed := range uint32(500) {
		p := newPair(int(seed%7) + 1)
		for _, x := range sample.Mixed(300, seed) {
			// Put, Burst, Ack of what is there, Ack of any.
			switch x % 8 {
			case 0, 1, 2:
				p.step(t, 'p')
			case 3, 4:
				p.step(t, 'b')
			case 5, 6:
				held := p.s.sent - p.s.acked
				p.ack(t, (p.s.acked+int(x/8)%(held+1))%8)
			default:
				p.ack(t, int(x/8)%12-2)
			}
		}
		if p.s.acked < 9 {
			t.Errorf("seed %d: no more than %d were acknowledged", seed, p.s.acked)
		}
	}
}

func (p *pair) step(t *testing.T, c rune) {
	t.Helper()
	switch c {
	case 'p':
		p.put(t, p.body())
	case 'b':
		p.burst(t)
	default:
		p.ack(t, int(c-'0'))
	}
}

func TestBodies(t *testing.T) {
	p := newPair(7)
	for _, b := range []string{"", "a", "a", "\x00\xff\xc0\xc1\x7d", "\u00e4", strings.Repeat("x", 64), strings.Repeat("y", 1<<20)} {
		p.put(t, b)
	}
	p.burst(t)
	p.ack(t, 7)
	p.burst(t)
}

func TestAnswersAreNewMemory(t *testing.T) {
	p := at(t, 4, 6, 8)
	earlierNs, earlierBs := p.o.Burst()
	ns, bs := p.o.Burst()
	// Into its spare room, too.
	ns, bs = ns[:cap(ns)], bs[:cap(bs)]
	for i := range ns {
		ns[i] = -1
	}
	for i := range bs {
		bs[i] = "!"
	}
	if got := fmt.Sprint(earlierNs, earlierBs); got != "[6 7 0 1] [b6 b7 b8 b9]" {
		t.Errorf("P0.3: the earlier Burst: %s", got)
	}
	for range 4 {
		p.burst(t)
		p.ack(t, (p.o.First()+2)%8)
	}
	earlierNs, earlierBs = p.o.Burst()
	_, _ = append(earlierNs, 1), append(earlierBs, "!")
	p.put(t, "more")
	p.burst(t)
}

func TestNoMoreIsKept(t *testing.T) {
	b := []byte("body")
	o := New(7)
	o.Put(unsafe.String(&b[0], len(b)))
	copy(b, "!!!!")
	checkBurst(t, o, "[0] [body]")
	for range 7 {
		o.Put("more")
	}
	o.Burst()
	room := o.queue[:cap(o.queue)]
	checkAck(t, o, 5, 5)
	if held := len(slices.DeleteFunc(room, func(s string) bool { return s == "" })); held != 3 {
		t.Errorf("P13.1: behind Ack(5) %d bodies are still held", held)
	}
}

func TestOfTwoNeitherTouchesTheOther(t *testing.T) {
	a, b := at(t, 3, 2, 5), at(t, 3, 2, 5)
	a.burst(t)
	a.ack(t, 4)
	checkNoAck(t, b.o, 4)
	b.put(t, "b's")
	a.put(t, "a's")
	a.burst(t)
	b.burst(t)
	b.ack(t, 5)
	b.burst(t)
	a.burst(t)
}

func TestNil(t *testing.T) {
	var o *Out
	for _, nr := range append([]int{0, 1, 7}, sample.Wrong()...) {
		checkNoAck(t, o, nr)
	}
	if err := o.Put("a"); err != api.ErrDown {
		t.Errorf("P13.1: Put of a nil Out: %d", err)
	}
	checkBurst(t, o, "[] []")
	if o.Len() != 0 || o.First() != 0 || o.Win() != 0 {
		t.Errorf("P13.1: a nil Out: %d, %d, %d", o.Len(), o.First(), o.Win())
	}
}

// TestEmpty: one that New did not make is not promised to work, but nothing panics.
func TestEmpty(t *testing.T) {
	o := new(Out)
	for range 10 {
		o.Put("a")
		o.Burst()
		for nr := range 8 {
			o.Ack(nr)
		}
	}
}
