package in

import (
	"fmt"
	"strings"
	"testing"
	"unsafe"

	"glowworm/sample"
)

// second is In in a second way: it keeps all that it took, and whether what came last was none of these.
type second struct {
	taken   []string
	refused bool
}

func (s *second) take(ns int, body string) (string, bool) {
	s.refused = ns != s.next()
	if s.refused {
		return "", false
	}
	s.taken = append(s.taken, body)
	return body, true
}

func (s *second) next() int { return len(s.taken) % 8 }

// pair is an In, and what is to be the same.
type pair struct {
	i *In
	s second
	n int // so many bodies came
}

func newPair() *pair { return &pair{i: New()} }

// take has a body come that no other one is.
func (p *pair) take(t *testing.T, ns int) {
	t.Helper()
	p.n++
	body := fmt.Sprint("b", p.n)
	was := p.s.next()
	got, ok := p.i.Take(ns, body)
	want, wantOk := p.s.take(ns, body)
	if got != want || ok != wantOk {
		t.Fatalf("P14.1: Take(%d, %q), %d is Next: %q, %t", ns, body, was, got, ok)
	}
	for range 2 {
		if p.i.Next() != p.s.next() || p.i.Odd() != p.s.refused {
			t.Fatalf("P14.1: behind Take(%d), %d was Next: Next %d, Odd %t", ns, was, p.i.Next(), p.i.Odd())
		}
	}
}

// at is a pair of which so many were taken.
func at(t *testing.T, taken int) *pair {
	t.Helper()
	p := newPair()
	for k := range taken {
		p.take(t, k%8)
	}
	return p
}

func TestNew(t *testing.T) {
	if i := New(); i == nil || i.Next() != 0 || i.Odd() {
		t.Errorf("P14.1: New: %+v", i)
	}
}

func TestByHand(t *testing.T) {
	i := New()
	for k, w := range []struct {
		ns   int
		body string
		ok   bool
		next int
		odd  bool
	}{
		{0, "a", true, 1, false},
		{1, "b", true, 2, false},
		{1, "b", false, 2, true}, // once more
		{3, "d", false, 2, true}, // one is missing
		{4, "e", false, 2, true},
		{2, "c", true, 3, false},
		{3, "d", true, 4, false},
		{2, "c", false, 4, true},
		{4, "e", true, 5, false},
		{5, "f", true, 6, false},
		{6, "g", true, 7, false},
		{0, "i", false, 7, true},
		{7, "h", true, 0, false},
		{8, "i", false, 0, true},
		{-8, "i", false, 0, true},
		{0, "i", true, 1, false},
		{1, "", true, 2, false},
	} {
		got, ok := i.Take(w.ns, w.body)
		want := w.body
		if !w.ok {
			want = ""
		}
		if got != want || ok != w.ok || i.Next() != w.next || i.Odd() != w.odd {
			t.Errorf("P14.1: %d: Take(%d, %q): %q, %t; Next %d, Odd %t", k, w.ns, w.body, got, ok, i.Next(), i.Odd())
		}
	}
}

// TestEveryNumber: from each Next, odd or not, each number twice, and then the one that is awaited.
func TestEveryNumber(t *testing.T) {
	for taken := range 20 {
		for ns := -20; ns <= 20; ns++ {
			for _, ahead := range []int{taken % 8, (taken + 1) % 8} {
				p := at(t, taken)
				p.take(t, ahead)
				p.take(t, ns)
				p.take(t, ns)
				p.take(t, p.s.next())
			}
		}
	}
}

func TestWrongNumbers(t *testing.T) {
	for taken := range 9 {
		for _, ns := range sample.Wrong() {
			p := at(t, taken)
			p.take(t, ns)
			p.take(t, ns)
			p.take(t, taken%8)
			p.take(t, ns)
			if len(p.s.taken) != taken+1 || !p.i.Odd() {
				t.Errorf("P14.1: Take(%d): %d were taken, Odd %t", ns, len(p.s.taken), p.i.Odd())
			}
		}
	}
}

// TestEveryShortStory: every list of a few numbers.
func TestEveryShortStory(t *testing.T) {
	for story := range sample.Each("012378", 6) {
		p := newPair()
		for _, c := range story {
			p.take(t, int(c-'0'))
		}
	}
}

func TestLongStories(t *testing.T) {
	for seed := range uint32(500) {
		p := newPair()
		for _, x := range sample.Mixed(300, seed) {
			// The awaited one, one about it, any.
			switch x % 4 {
			case 0, 1:
				p.take(t, p.s.next())
			case 2:
				p.take(t, p.s.next()+int(x/4)%5-2)
			default:
				p.take(t, int(x/4)%12-2)
			}
		}
		if len(p.s.taken) < 17 {
			t.Errorf("seed %d: no more than %d were taken", seed, len(p.s.taken))
		}
	}
}

// TestOddStays: however many others come, and however often it is asked, until Next is taken.
func TestOddStays(t *testing.T) {
	for next := range 8 {
		p := at(t, next)
		for k := range 50 {
			p.take(t, (next+1+k%7)%8)
			if !p.i.Odd() || p.i.Next() != next {
				t.Fatalf("P14.1: %d others came, Next %d, Odd %t", k+1, p.i.Next(), p.i.Odd())
			}
		}
		p.take(t, next)
		if p.i.Odd() || p.i.Next() != (next+1)%8 {
			t.Errorf("P14.1: %d was taken, Next %d, Odd %t", next, p.i.Next(), p.i.Odd())
		}
	}
}

func TestBodies(t *testing.T) {
	i := New()
	for k, b := range []string{"", "", "a", "a", "\x00\xff\xc0\xc1\x7d", "\u00e4", strings.Repeat("x", 64), strings.Repeat("y", 1<<20), ""} {
		if got, ok := i.Take(k+1, b); got != "" || ok {
			t.Errorf("P14.1: Take(%d) of %d bytes: %d bytes, %t", k+1, len(b), len(got), ok)
		}
		if got, ok := i.Take(k%8, b); got != b || !ok {
			t.Errorf("P14.1: Take(%d) of %d bytes: %d bytes, %t", k%8, len(b), len(got), ok)
		}
	}
}

func TestAnswersAreNewMemory(t *testing.T) {
	b := []byte("body")
	i := New()
	got, _ := i.Take(0, unsafe.String(&b[0], len(b)))
	copy(b, "!!!!")
	if got != "body" {
		t.Errorf("P0.3: what was told is %q", got)
	}
}

func TestOfTwoNeitherTouchesTheOther(t *testing.T) {
	a, b := at(t, 3), at(t, 3)
	a.take(t, 3)
	a.take(t, 3)
	b.take(t, 3)
	a.take(t, 4)
	b.take(t, 5)
	if a.i.Next() != 5 || a.i.Odd() || b.i.Next() != 4 || !b.i.Odd() {
		t.Errorf("P14.1: Next %d and %d, Odd %t and %t", a.i.Next(), b.i.Next(), a.i.Odd(), b.i.Odd())
	}
}

func TestNil(t *testing.T) {
	var i *In
	for _, ns := range append([]int{0, 1, 7}, sample.Wrong()...) {
		if body, ok := i.Take(ns, "a"); body != "" || ok {
			t.Errorf("P14.1: Take(%d) of a nil In: %q, %t", ns, body, ok)
		}
		if i.Next() != 0 || i.Odd() {
			t.Errorf("P14.1: a nil In: %d, %t", i.Next(), i.Odd())
		}
	}
}
