package box

import (
	"fmt"
	"math"
	"slices"
	"strings"
	"testing"
	"unsafe"

	"glowworm/api"
	"glowworm/sample"
)

// second is Box in a second way: it keeps all there ever was, and how many of these were taken.
type second struct {
	all   []api.Ask
	taken int
}

// may is May in a second way: by what a Kind may have, field by field.
func may(a api.Ask) bool {
	n, id, body := a.N == 0, a.Id == 0, len(a.Body) == 0
	if a.Kind == 1 {
		n = slices.Contains([]int{1, 6, 8}, a.N)
	}
	if a.Kind == 2 || a.Kind == 7 {
		id = 1 <= a.Id && a.Id <= 1<<32-2
	}
	if a.Kind == 3 {
		body = len(a.Body) < 65
	}
	return 1 <= a.Kind && a.Kind <= 7 && n && id && body
}

func (s *second) put(a api.Ask) api.Errno {
	if !may(a) {
		return 1
	}
	if len(s.all) == s.taken+8 {
		return 3
	}
	s.all = append(s.all, a)
	return 0
}

func (s *second) first() (api.Ask, bool) {
	if len(s.all) == s.taken {
		return api.Ask{}, false
	}
	return s.all[s.taken], true
}

func (s *second) take() (api.Ask, bool) {
	a, is := s.first()
	if is {
		s.taken++
	}
	return a, is
}

// pair is a Box, and what is to be the same.
type pair struct {
	b *Box
	s second
}

func newPair(t *testing.T) *pair {
	t.Helper()
	p := &pair{b: New()}
	p.check(t)
	return p
}

// check looks at what is asked without a change.
func (p *pair) check(t *testing.T) {
	t.Helper()
	want, is := p.s.first()
	n := len(p.s.all) - p.s.taken
	for range 2 {
		if a, ok := p.b.First(); a != want || ok != is || p.b.Len() != n {
			t.Fatalf("P19.1: %d were put, %d taken: First %+v, %t, Len %d, not %+v, %t, %d", len(p.s.all), p.s.taken, a, ok, p.b.Len(), want, is, n)
		}
	}
}

func (p *pair) put(t *testing.T, a api.Ask) api.Errno {
	t.Helper()
	got, want := p.b.Put(a), p.s.put(a)
	if got != want {
		t.Fatalf("P19.1: %d were put, %d taken: Put of %+v: %d, not %d", len(p.s.all), p.s.taken, a, got, want)
	}
	p.check(t)
	return got
}

func (p *pair) take(t *testing.T) (api.Ask, bool) {
	t.Helper()
	a, ok := p.b.Take()
	if want, is := p.s.take(); a != want || ok != is {
		t.Fatalf("P19.1: %d were put, %d taken: Take %+v, %t, not %+v, %t", len(p.s.all), p.s.taken, a, ok, want, is)
	}
	p.check(t)
	return a, ok
}

// data is the body that one is asked to send.
func data(body string) api.Ask { return api.Ask{Kind: api.QData, Body: body} }

// full is a pair with 8, of which none is like another one.
func full(t *testing.T) *pair {
	t.Helper()
	p := newPair(t)
	for i := range 8 {
		p.put(t, data(fmt.Sprint("b", i)))
	}
	return p
}

func checkMay(t *testing.T, a api.Ask, want bool) {
	t.Helper()
	if May(a) != want {
		t.Errorf("P19.1: May(%+v): %t", a, !want)
	}
	b, err, n := New(), api.ErrForm, 0
	if want {
		err, n = api.OK, 1
	}
	if got := b.Put(a); got != err || b.Len() != n {
		t.Errorf("P19.1: Put(%+v): %d, Len %d", a, got, b.Len())
	}
	first, is := b.First()
	if is != want || want && first != a || !want && first != (api.Ask{}) {
		t.Errorf("P19.1: behind Put(%+v): First %+v, %t", a, first, is)
	}
}

func TestMayByHand(t *testing.T) {
	for _, a := range []api.Ask{
		{Kind: 1, N: 1}, {Kind: 1, N: 6}, {Kind: 1, N: 8},
		{Kind: 2, Id: 1}, {Kind: 2, Id: 0x80000000}, {Kind: 2, Id: 0xFFFFFFFE},
		{Kind: 3}, {Kind: 3, Body: "a"}, {Kind: 3, Body: "\x00\xff\xc0"}, {Kind: 3, Body: strings.Repeat("x", 64)},
		{Kind: 4}, {Kind: 5}, {Kind: 6},
		{Kind: 7, Id: 1}, {Kind: 7, Id: 0x80000000}, {Kind: 7, Id: 0xFFFFFFFE},
	} {
		checkMay(t, a, true)
		// Of what is zero there is nothing else that may be.
		if a.Kind != 1 {
			for _, n := range []int{1, 6, 8, -1} {
				checkMay(t, api.Ask{Kind: a.Kind, N: n, Id: a.Id, Body: a.Body}, false)
			}
		}
		if a.Kind != 2 && a.Kind != 7 {
			for _, id := range []uint32{1, 9, 0xFFFFFFFF} {
				checkMay(t, api.Ask{Kind: a.Kind, N: a.N, Id: id, Body: a.Body}, false)
			}
		}
		if a.Kind != 3 {
			for _, body := range []string{"a", "\x00", strings.Repeat("x", 64)} {
				checkMay(t, api.Ask{Kind: a.Kind, N: a.N, Id: a.Id, Body: body}, false)
			}
		}
	}
	for _, a := range []api.Ask{
		{}, {N: 1}, {Id: 1}, {Body: "a"},
		{Kind: 1}, {Kind: 1, N: -1}, {Kind: 1, N: 2}, {Kind: 1, N: 5}, {Kind: 1, N: 7}, {Kind: 1, N: 9}, {Kind: 1, N: 16},
		{Kind: 2}, {Kind: 2, Id: 0xFFFFFFFF}, {Kind: 7}, {Kind: 7, Id: 0xFFFFFFFF},
		{Kind: 3, Body: strings.Repeat("x", 65)}, {Kind: 3, Body: strings.Repeat("\u00e4", 33)}, {Kind: 3, Body: strings.Repeat("x", 1<<24)},
	} {
		checkMay(t, a, false)
	}
}

// TestMayOfEach: each Kind with each of these of every field.
func TestMayOfEach(t *testing.T) {
	kinds := sample.Wrong()
	for k := range 8 {
		kinds = append(kinds, k)
	}
	for _, kind := range kinds {
		for _, n := range append(sample.Wrong(), 0, 1, 2, 3, 4, 5, 6, 7, 14, 17, 1<<8+6, 1<<32+6, math.MinInt+6, math.MinInt+8) {
			for _, id := range []uint32{0, 1, 2, 0xFF, 0xFFFF, 0x10000, 0x7FFFFFFF, 0x80000000, 0xFFFFFF00, 0xFFFFFFFE, 0xFFFFFFFF} {
				for _, size := range []int{0, 1, 20, 63, 64, 65, 80, 128, 256, 320, 65536} {
					a := api.Ask{Kind: kind, N: n, Id: id, Body: strings.Repeat("x", size)}
					if May(a) != may(a) {
						t.Fatalf("P19.1: May of Kind %d, N %d, Id %x, %d bytes: %t", kind, n, id, size, May(a))
					}
				}
			}
		}
	}
}

func TestByHand(t *testing.T) {
	b := New()
	asks := []api.Ask{{Kind: 1, N: 6}, {Kind: 7, Id: 5}, {Kind: 2, Id: 4}, data("hi"), data("hi"), {Kind: 6}, {Kind: 5}, {Kind: 4}}
	for i, a := range asks {
		if err := b.Put(a); err != api.OK || b.Len() != i+1 {
			t.Errorf("P19.1: Put of %+v: %d, Len %d", a, err, b.Len())
		}
	}
	for i, want := range asks {
		if a, is := b.First(); a != want || !is || b.Len() != 8-i {
			t.Errorf("P19.1: First %+v, %t, Len %d, not %+v", a, is, b.Len(), want)
		}
		if a, is := b.Take(); a != want || !is || b.Len() != 7-i {
			t.Errorf("P19.1: Take %+v, %t, Len %d, not %+v", a, is, b.Len(), want)
		}
	}
	if a, is := b.Take(); a != (api.Ask{}) || is || b.Len() != 0 {
		t.Errorf("P19.1: Take of none: %+v, %t, Len %d", a, is, b.Len())
	}
}

func TestFull(t *testing.T) {
	p := full(t)
	for range 3 {
		if err := p.put(t, data("more")); err != api.ErrFull || p.b.Len() != 8 {
			t.Errorf("P19.1: Put of a ninth: %d, Len %d", err, p.b.Len())
		}
		if err := p.put(t, api.Ask{Kind: 8}); err != api.ErrForm {
			t.Errorf("P0.2: Put of a ninth that may not be: %d", err)
		}
	}
	// For each that is taken there is room for one more.
	for i := range 40 {
		p.take(t)
		if err := p.put(t, data(fmt.Sprint("more ", i))); err != api.OK {
			t.Errorf("P19.1: Put behind a Take: %d", err)
		}
		if err := p.put(t, data("one too many")); err != api.ErrFull {
			t.Errorf("P19.1: Put of a ninth: %d", err)
		}
	}
}

// TestEveryShortStory: every list of a few calls.
func TestEveryShortStory(t *testing.T) {
	for story := range sample.Each("pdwt", 7) {
		p := newPair(t)
		for i, c := range story {
			p.step(t, c, i)
		}
	}
}

func TestLongStories(t *testing.T) {
	for seed := range uint32(200) {
		p := newPair(t)
		// Some have more put than taken, some more taken than put.
		puts := byte(seed%5) + 2
		for i, x := range sample.Mixed(300, seed) {
			switch {
			case x%10 >= puts:
				p.step(t, 't', i)
			case x < 20:
				p.step(t, 'w', i)
			case x < 100:
				p.step(t, 'p', i)
			default:
				p.step(t, 'd', i)
			}
		}
		if p.s.taken < 30 {
			t.Errorf("seed %d: no more than %d were taken", seed, p.s.taken)
		}
	}
}

func (p *pair) step(t *testing.T, c rune, i int) {
	t.Helper()
	switch c {
	case 'p':
		p.put(t, api.Ask{Kind: api.QConnect, Id: uint32(i + 1)})
	case 'd':
		p.put(t, data(fmt.Sprint(i)))
	case 'w':
		p.put(t, api.Ask{Kind: api.QDisc, N: 1})
	default:
		p.take(t)
	}
}

func TestNoMoreIsKept(t *testing.T) {
	bytes := []byte("body")
	b := New()
	b.Put(data(unsafe.String(&bytes[0], len(bytes))))
	copy(bytes, "!!!!")
	if a, is := b.First(); a != data("body") || !is {
		t.Errorf("P0.3: First %+v, %t", a, is)
	}
	for range 7 {
		b.Put(data("more"))
	}
	room := b.asks[:cap(b.asks)]
	for range 5 {
		b.Take()
	}
	if held := len(slices.DeleteFunc(room, func(a api.Ask) bool { return a == api.Ask{} })); held != 3 {
		t.Errorf("P19.1: behind 5 Takes of 8 %d are still held", held)
	}
}

// TestManyMore: nothing grows with what was put and taken.
func TestManyMore(t *testing.T) {
	b := New()
	for i := range 1 << 17 {
		b.Put(data("a"))
		b.Put(data("b"))
		if i%2 == 0 {
			b.Take()
			b.Take()
		}
	}
	if b.Len() > 8 || cap(b.asks) > 64 {
		t.Errorf("P19.1: Len %d, room for %d", b.Len(), cap(b.asks))
	}
}

func TestOfTwoNeitherTouchesTheOther(t *testing.T) {
	a, b := full(t), full(t)
	a.take(t)
	a.put(t, data("a's"))
	b.check(t)
	b.take(t)
	b.take(t)
	b.put(t, data("b's"))
	a.check(t)
	for range 8 {
		a.take(t)
		b.take(t)
	}
}

func TestNil(t *testing.T) {
	var b *Box
	for _, a := range []api.Ask{{}, {Kind: 4}, {Kind: 1, N: 6}, {Kind: 1, N: 7}, {Kind: 2, Id: 1}, data("a"), data(strings.Repeat("x", 65)), {Kind: math.MinInt}} {
		if err := b.Put(a); err != api.ErrDown {
			t.Errorf("P19.1: Put of a nil Box of %+v: %d", a, err)
		}
		if got, is := b.First(); got != (api.Ask{}) || is {
			t.Errorf("P19.1: First of a nil Box: %+v, %t", got, is)
		}
		if got, is := b.Take(); got != (api.Ask{}) || is || b.Len() != 0 {
			t.Errorf("P19.1: Take of a nil Box: %+v, %t, Len %d", got, is, b.Len())
		}
	}
}

// TestEmpty: one that New did not make is not promised to work, but nothing panics.
func TestEmpty(t *testing.T) {
	b := new(Box)
	for range 10 {
		b.Put(data("a"))
		b.Put(api.Ask{})
		b.First()
		b.Take()
		b.Len()
	}
}
