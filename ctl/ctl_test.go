package ctl

import (
	"errors"
	"math"
	"runtime"
	"strconv"
	"strings"
	"testing"
	"unsafe"

	"glowworm/api"
)

// bits is the byte of a text of bits, the highest first, with PF in the place of the p.
func bits(t *testing.T, s string, pf bool) byte {
	t.Helper()
	p := "0"
	if pf {
		p = "1"
	}
	b, err := strconv.ParseUint(strings.ReplaceAll(s, "p", p), 2, 8)
	if err != nil || len(s) != 8 {
		t.Fatalf("%q: %v", s, err)
	}
	return byte(b)
}

// three is n in three bits.
func three(n int) string { return strconv.FormatInt(int64(n)+8, 2)[1:] }

// two is n in two bits.
func two(n int) string { return strconv.FormatInt(int64(n)+4, 2)[1:] }

// codesOfU is the chapter's codes, bit by bit, of the Kinds from 1 on.
var codesOfU = []string{"001p1111", "100p0011", "011p0011", "000p1111", "010p0011", "100p1011", "100p1111"}

// each is every control that may be, and its byte by a second way.
func each(t *testing.T) map[any]byte {
	t.Helper()
	all := map[any]byte{}
	for _, pf := range []bool{false, true} {
		for nr := range 8 {
			for ns := range 8 {
				all[api.I{Nr: nr, Ns: ns, PF: pf}] = bits(t, three(nr)+"p"+three(ns)+"0", pf)
			}
			for kind := range 3 {
				all[api.S{Kind: kind, Nr: nr, PF: pf}] = bits(t, three(nr)+"p"+two(kind)+"01", pf)
			}
		}
		for k, code := range codesOfU {
			all[api.U{Kind: k + 1, PF: pf}] = bits(t, code, pf)
		}
	}
	return all
}

// wrongNumbers are none from 0 to 7; some would be if they were cut to fewer bits.
var wrongNumbers = []int{-1, -2, -7, -8, 8, 9, 15, 16, 32, 255, 256, 257, 1 << 16, 1<<32 + 1, -1 << 32, math.MaxInt, math.MinInt, math.MinInt + 1}

// mayNot is controls whose parts may not be.
func mayNot() []any {
	all := []any{
		api.S{Kind: 3}, api.S{Kind: 3, Nr: 7, PF: true}, api.S{Kind: 7}, api.S{Kind: 4, Nr: 1},
		api.U{}, api.U{PF: true}, api.S{Kind: -1, Nr: 3}, api.S{Kind: -1, Nr: 8},
	}
	for _, n := range wrongNumbers {
		for _, pf := range []bool{false, true} {
			all = append(all,
				api.I{Nr: n, PF: pf}, api.I{Ns: n, PF: pf}, api.I{Nr: n, Ns: n, PF: pf}, api.I{Nr: 7, Ns: n, PF: pf}, api.I{Nr: n, Ns: 7, PF: pf},
				api.S{Nr: n, PF: pf}, api.S{Kind: n, PF: pf}, api.S{Kind: n, Nr: n, PF: pf}, api.S{Kind: 2, Nr: n, PF: pf}, api.S{Kind: n, Nr: 7, PF: pf},
				api.U{Kind: n, PF: pf})
		}
	}
	return all
}

// The likes of a control are none.
type (
	likeI   api.I
	likeU   api.U
	holdsS  struct{ api.S }
	otherI  struct{ Nr, Ns int }
	aliasOf = api.U
)

// others is what is no control.
func others() []any {
	var i *api.I
	return []any{
		nil, i, 0, 1, 16, byte(0x2f), 5, true, 1.5, "", "I", "\x2f", []byte{0}, []int(nil), map[int]int{}, map[string]int(nil), func() {}, func(any) api.I { return api.I{} },
		make(chan api.I), struct{}{}, []api.I{{}}, [1]api.S{}, []any{api.U{Kind: 1}}, unsafe.Pointer(nil), errors.New("I"), complex(1, 2),
		&api.I{Nr: 5, PF: true}, &api.S{Nr: 5, PF: true}, &api.U{Kind: 1, PF: true}, (*api.U)(nil), (*any)(nil),
		likeI{Nr: 5, PF: true}, likeU{Kind: 3, PF: true}, holdsS{api.S{Nr: 5, PF: true}}, otherI{5, 2}, struct{ Nr, Ns int }{5, 2},
		struct {
			Kind int
			PF   bool
		}{1, true},
		struct{ c any }{api.U{Kind: 1}}, struct{ f []int }{[]int{1}},
		api.Tuple{}, api.Plain{Kind: 1, Nr: 5, PF: true}, api.Frame{Ctl: api.I{PF: true}}, api.OK, api.Errno(1), api.Address{Seat: 5, Count: 2},
	}
}

func TestPutByHand(t *testing.T) {
	for _, w := range []struct {
		c any
		b byte
	}{
		{api.I{}, 0x00}, {api.I{PF: true}, 0x10}, {api.I{Ns: 1}, 0x02}, {api.I{Nr: 1}, 0x20}, {api.I{Ns: 7}, 0x0e}, {api.I{Nr: 7}, 0xe0},
		{api.I{Nr: 3, Ns: 5}, 0x6a}, {api.I{Nr: 5, Ns: 3, PF: true}, 0xb6}, {api.I{Nr: 7, Ns: 7, PF: true}, 0xfe},
		{api.S{}, 0x01}, {api.S{PF: true}, 0x11}, {api.S{Kind: api.SReady, Nr: 7}, 0xe1}, {api.S{Kind: api.SBusy}, 0x05}, {api.S{Kind: api.SReject}, 0x09},
		{api.S{Kind: api.SBusy, Nr: 2, PF: true}, 0x55}, {api.S{Kind: api.SReject, Nr: 7, PF: true}, 0xf9},
		{api.U{Kind: api.UXid}, 0x2f}, {api.U{Kind: api.USnrm}, 0x83}, {api.U{Kind: api.UUa}, 0x63}, {api.U{Kind: api.UDm}, 0x0f}, {api.U{Kind: api.UDisc}, 0x43}, {api.U{Kind: api.UXchg}, 0x8b}, {api.U{Kind: api.UReset}, 0x8f},
		{api.U{Kind: api.UXid, PF: true}, 0x3f}, {api.U{Kind: api.USnrm, PF: true}, 0x93}, {api.U{Kind: api.UUa, PF: true}, 0x73}, {api.U{Kind: api.UDm, PF: true}, 0x1f}, {api.U{Kind: api.UDisc, PF: true}, 0x53}, {api.U{Kind: api.UXchg, PF: true}, 0x9b}, {api.U{Kind: api.UReset, PF: true}, 0x9f},
		{aliasOf{Kind: api.UXid}, 0x2f},
	} {
		if b, ok := Put(w.c); !ok || b != w.b || !May(w.c) {
			t.Errorf("P5.1: Put(%T %v): %x, %t, not %x", w.c, w.c, b, ok, w.b)
		}
		if c, ok := Get(w.b); !ok || c != w.c {
			t.Errorf("P5.1: Get(%x): %T %v, %t, not %T %v", w.b, c, c, ok, w.c, w.c)
		}
	}
}

func TestEachControl(t *testing.T) {
	all := each(t)
	if len(all) != 128+48+14 {
		t.Fatalf("%d controls", len(all))
	}
	for c, want := range all {
		if !May(c) {
			t.Errorf("P5.1: May(%T %v): false", c, c)
		}
		if b, ok := Put(c); !ok || b != want {
			t.Errorf("P5.1: Put(%T %v): %x, %t, not %x", c, c, b, ok, want)
		}
		if back, ok := Get(want); !ok || back != c {
			t.Errorf("P5.1: Get(%x): %T %v, %t, not %T %v", want, back, back, ok, c, c)
		}
	}
}

func TestEachByte(t *testing.T) {
	back := map[byte]any{}
	for c, b := range each(t) {
		if back[b] != nil {
			t.Fatalf("%x is two controls' byte", b)
		}
		back[b] = c
	}
	for i := range 256 {
		// A byte that is no control's has nil here.
		want := back[byte(i)]
		if c, ok := Get(byte(i)); ok != (want != nil) || c != want {
			t.Errorf("P5.1: Get(%x): %T %v, %t, not %v", i, c, c, ok, want)
		}
	}
}

func TestGetOfNone(t *testing.T) {
	for _, b := range []byte{0x03, 0x07, 0x0b, 0x0d, 0x13, 0x1d, 0x2b, 0x2d, 0x47, 0x6f, 0x87, 0xa3, 0xcf, 0xed, 0xef, 0xfd, 0xff} {
		if c, ok := Get(b); ok || c != nil {
			t.Errorf("P5.1: Get(%x): %T %v, %t", b, c, c, ok)
		}
	}
}

func TestPutOfWhatMayNotBe(t *testing.T) {
	for _, c := range append(mayNot(), others()...) {
		if May(c) {
			t.Errorf("P5.1: May(%T %v): true", c, c)
		}
		if b, ok := Put(c); ok || b != 0 {
			t.Errorf("P5.1: Put(%T %v): %x, %t", c, c, b, ok)
		}
	}
}

func TestPFAndNr(t *testing.T) {
	for _, nr := range append([]int{0, 1, 2, 3, 4, 5, 6, 7}, wrongNumbers...) {
		for _, pf := range []bool{false, true} {
			// The other number is another one, so that taking it for Nr is seen.
			other := nr ^ 3
			for _, c := range []any{api.I{Nr: nr, Ns: other, PF: pf}, api.S{Kind: other, Nr: nr, PF: pf}} {
				if got, ok := Nr(c); !ok || got != nr {
					t.Errorf("P5.1: Nr(%T %v): %d, %t", c, c, got, ok)
				}
				if PF(c) != pf {
					t.Errorf("P5.1: PF(%T %v): %t", c, c, !pf)
				}
			}
			c := api.U{Kind: nr, PF: pf}
			if got, ok := Nr(c); ok || got != 0 {
				t.Errorf("P5.1: Nr(%T %v): %d, %t", c, c, got, ok)
			}
			if PF(c) != pf {
				t.Errorf("P5.1: PF(%T %v): %t", c, c, !pf)
			}
		}
	}
	for _, c := range others() {
		if got, ok := Nr(c); ok || got != 0 || PF(c) {
			t.Errorf("P5.1: Nr(%T %v): %d, %t, PF: %t", c, c, got, ok, PF(c))
		}
	}
}

// panicked is what f panics with; nil: it does not.
func panicked(f func()) (with any) {
	defer func() { with = recover() }()
	f()
	return nil
}

func TestMust(t *testing.T) {
	controls := mayNot()
	for c := range each(t) {
		controls = append(controls, c)
	}
	for _, c := range append(controls, others()...) {
		_, isI := c.(api.I)
		_, isS := c.(api.S)
		_, isU := c.(api.U)
		for _, m := range []struct {
			name string
			is   bool
			must func() any
		}{
			{"MustI", isI, func() any { return MustI(c) }},
			{"MustS", isS, func() any { return MustS(c) }},
			{"MustU", isU, func() any { return MustU(c) }},
		} {
			var got any
			with := panicked(func() { got = m.must() })
			if m.is && (with != nil || got != c) {
				t.Errorf("P5.1: %s(%T %v): %v, panic %v", m.name, c, c, got, with)
			}
			// What panics is the assertion itself.
			if _, of := with.(*runtime.TypeAssertionError); !m.is && !of {
				t.Errorf("P5.1: %s(%T %v): %v, panic %v", m.name, c, c, got, with)
			}
		}
	}
}

func TestTheSameAgain(t *testing.T) {
	for c, want := range each(t) {
		Put(api.U{Kind: api.UReset, PF: true})
		Get(0xff)
		panicked(func() { MustI(nil) })
		for range 2 {
			if b, ok := Put(c); !ok || b != want {
				t.Errorf("P0.5: Put(%T %v): %x, %t, not %x", c, c, b, ok, want)
			}
		}
	}
}
