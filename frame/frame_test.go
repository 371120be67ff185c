package frame

import (
	"bytes"
	"math"
	"strings"
	"testing"
	"unsafe"

	"glowworm/api"
	"glowworm/ctl"
	"glowworm/sample"
)

// control is a control that may be, and what a Plain tells of it.
type control struct {
	c any
	p api.Plain
}

// controls are all that may be.
func controls() []control {
	var all []control
	for _, pf := range []bool{false, true} {
		for nr := range 8 {
			for ns := range 8 {
				all = append(all, control{api.I{Nr: nr, Ns: ns, PF: pf}, api.Plain{Kind: 1, Nr: nr, Ns: ns, PF: pf}})
			}
			for kind := range 3 {
				all = append(all, control{api.S{Kind: kind, Nr: nr, PF: pf}, api.Plain{Kind: 2, Sort: kind, Nr: nr, PF: pf}})
			}
		}
		for kind := 1; kind <= 7; kind++ {
			all = append(all, control{api.U{Kind: kind, PF: pf}, api.Plain{Kind: 3, Sort: kind, PF: pf}})
		}
	}
	return all
}

// wrongParts are controls, but none that may be.
func wrongParts() []any {
	all := []any{api.S{Kind: 3}, api.U{}, api.U{PF: true}}
	for _, n := range []int{-1, 8, 256, 1 << 32, math.MaxInt, math.MinInt} {
		all = append(all, api.I{Nr: n}, api.I{Ns: n}, api.S{Nr: n}, api.S{Kind: n}, api.U{Kind: n}, api.I{Nr: n, Ns: n, PF: true})
	}
	return all
}

type likeI api.I

// others are no controls; of some of them == panics.
func others() []any {
	return []any{
		nil, 5, "I", 1.5, true, byte(0x2f), []byte{0}, map[int]int{}, func() {}, [1][]int{}, struct{ f func() }{}, []any{api.I{}},
		&api.I{}, &api.S{}, &api.U{Kind: 1}, (*api.I)(nil), likeI{}, struct{ Nr, Ns int }{1, 2}, struct{ api.U }{api.U{Kind: 1}},
		api.Frame{Ctl: api.I{}}, api.Plain{Kind: 1}, api.Address{Seat: 1, Count: 1},
	}
}

// addresses are some that may be: the edges and others.
func addresses() []api.Address {
	var all []api.Address
	for _, seat := range []int{0, 1, 2, 63, 64, 100, 126, 127} {
		for _, count := range []int{0, 1, 9, 127, 128, 200, 254, 255} {
			all = append(all, api.Address{Seat: seat, Count: count})
		}
	}
	return all
}

// wrongAddresses have a part that may not be; some would be if it were cut to fewer bits.
func wrongAddresses() []api.Address {
	var all []api.Address
	for _, n := range []int{-1, -2, -127, -128, -256, 256, 257, 384, 512, 1 << 16, 1<<32 + 5, math.MaxInt, math.MinInt} {
		all = append(all, api.Address{Seat: n}, api.Address{Count: n}, api.Address{Seat: n, Count: n}, api.Address{Seat: 127, Count: n}, api.Address{Seat: n, Count: 255})
	}
	return append(all, api.Address{Seat: 128}, api.Address{Seat: 255, Count: 255}, api.Address{Seat: 128, Count: 128})
}

// identical says whether the parts are the very same, one by one; the controls must be such that == does not panic.
func identical(a, b api.Frame) bool {
	return a.Addr == b.Addr && a.Cmd == b.Cmd && a.Ctl == b.Ctl && a.Body == b.Body
}

// checkMay holds every call of a frame that may be against its bytes and its Plain.
func checkMay(t *testing.T, f api.Frame, want []byte, p api.Plain) {
	t.Helper()
	if !May(f) {
		t.Errorf("P6.1: May(%v): false", f)
	}
	if b, ok := Put(f); !ok || !bytes.Equal(b, want) {
		t.Errorf("P6.1: Put(%v): %x, %t, not %x", f, b, ok, want)
	}
	if back, ok := Get(want); !ok || !identical(back, f) {
		t.Errorf("P6.1: Get(%x): %v, %t, not %v", want, back, ok, f)
	}
	if got := Plain(f); got != p {
		t.Errorf("P6.1: Plain(%v): %v, not %v", f, got, p)
	}
	if back, ok := Of(p); !ok || !identical(back, f) {
		t.Errorf("P6.1: Of(%v): %v, %t, not %v", p, back, ok, f)
	}
	if !Eq(f, f) {
		t.Errorf("P6.1: Eq(%v) of itself: false", f)
	}
}

// checkMayNot holds what is said of a frame that may not be against P6.1.
func checkMayNot(t *testing.T, f api.Frame) {
	t.Helper()
	if May(f) {
		t.Errorf("P6.1: May(%.80v): true", f)
	}
	if b, ok := Put(f); ok || b != nil {
		t.Errorf("P6.1: Put(%.80v): %.20x, %t", f, b, ok)
	}
	if p := Plain(f); p != (api.Plain{}) {
		t.Errorf("P6.1: Plain(%.80v): %.80v", f, p)
	}
}

func TestByHand(t *testing.T) {
	a, long := api.Address{Seat: 3, Count: 9}, strings.Repeat("w", 64)
	for _, w := range []struct {
		f    api.Frame
		want string
		p    api.Plain
	}{
		{api.Frame{Ctl: api.I{}}, "\x00\x00\x00", api.Plain{Kind: 1}},
		{api.Frame{Ctl: api.S{}}, "\x00\x00\x01", api.Plain{Kind: 2}},
		{api.Frame{Ctl: api.U{Kind: api.UXid}}, "\x00\x00\x2f", api.Plain{Kind: 3, Sort: api.UXid}},
		{api.Frame{Addr: a, Cmd: true, Ctl: api.I{Nr: 3, Ns: 5}, Body: "hi"}, "\x07\x09\x6ahi", api.Plain{Addr: a, Cmd: true, Kind: 1, Nr: 3, Ns: 5, Body: "hi"}},
		{api.Frame{Addr: a, Ctl: api.I{Nr: 5, Ns: 3, PF: true}}, "\x06\x09\xb6", api.Plain{Addr: a, Kind: 1, Nr: 5, Ns: 3, PF: true}},
		{api.Frame{Addr: a, Cmd: true, Ctl: api.S{Kind: api.SReject, Nr: 1, PF: true}}, "\x07\x09\x39", api.Plain{Addr: a, Cmd: true, Kind: 2, Sort: api.SReject, Nr: 1, PF: true}},
		{api.Frame{Addr: a, Ctl: api.S{Kind: api.SBusy, Nr: 7}}, "\x06\x09\xe5", api.Plain{Addr: a, Kind: 2, Sort: api.SBusy, Nr: 7}},
		{api.Frame{Addr: a, Ctl: api.U{Kind: api.UReset, PF: true}, Body: "\x00"}, "\x06\x09\x9f\x00", api.Plain{Addr: a, Kind: 3, Sort: api.UReset, PF: true, Body: "\x00"}},
		{api.Frame{Addr: All(), Cmd: true, Ctl: api.U{Kind: api.UXid, PF: true}, Body: long}, "\xff\xff\x3f" + long, api.Plain{Addr: All(), Cmd: true, Kind: 3, Sort: api.UXid, PF: true, Body: long}},
		{api.Frame{Addr: api.Address{Seat: 127}, Ctl: api.U{Kind: api.UDisc}}, "\xfe\x00\x43", api.Plain{Addr: api.Address{Seat: 127}, Kind: 3, Sort: api.UDisc}},
		{api.Frame{Addr: api.Address{Count: 255}, Cmd: true, Ctl: api.I{Nr: 7, Ns: 7, PF: true}, Body: "\xc0\xc1\x7d\xff"}, "\x01\xff\xfe\xc0\xc1\x7d\xff", api.Plain{Addr: api.Address{Count: 255}, Cmd: true, Kind: 1, Nr: 7, Ns: 7, PF: true, Body: "\xc0\xc1\x7d\xff"}},
	} {
		checkMay(t, w.f, []byte(w.want), w.p)
	}
}

func TestAll(t *testing.T) {
	if All() != (api.Address{Seat: 127, Count: 255}) {
		t.Errorf("P6.1: All: %v", All())
	}
	if !May(api.Frame{Addr: All(), Ctl: api.I{}}) {
		t.Error("P6.1: a frame to everybody may not be")
	}
}

func TestEachControl(t *testing.T) {
	for _, a := range addresses() {
		for k, x := range controls() {
			code, _ := ctl.Put(x.c)
			cmd := k%2 == 1
			first := byte(a.Seat + a.Seat)
			if cmd {
				first++
			}
			body := ""
			if x.p.Kind != 2 {
				body = string(sample.Mixed(k%65, uint32(k)))
			}
			p := x.p
			p.Addr, p.Cmd, p.Body = a, cmd, body
			checkMay(t, api.Frame{Addr: a, Cmd: cmd, Ctl: x.c, Body: body}, append([]byte{first, byte(a.Count), code}, body...), p)
		}
	}
}

func TestEachSeatAndCount(t *testing.T) {
	for seat := -3; seat < 300; seat++ {
		for count := -3; count < 300; count++ {
			f := api.Frame{Addr: api.Address{Seat: seat, Count: count}, Cmd: true, Ctl: api.S{}}
			b, ok := Put(f)
			if want := seat >= 0 && seat < 128 && count >= 0 && count < 256; ok != want || May(f) != want {
				t.Fatalf("P6.1: Put(%v): %x, %t", f, b, ok)
			}
			if ok && string(b) != string([]byte{byte(seat*2 + 1), byte(count), 1}) {
				t.Fatalf("P6.1: Put(%v): %x", f, b)
			}
		}
	}
}

func TestBodies(t *testing.T) {
	for n := range 300 {
		body := string(sample.Mixed(n, uint32(n)))
		for _, x := range controls() {
			f := api.Frame{Addr: api.Address{Seat: 5, Count: 6}, Ctl: x.c, Body: body}
			want := n == 0 || n <= 64 && x.p.Kind != 2
			if May(f) != want {
				t.Fatalf("P6.1: May of a body of %d bytes, %v: %t", n, x.c, !want)
			}
			code, _ := ctl.Put(x.c)
			b := append([]byte{10, 6, code}, body...)
			p := x.p
			p.Addr, p.Body = f.Addr, body
			if want {
				checkMay(t, f, b, p)
				continue
			}
			checkMayNot(t, f)
			if got, ok := Get(b); ok || !identical(got, api.Frame{}) {
				t.Fatalf("P6.1: Get of a body of %d bytes, %v: %v, %t", n, x.c, got, ok)
			}
			if got, ok := Of(p); ok || !identical(got, api.Frame{}) {
				t.Fatalf("P6.1: Of a body of %d bytes, %v: %v, %t", n, x.c, got, ok)
			}
		}
	}
}

func TestLongBodies(t *testing.T) {
	body := strings.Repeat("g", 1<<24)
	for _, c := range []any{api.I{}, api.S{}, api.U{Kind: 1}, nil, 7} {
		f := api.Frame{Ctl: c, Body: body}
		checkMayNot(t, f)
		if Eq(f, api.Frame{Ctl: c}) {
			t.Errorf("P6.1: Eq of a long body and none, %v", c)
		}
	}
	for kind := range 5 {
		if f, ok := Of(api.Plain{Kind: kind, Sort: kind / 3, Body: body}); ok || !identical(f, api.Frame{}) {
			t.Errorf("P6.1: Of a long body, Kind %d: %t", kind, ok)
		}
	}
	if f, ok := Get([]byte(body)); ok || !identical(f, api.Frame{}) {
		t.Errorf("P6.1: Get of a long list: %t", ok)
	}
	// A body of a multiple of 256 or of 2^16 bytes is not one of fewer.
	for _, n := range []int{256, 1 << 16, 1<<16 + 3} {
		if f, ok := Get(make([]byte, n)); ok || !identical(f, api.Frame{}) {
			t.Errorf("P6.1: Get of %d bytes: %v", n, f)
		}
	}
}

func TestWhatMayNotBe(t *testing.T) {
	checkMayNot(t, api.Frame{})
	for _, c := range append(wrongParts(), others()...) {
		for _, body := range []string{"", "b"} {
			checkMayNot(t, api.Frame{Addr: api.Address{Seat: 1, Count: 2}, Cmd: true, Ctl: c, Body: body})
		}
	}
	for _, a := range wrongAddresses() {
		for _, c := range []any{api.I{Nr: 1}, api.S{}, api.U{Kind: 3}, nil} {
			checkMayNot(t, api.Frame{Addr: a, Ctl: c})
		}
	}
}

// framed is what Get must tell of three bytes and a body, by a second way: bit by bit.
func framed(b []byte) (api.Frame, bool) {
	c, ok := ctl.Get(b[2])
	_, isS := c.(api.S)
	if !ok || isS && len(b) > 3 {
		return api.Frame{}, false
	}
	return api.Frame{Addr: api.Address{Seat: int(b[0] >> 1), Count: int(b[1])}, Cmd: b[0]&1 == 1, Ctl: c, Body: string(b[3:])}, true
}

func TestGetOfEachHead(t *testing.T) {
	for _, body := range []string{"", "g", strings.Repeat("\xff", 64)} {
		for one := range 256 {
			for _, two := range []byte{0, 1, 127, 128, 255} {
				for three := range 256 {
					b := append([]byte{byte(one), two, byte(three)}, body...)
					want, may := framed(b)
					f, ok := Get(b)
					if ok != may || !identical(f, want) {
						t.Fatalf("P6.1: Get(%x): %v, %t, not %v", b, f, ok, want)
					}
					back, also := Put(f)
					if also != may || may && !bytes.Equal(back, b) {
						t.Fatalf("P6.1: Put of Get(%x): %x, %t", b, back, also)
					}
				}
			}
		}
	}
}

func TestGetOfTooFewBytes(t *testing.T) {
	for _, b := range [][]byte{nil, {}} {
		if f, ok := Get(b); ok || !identical(f, api.Frame{}) {
			t.Errorf("P0.4: Get of no bytes: %v, %t", f, ok)
		}
	}
	for one := range 256 {
		for _, b := range [][]byte{{byte(one)}, {byte(one), 0}, {0, byte(one)}, {7, byte(one)}} {
			// What stands in the spare room is none of it.
			room := append(bytes.Clone(b), 0x2f, 0x2f)
			if f, ok := Get(room[:len(b)]); ok || !identical(f, api.Frame{}) {
				t.Errorf("P6.1: Get(%x): %v, %t", b, f, ok)
			}
		}
	}
}

func TestOfEachPlain(t *testing.T) {
	want := map[api.Plain]any{}
	for _, x := range controls() {
		want[x.p] = x.c
	}
	n := 0
	parts := []int{-1, 0, 1, 2, 3, 4, 5, 6, 7, 8}
	for kind := -2; kind < 7; kind++ {
		for _, sort := range parts {
			for _, nr := range parts {
				for _, ns := range parts {
					for _, pf := range []bool{false, true} {
						p := api.Plain{Kind: kind, Sort: sort, Nr: nr, Ns: ns, PF: pf}
						f, ok := Of(p)
						c := want[p]
						if ok != (c != nil) || !identical(f, api.Frame{Ctl: c}) {
							t.Fatalf("P6.1: Of(%v): %v, %t, not %v", p, f, ok, c)
						}
						if ok {
							n++
						}
					}
				}
			}
		}
	}
	if n != 128+48+14 {
		t.Errorf("P6.1: %d Plains are of controls", n)
	}
}

func TestOfWhatIsNoPlain(t *testing.T) {
	for _, x := range controls() {
		for _, n := range []int{-1, -8, 8, 9, 256, 257, 1 << 16, 1 << 32, 1<<32 + 1, math.MaxInt, math.MinInt, math.MinInt + 1} {
			for _, turn := range []func(p *api.Plain){
				func(p *api.Plain) { p.Kind = n },
				func(p *api.Plain) { p.Kind += 1 << 32 },
				func(p *api.Plain) { p.Kind -= 1 << 8 },
				func(p *api.Plain) { p.Sort = n },
				func(p *api.Plain) { p.Nr = n },
				func(p *api.Plain) { p.Ns = n },
			} {
				p := x.p
				turn(&p)
				if f, ok := Of(p); ok || !identical(f, api.Frame{}) {
					t.Fatalf("P6.1: Of(%v): %v, %t", p, f, ok)
				}
			}
		}
		for _, a := range wrongAddresses() {
			p := x.p
			p.Addr = a
			if f, ok := Of(p); ok || !identical(f, api.Frame{}) {
				t.Fatalf("P6.1: Of(%v): %v, %t", p, f, ok)
			}
		}
	}
}

func TestEqOfEachPart(t *testing.T) {
	one := api.Frame{Addr: api.Address{Seat: 1, Count: 2}, Cmd: true, Ctl: api.I{Nr: 1, Ns: 2}, Body: "b"}
	for k, turn := range []func(f *api.Frame){
		func(f *api.Frame) { f.Addr.Seat = 2 }, func(f *api.Frame) { f.Addr.Count = 1 }, func(f *api.Frame) { f.Addr.Seat += 128 }, func(f *api.Frame) { f.Addr.Count += 256 },
		func(f *api.Frame) { f.Addr.Seat, f.Addr.Count = 2, 1 }, func(f *api.Frame) { f.Cmd = false },
		func(f *api.Frame) { f.Body = "" }, func(f *api.Frame) { f.Body = "c" }, func(f *api.Frame) { f.Body = "b\x00" }, func(f *api.Frame) { f.Body = "B" },
	} {
		for _, c := range append(wrongParts(), api.I{Nr: 1, Ns: 2}, api.S{Nr: 1}, api.U{Kind: 2}) {
			a := one
			a.Ctl = c
			b := a
			if !Eq(a, b) {
				t.Errorf("P6.1: Eq(%v) of itself: false", a)
			}
			if turn(&b); Eq(a, b) || Eq(b, a) {
				t.Errorf("P6.1, %d: Eq(%v, %v): true", k, a, b)
			}
		}
	}
}

func TestEqOfControls(t *testing.T) {
	all := wrongParts()
	for _, x := range controls() {
		all = append(all, x.c)
	}
	// These have the parts of others, but not their form.
	all = append(all, api.S{Kind: 5, Nr: 1}, api.U{Kind: 8, PF: true}, api.S{Kind: 0, Nr: 0, PF: true}, api.I{Nr: 9, Ns: 9})
	for _, c := range all {
		for _, d := range all {
			if Eq(api.Frame{Ctl: c}, api.Frame{Ctl: d}) != (c == d) {
				t.Fatalf("P6.1: Eq of %T %v, %T %v: %t", c, c, d, d, c != d)
			}
		}
	}
}

func TestEqOfNoControls(t *testing.T) {
	for _, c := range others() {
		for _, d := range append(others(), c, api.I{}, api.I{Nr: 1, Ns: 2}, api.S{}, api.U{}, api.U{Kind: 1}) {
			a, b := api.Frame{Ctl: c}, api.Frame{Ctl: d}
			if Eq(a, b) || Eq(b, a) {
				t.Errorf("P6.1: Eq of %T, %T: true", c, d)
			}
		}
	}
}

func TestNothingHandedInIsChanged(t *testing.T) {
	for n := range 80 {
		for _, code := range []byte{0, 1, 0x2f, 0x0d} {
			room := append([]byte{7, 9, code}, sample.Mixed(n, uint32(n))...)
			room = append(room, "spare room"...)
			want := bytes.Clone(room)
			Get(room[:3+n])
			if !bytes.Equal(room, want) {
				t.Fatalf("P0.3: Get changes a list of %d bytes or its spare room", 3+n)
			}
		}
	}
}

func TestAnswersAreNewMemory(t *testing.T) {
	for _, body := range []string{"g", "glowworm", strings.Repeat("w", 64)} {
		f := api.Frame{Addr: api.Address{Seat: 3, Count: 9}, Ctl: api.U{Kind: 1}, Body: body}
		want := "\x06\x09\x2f" + body
		one, _ := Put(f)
		two, _ := Put(f)
		for i := range one[:cap(one)] {
			one[:cap(one)][i] ^= 0xff
		}
		if three, _ := Put(f); f.Body != body || string(two) != want || string(three) != want {
			t.Errorf("P0.3: answers of Put share memory, body %q", body)
		}
		b, _ := Get(two)
		for i := range two[:cap(two)] {
			two[:cap(two)][i] ^= 0xff
		}
		if b.Body != body || b.Addr != f.Addr || b.Ctl != any(api.U{Kind: 1}) {
			t.Errorf("P0.3: Get keeps its argument, body %q", body)
		}
		p := Plain(f)
		g, _ := Of(p)
		if unsafe.StringData(p.Body) == unsafe.StringData(f.Body) || unsafe.StringData(g.Body) == unsafe.StringData(p.Body) {
			t.Errorf("P0.3: Plain or Of holds on to its argument, body %q", body)
		}
	}
}

func TestTheSameAgain(t *testing.T) {
	f := api.Frame{Addr: api.Address{Seat: 3, Count: 9}, Ctl: api.I{Nr: 1}, Body: "glowworm"}
	first, _ := Put(f)
	p := Plain(f)
	Put(api.Frame{})
	Get([]byte{255, 255, 0x3f, 1, 2, 3})
	Of(api.Plain{Kind: 3, Sort: 1, Body: "worm"})
	Eq(f, api.Frame{Ctl: func() {}})
	for range 2 {
		b, ok := Put(f)
		g, also := Get(first)
		if !ok || !also || !bytes.Equal(b, first) || Plain(f) != p || !identical(f, g) || !Eq(f, g) {
			t.Error("P0.5: a frame is answered otherwise the second time")
		}
	}
}
