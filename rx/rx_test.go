package rx

import (
	"bytes"
	"math"
	"strings"
	"testing"

	"glowworm/api"
	"glowworm/crc"
	"glowworm/sample"
	"glowworm/sir"
)

// told is one end: of which byte Put said true, and what it said.
type told struct {
	at  int
	err api.Errno
	f   string
}

// tells puts b in, and holds what stands beside a false against P0.2.
func tells(t *testing.T, r *Rx, b string) []told {
	t.Helper()
	var ends []told
	for i := range len(b) {
		f, err, ended := r.Put(b[i])
		switch {
		case ended:
			ends = append(ends, told{i, err, string(f)})
		case f != nil || err != api.OK:
			t.Fatalf("P0.2: byte %d of %.40x: %x, %d beside a false", i, b, f, err)
		}
		if ended && err != api.OK && f != nil {
			t.Fatalf("P0.2: byte %d of %.40x: %x beside the error %d", i, b, f, err)
		}
		if ended && r.In() {
			t.Fatalf("P3.1: byte %d of %.40x: still inside behind an end", i, b)
		}
	}
	return ends
}

// plain is s without its marks; false: a mark stands at its end.
func plain(s string) (string, bool) {
	r := ""
	for {
		ahead, behind, marked := strings.Cut(s, "\x7d")
		r += ahead
		if !marked || behind == "" {
			return r, !marked
		}
		r += string([]byte{behind[0] ^ 0x20})
		s = behind[1:]
	}
}

// finished is a frame's end, by a second way: s is what stands between its C0 and its C1.
func finished(s string) (api.Errno, string) {
	whole, complete := plain(s)
	switch n := len(whole) - 2; {
	case !complete:
		return api.ErrAbort, ""
	case n < 1 || string(crc.Put([]byte(whole[:n]))) != whole:
		return api.ErrSum, ""
	default:
		return api.OK, whole[:n]
	}
}

// ends is what is told of b, and whether one is inside behind it, by a second way: b is cut at each C0.
func ends(most int, b string) ([]told, bool) {
	var all []told
	pieces := strings.Split(b, "\xc0")
	at, in := len(pieces[0])+1, false
	for _, p := range pieces[1:] {
		in = true
		s, _, complete := strings.Cut(p, "\xc1")
		for k := range len(s) + 1 {
			if w, _ := plain(s[:k]); in && len(w) > most+2 {
				all, in = append(all, told{at + k - 1, api.ErrRange, ""}), false
			}
		}
		if in && complete {
			err, f := finished(s)
			all, in = append(all, told{at + len(s), err, f}), false
		}
		at += len(p) + 1
	}
	return all, in
}

// check holds Put, In and All of b against the second way; most is from 1 to 200.
func check(t *testing.T, most int, b string) {
	t.Helper()
	r := New(most)
	got := tells(t, r, b)
	want, in := ends(most, b)
	same(t, b, got, want)
	if r.In() != in {
		t.Fatalf("P3.1: In behind %.60x: %t", b, r.In())
	}
	all := All(most, []byte(b))
	for _, w := range want {
		if w.err != api.OK {
			continue
		}
		if len(all) == 0 || string(all[0]) != w.f {
			t.Fatalf("P3.1: All(%d, %.60x): %x, where %x is wanted", most, b, all, w.f)
		}
		all = all[1:]
	}
	if len(all) != 0 {
		t.Fatalf("P3.1: All(%d, %.60x): %x too many", most, b, all)
	}
}

// byHand is a list, whether one is inside behind it, and what is told of it.
type byHand struct {
	what string
	b    string
	in   bool
	want []told
}

func (w byHand) check(t *testing.T, most int) {
	t.Helper()
	t.Log(w.what)
	r := New(most)
	same(t, w.b, tells(t, r, w.b), w.want)
	if r.In() != w.in {
		t.Errorf("P3.1: %s: In is %t", w.what, r.In())
	}
	check(t, most, w.b)
}

func same(t *testing.T, b string, got, want []told) {
	t.Helper()
	if len(got) != len(want) {
		t.Fatalf("P3.1: %.60x: %v, not %v", b, got, want)
	}
	for i := range got {
		if got[i] != want[i] {
			t.Fatalf("P3.1: %.60x: %v, not %v", b, got[i], want[i])
		}
	}
}

// wrap is sir's Wrap of a text.
func wrap(s string) string { return string(sir.Wrap([]byte(s), 0)) }

func TestPutByHand(t *testing.T) {
	// The sum of FF is FF00 and that of 00 is F078, so FF 00 FF and 00 78 F0 are fine frames.
	for _, w := range []byHand{
		{"nothing", "", false, nil},
		{"outside", "\xc1\x7d\xff\x00\x7d\xc1\xff\x00\xff\xc1", false, nil},
		{"a begin", "\xc0", true, nil},
		{"a frame that goes on", "\xc0\xff\x00\xff", true, nil},
		{"a frame", "\xc0\xff\x00\xff\xc1", false, []told{{4, api.OK, "\xff"}}},
		{"another", "\xc0\x00\x78\xf0\xc1", false, []told{{4, api.OK, "\x00"}}},
		{"fillers ahead", "\xff\xff\xc0\xff\x00\xff\xc1\xc1\xff", false, []told{{6, api.OK, "\xff"}}},
		{"two frames", "\xc0\xff\x00\xff\xc1\xc0\x00\x78\xf0\xc1", false, []told{{4, api.OK, "\xff"}, {9, api.OK, "\x00"}}},
		{"what is between is nothing", "\xc0\xff\x00\xff\xc1\xff\x00\xff\xc1", false, []told{{4, api.OK, "\xff"}}},
		{"no bytes", "\xc0\xc1", false, []told{{1, api.ErrSum, ""}}},
		{"one byte", "\xc0\xff\xc1", false, []told{{2, api.ErrSum, ""}}},
		{"a sum alone", "\xc0\x00\x00\xc1", false, []told{{3, api.ErrSum, ""}}},
		{"a sum that is not right", "\xc0\xff\x00\xfe\xc1", false, []told{{4, api.ErrSum, ""}}},
		{"a sum the other way round", "\xc0\x00\xf0\x78\xc1", false, []told{{4, api.ErrSum, ""}}},
		{"a begin within", "\xc0\x00\xc0\xff\x00\xff\xc1", false, []told{{6, api.OK, "\xff"}}},
		{"begins alone", "\xc0\xc0\xc0\xff\x00\xff\xc1", false, []told{{6, api.OK, "\xff"}}},
		{"a begin within, and no more", "\xc0\xff\x00\xff\xc0\xc1", false, []told{{5, api.ErrSum, ""}}},
		{"a begin behind a mark", "\xc0\x00\x7d\xc0\xff\x00\xff\xc1", false, []told{{7, api.OK, "\xff"}}},
		{"a begin behind a mark, marked again", "\xc0\x7d\xc0\x7d\xdf\x00\xff\xc1", false, []told{{7, api.OK, "\xff"}}},
		{"marked bytes", "\xc0\x7d\xdf\x7d\x20\x7d\xdf\xc1", false, []told{{7, api.OK, "\xff"}}},
		{"given up", "\xc0\x7d\xc1", false, []told{{2, api.ErrAbort, ""}}},
		{"given up, its sum right", "\xc0\xff\x00\xff\x7d\xc1", false, []told{{5, api.ErrAbort, ""}}},
		{"given up, then bytes outside", "\xc0\xff\x7d\xc1\x00\xff\xc1", false, []told{{3, api.ErrAbort, ""}}},
		{"a mark is not kept from a frame that was given up", "\xc0\x7d\xc1\xc0\xff\x00\xff\xc1", false, []told{{2, api.ErrAbort, ""}, {7, api.OK, "\xff"}}},
		{"a mark outside is not kept", "\x7d\xc0\xff\x00\xff\xc1", false, []told{{5, api.OK, "\xff"}}},
		{"a mark that is marked ends no frame badly", "\xc0\x7d\x7d\xc1", false, []told{{3, api.ErrSum, ""}}},
		{"three marks", "\xc0\x7d\x7d\x7d\xc1", false, []told{{4, api.ErrAbort, ""}}},
		{"four marks", "\xc0\x7d\x7d\x7d\x7d\xc1", false, []told{{5, api.ErrSum, ""}}},
		{"bytes of nothing are no error", "\xc1\xc1", false, nil},
	} {
		w.check(t, 3)
	}
}

func TestAMarkedMarkIsAByte(t *testing.T) {
	// Each list ends with a byte 5D of the sum, as 7D 7D: the C1 behind it ends the frame well.
	n := 0
	for v := range 1 << 16 {
		b := crc.Put([]byte{byte(v), byte(v >> 8)})
		if b[3] != 0x5d {
			continue
		}
		n++
		s := "\xc0" + string(sir.Escape(b[:3])) + "\x7d\x7d\xc1"
		same(t, s, tells(t, New(2), s), []told{{len(s) - 1, api.OK, string(b[:2])}})
	}
	if n == 0 {
		t.Fatal("no list has such a sum")
	}
}

func TestEachByteMarkedAndNot(t *testing.T) {
	for x := range 256 {
		f := []byte{byte(x), byte(x)}
		marked := "\xc0"
		for _, y := range crc.Put(f) {
			// E0 and E1 would be marked by a C0 and a C1: these begin and end.
			if y != 0xe0 && y != 0xe1 {
				marked += "\x7d"
				y ^= 0x20
			}
			marked += string([]byte{y})
		}
		marked += "\xc1"
		for _, s := range []string{marked, wrap(string(f))} {
			same(t, s, tells(t, New(2), s), []told{{len(s) - 1, api.OK, string(f)}})
		}
	}
}

func TestOutsideIsNothing(t *testing.T) {
	r := New(9)
	for x := range 256 {
		if x == 0xc0 {
			continue
		}
		if f, err, ended := r.Put(byte(x)); f != nil || err != api.OK || ended || r.In() {
			t.Errorf("P3.1: %02x outside: %x, %d, %t", x, f, err, ended)
		}
	}
	if len(tells(t, r, strings.Repeat("\x01", 1000))) != 0 {
		t.Error("P3.1: bytes outside are too many")
	}
}

func TestNewTakesTheNearerMost(t *testing.T) {
	for _, w := range []struct{ most, want int }{
		{math.MinInt, 1}, {math.MinInt32, 1}, {-200, 1}, {-2, 1}, {-1, 1}, {0, 1}, {1, 1}, {2, 2}, {3, 3}, {80, 80},
		{199, 199}, {200, 200}, {201, 200}, {202, 200}, {255, 200}, {256, 200}, {1<<32 + 5, 200}, {math.MaxInt - 1, 200}, {math.MaxInt, 200},
	} {
		for _, fill := range []string{"\x00", "\x7d", "g", "\xc1"} {
			fits, long := strings.Repeat(fill, w.want), strings.Repeat(fill, w.want+1)
			if got := All(w.most, []byte(wrap(fits))); len(got) != 1 || string(got[0]) != fits {
				t.Errorf("P3.1: All(%d, of %d bytes): %.20x", w.most, w.want, got)
			}
			if got := All(w.most, []byte(wrap(long))); len(got) != 0 {
				t.Errorf("P3.1: All(%d, of %d bytes): %.20x", w.most, w.want+1, got)
			}
			got := tells(t, New(w.most), wrap(fits)+wrap(long)+wrap("g"))
			want, _ := ends(w.want, wrap(fits)+wrap(long)+wrap("g"))
			same(t, "most", got, want)
		}
	}
}

func TestEachLength(t *testing.T) {
	for most := 1; most <= 200; most++ {
		for n := max(most-2, 1); n <= most+3; n++ {
			check(t, most, wrap(string(sample.Mixed(n, uint32(most))))+wrap("g"))
		}
	}
}

func TestTooLongIsGivenUpAtOnce(t *testing.T) {
	for _, w := range []byHand{
		{"just as long as may be", "\xc0abcd", true, nil},
		{"one more", "\xc0abcde", false, []told{{5, api.ErrRange, ""}}},
		{"what is behind is nothing", "\xc0abcdefghijk\x7d\xc1\xc1", false, []told{{5, api.ErrRange, ""}}},
		{"the frame behind it", "\xc0abcdef\xc1\xc0\xff\x00\xff\xc1", false, []told{{5, api.ErrRange, ""}, {12, api.OK, "\xff"}}},
		{"the frame behind it, without an end between", "\xc0abcde\xc0\xff\x00\xff\xc1", false, []told{{5, api.ErrRange, ""}, {10, api.OK, "\xff"}}},
		{"again", "\xc0abcde\xc0abcde", false, []told{{5, api.ErrRange, ""}, {11, api.ErrRange, ""}}},
		{"a mark is no byte", "\xc0abcd\x7d", true, nil},
		{"a marked byte is one too many", "\xc0abcd\x7dx", false, []told{{6, api.ErrRange, ""}}},
		{"a marked mark is one too many", "\xc0abcd\x7d\x7d", false, []told{{6, api.ErrRange, ""}}},
		{"no mark is kept behind", "\xc0abcd\x7dx\xc0\xff\x00\xff\xc1", false, []told{{6, api.ErrRange, ""}, {11, api.OK, "\xff"}}},
		{"aborted in time", "\xc0abcd\x7d\xc1", false, []told{{6, api.ErrAbort, ""}}},
		{"ended in time", "\xc0abcd\xc1", false, []told{{5, api.ErrSum, ""}}},
		{"begun anew in time", "\xc0abcd\xc0ab", true, nil},
		{"begun anew, and too long", "\xc0abcd\xc0abcd\x7de", false, []told{{11, api.ErrRange, ""}}},
	} {
		w.check(t, 2)
	}
}

func TestAllShortLists(t *testing.T) {
	// FF 00 FF is a fine frame of one byte, and 7D DF another FF.
	for b := range sample.Each("\xc0\xc1\x7d\x00\xff\xdf", 5) {
		check(t, 1, b)
		check(t, 1, "\xc0\xff"+b)
		check(t, 2, "\xc0\xff\x00"+b+"\xc1")
	}
}

func TestLongLists(t *testing.T) {
	some := "\xc0\xc1\x7d\x7d\x5d\xe0\xe1abcdefgh"
	for k := range uint32(300) {
		most := 1 + int(k)%9
		var s strings.Builder
		for i, x := range sample.Mixed(120, k) {
			switch {
			case x < 40:
				s.WriteString(wrap(string(sample.Mixed(1+int(x)%10, uint32(i)))))
			case x < 50:
				s.Write(sir.Abort(sample.Mixed(int(x)%6, uint32(i))))
			case x < 60:
				s.WriteString(wrap(string(sample.Mixed(5, uint32(i))))[:5])
			default:
				s.WriteByte(some[int(x)%len(some)])
			}
		}
		check(t, most, s.String())
	}
	for k := range uint32(50) {
		check(t, 200, string(sample.Mixed(3000, k)))
	}
}

func TestTurnedBits(t *testing.T) {
	b := wrap("glowworm")
	for i := range b {
		for bit := range 8 {
			c := []byte(b)
			c[i] ^= 1 << bit
			check(t, 20, string(c)+wrap("g"))
			if got := All(20, c); len(got) != 0 {
				t.Errorf("P3.1: with bit %d of byte %d turned: %x", bit, i, got)
			}
		}
	}
}

func TestAllOfNothing(t *testing.T) {
	for _, most := range []int{math.MinInt, 0, 1, 200, math.MaxInt} {
		if len(All(most, nil)) != 0 || len(All(most, []byte{})) != 0 {
			t.Errorf("P0.4: All(%d) of no bytes has frames", most)
		}
	}
}

func TestAllOfMany(t *testing.T) {
	s := ""
	for x := range 256 {
		s += wrap(string([]byte{byte(x)}))
	}
	got := All(1, []byte(strings.Repeat(s, 200)))
	if len(got) != 256*200 {
		t.Fatalf("P3.1: All: %d frames", len(got))
	}
	for i, f := range got {
		if !bytes.Equal(f, []byte{byte(i)}) {
			t.Fatalf("P3.1: All: frame %d is %x", i, f)
		}
	}
}

func TestNilRx(t *testing.T) {
	var none *Rx
	for x := range 256 {
		if f, err, ended := none.Put(byte(x)); f != nil || err != api.ErrDown || ended {
			t.Errorf("P3.1: a nil *Rx, %02x: %x, %d, %t", x, f, err, ended)
		}
		if none.In() {
			t.Errorf("P3.1: a nil *Rx is inside behind %02x", x)
		}
	}
}

func TestRxWithoutNew(t *testing.T) {
	var r Rx
	for _, x := range sample.Mixed(2000, 1) {
		r.Put(x)
		r.In()
	}
}

func TestAllChangesNothingHandedIn(t *testing.T) {
	for _, s := range []string{"", wrap("glowworm"), "\xc0glow", wrap("g") + string(sir.Abort([]byte("w"))) + wrap("o"), string(sample.Mixed(500, 1))} {
		room := []byte(s + "\xc0\xff\x00\xff\xc1 spare room")
		want := bytes.Clone(room)
		All(20, room[:len(s)])
		if !bytes.Equal(room, want) {
			t.Errorf("P0.3: All changes %.20x or its spare room", s)
		}
	}
}

// spoil writes into all of f, its spare room too.
func spoil(f []byte) {
	f = f[:cap(f)]
	for i := range f {
		f[i] ^= 0xff
	}
}

func TestAllAnswersNewMemory(t *testing.T) {
	in := append(make([]byte, 0, 100), wrap("glow")+wrap("worm")+wrap("light")...)
	want := bytes.Clone(in)
	one, two := All(20, in), All(20, in)
	for i, f := range one {
		spoil(f)
		for j, w := range []string{"glow", "worm", "light"} {
			if j > i && string(one[j]) != w || string(two[j]) != w {
				t.Fatalf("P0.3: frame %d of All shares memory with another", i)
			}
		}
	}
	for i := range one[:cap(one)] {
		one[:cap(one)][i] = nil
	}
	if !bytes.Equal(in, want) || !bytes.Equal(in[len(in):cap(in)], make([]byte, cap(in)-len(in))) {
		t.Error("P0.3: what All answers shares memory with its argument")
	}
	spoil(in)
	if len(two) != 3 || string(two[0]) != "glow" || string(two[1]) != "worm" || string(two[2]) != "light" {
		t.Error("P0.3: All keeps its argument, or its answers share memory")
	}
}

func TestPutAnswersNewMemory(t *testing.T) {
	r := New(20)
	put := func(s string) []byte {
		var f []byte
		for _, x := range []byte(s) {
			if g, _, ended := r.Put(x); ended {
				f = g
			}
		}
		return f
	}
	one := put(wrap("glowworm"))
	two := put(wrap("light"))
	if string(one) != "glowworm" {
		t.Fatalf("P0.3: the next frame writes into the one that was answered: %q", one)
	}
	put(wrap("infrared")[:6])
	spoil(one)
	spoil(two)
	if three := put(wrap("infrared")[6:]); string(three) != "infrared" {
		t.Errorf("P0.3: writing into an answer changes the frame that comes: %q", three)
	}
}

func TestOneRxKnowsNothingOfAnother(t *testing.T) {
	one, two := New(4), New(9)
	s := wrap("glow")
	for i := range len(s) {
		f, _, ended := one.Put(s[i])
		if ended != (i == len(s)-1) || ended && string(f) != "glow" {
			t.Fatalf("P0.5: byte %d: %q, %t", i, f, ended)
		}
		two.Put(0xc0)
		All(5, []byte("\xc0abc"))
		if !two.In() {
			t.Fatal("P0.5: the other is outside")
		}
	}
	same(t, s, tells(t, one, s), []told{{len(s) - 1, api.OK, "glow"}})
}
