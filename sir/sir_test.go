package sir

import (
	"bytes"
	"math"
	"strings"
	"testing"

	"glowworm/crc"
	"glowworm/sample"
)

// escaped is Escape by a second way: the marks first, or they would be marked again.
func escaped(b []byte) []byte {
	s := strings.ReplaceAll(string(b), "\x7d", "\x7d\x5d")
	s = strings.ReplaceAll(s, "\xc0", "\x7d\xe0")
	return []byte(strings.ReplaceAll(s, "\xc1", "\x7d\xe1"))
}

// wrapped is Wrap by a second way, of an extra from 0 to 10.
func wrapped(b []byte, extra int) []byte {
	s := crc.Of(b)
	whole := append(bytes.Clone(b), byte(s), byte(s>>8))
	return []byte(strings.Repeat("\xff", extra) + "\xc0" + string(escaped(whole)) + "\xc1")
}

// inputs are nil and empty lists, each byte, each pair of bytes near a special one, ordinary lists, and a long one.
func inputs() [][]byte {
	ins := [][]byte{
		nil, {}, []byte("123456789"), []byte("glowworm"), sample.Mixed(70000, 7),
		bytes.Repeat([]byte{0xc0}, 40), bytes.Repeat([]byte{0xc1}, 40), bytes.Repeat([]byte{0x7d}, 40), bytes.Repeat([]byte{0xff}, 40),
	}
	for x := range 256 {
		ins = append(ins, []byte{byte(x)}, []byte{byte(x), byte(255 - x)})
	}
	near := []byte{0x00, 0x20, 0x5d, 0x7c, 0x7d, 0x7e, 0xbf, 0xc0, 0xc1, 0xc2, 0xe0, 0xe1, 0xff}
	for _, x := range near {
		for _, y := range near {
			ins = append(ins, []byte{x, y}, []byte{'a', x, y, 'z'})
		}
	}
	for n := range 90 {
		ins = append(ins, sample.Mixed(n, uint32(n)))
	}
	return ins
}

// withSum is the list of two bytes that has the sum s: there is just one.
func withSum(t *testing.T, s uint16) []byte {
	t.Helper()
	for v := range 1 << 16 {
		if b := []byte{byte(v), byte(v >> 8)}; crc.Of(b) == s {
			return b
		}
	}
	t.Fatalf("no two bytes have the sum %04x", s)
	return nil
}

func TestEscapeOfEachByte(t *testing.T) {
	for x := range 256 {
		want := []byte{byte(x)}
		switch x {
		case 0xc0:
			want = []byte{0x7d, 0xe0}
		case 0xc1:
			want = []byte{0x7d, 0xe1}
		case 0x7d:
			want = []byte{0x7d, 0x5d}
		}
		if got := Escape([]byte{byte(x)}); !bytes.Equal(got, want) {
			t.Errorf("P2.1: Escape of %02x: %x, not %x", x, got, want)
		}
	}
}

func TestEscapeByHand(t *testing.T) {
	for _, w := range []struct{ b, want string }{
		{"", ""}, {"glowworm", "glowworm"}, {"\x01\xff\x20", "\x01\xff\x20"},
		{"\xc0\xc1\x7d", "\x7d\xe0\x7d\xe1\x7d\x5d"},
		{"\x7d\x7d", "\x7d\x5d\x7d\x5d"}, {"\x7d\xc0", "\x7d\x5d\x7d\xe0"},
		{"\x7d\x5d", "\x7d\x5d\x5d"}, {"\x7d\xe0\xe1", "\x7d\x5d\xe0\xe1"},
		{"a\xc0b\xc1c\x7dd", "a\x7d\xe0b\x7d\xe1c\x7d\x5dd"},
	} {
		if got := Escape([]byte(w.b)); string(got) != w.want {
			t.Errorf("P2.1: Escape(%x): %x, not %x", w.b, got, w.want)
		}
	}
}

func TestEscapeOfLists(t *testing.T) {
	for _, in := range inputs() {
		got := Escape(in)
		if !bytes.Equal(got, escaped(in)) {
			t.Fatalf("P2.1: Escape of %d bytes %.20x: %.40x", len(in), in, got)
		}
		if bytes.IndexByte(got, 0xc0) >= 0 || bytes.IndexByte(got, 0xc1) >= 0 {
			t.Fatalf("P2.1: Escape of %d bytes %.20x leaves a C0 or a C1", len(in), in)
		}
	}
}

func TestWrapByHand(t *testing.T) {
	for _, w := range []struct {
		b     string
		extra int
		want  string
	}{
		{"", 0, "\xc0\x00\x00\xc1"}, {"", 1, "\xff\xc0\x00\x00\xc1"},
		{"123456789", 0, "\xc0123456789\x6e\x90\xc1"},
		{"123456789", 2, "\xff\xff\xc0123456789\x6e\x90\xc1"},
		{"\x00", 0, "\xc0\x00\x78\xf0\xc1"}, {"\xff", 0, "\xc0\xff\x00\xff\xc1"},
	} {
		if got := Wrap([]byte(w.b), w.extra); string(got) != w.want {
			t.Errorf("P2.1: Wrap(%x, %d): %x, not %x", w.b, w.extra, got, w.want)
		}
	}
}

func TestWrapOfLists(t *testing.T) {
	for _, in := range inputs() {
		for _, extra := range []int{0, 1, 5, 10} {
			if got := Wrap(in, extra); !bytes.Equal(got, wrapped(in, extra)) {
				t.Fatalf("P2.1: Wrap of %d bytes %.20x, %d: %.40x", len(in), in, extra, got)
			}
		}
	}
}

func TestWrapTakesTheNearerExtra(t *testing.T) {
	for _, w := range []struct{ extra, want int }{
		{math.MinInt, 0}, {math.MinInt32, 0}, {-11, 0}, {-10, 0}, {-2, 0}, {-1, 0},
		{0, 0}, {1, 1}, {2, 2}, {3, 3}, {4, 4}, {5, 5}, {6, 6}, {7, 7}, {8, 8}, {9, 9}, {10, 10},
		{11, 10}, {12, 10}, {255, 10}, {256, 10}, {math.MaxInt32, 10}, {1 << 32, 10}, {1<<32 + 3, 10}, {math.MaxInt, 10},
	} {
		for _, in := range [][]byte{nil, {0xff}, []byte("glowworm")} {
			if got := Wrap(in, w.extra); !bytes.Equal(got, wrapped(in, w.want)) {
				t.Errorf("P2.1: Wrap(%x, %d): %x, not with %d extra", in, w.extra, got, w.want)
			}
		}
	}
}

func TestWrapEscapesTheSum(t *testing.T) {
	special := []byte{0xc0, 0xc1, 0x7d}
	for _, x := range special {
		for _, s := range []uint16{uint16(x), uint16(x) << 8, 0xff00 | uint16(x), uint16(x)<<8 | 0xff} {
			checkSum(t, s)
		}
		for _, y := range special {
			checkSum(t, uint16(y)<<8|uint16(x))
		}
	}
}

// checkSum holds Wrap of a list whose sum is s against the bytes that it must have.
func checkSum(t *testing.T, s uint16) {
	t.Helper()
	in := withSum(t, s)
	want := []byte{0xc0}
	want = append(want, escaped(in)...)
	want = append(want, escaped([]byte{byte(s), byte(s >> 8)})...)
	want = append(want, 0xc1)
	if got := Wrap(in, 0); !bytes.Equal(got, want) {
		t.Errorf("P2.1: Wrap(%x, 0), sum %04x: %x, not %x", in, s, got, want)
	}
}

func TestAbortByHand(t *testing.T) {
	for _, w := range []struct{ b, want string }{
		{"", "\xc0\x7d\xc1"}, {"123456789", "\xc0123456789\x7d\xc1"},
		{"\x7d", "\xc0\x7d\x5d\x7d\xc1"}, {"\xc1\xc0", "\xc0\x7d\xe1\x7d\xe0\x7d\xc1"},
		{"\xff\xff", "\xc0\xff\xff\x7d\xc1"},
	} {
		if got := Abort([]byte(w.b)); string(got) != w.want {
			t.Errorf("P2.1: Abort(%x): %x, not %x", w.b, got, w.want)
		}
	}
}

func TestAbortOfLists(t *testing.T) {
	for _, in := range inputs() {
		want := "\xc0" + string(escaped(in)) + "\x7d\xc1"
		if got := Abort(in); string(got) != want {
			t.Fatalf("P2.1: Abort of %d bytes %.20x: %.40x", len(in), in, got)
		}
	}
}

func TestNilIsEmpty(t *testing.T) {
	if len(Escape(nil)) != 0 || len(Escape([]byte{})) != 0 {
		t.Error("P0.4: Escape of no bytes has some")
	}
	if !bytes.Equal(Wrap(nil, 3), Wrap([]byte{}, 3)) || !bytes.Equal(Abort(nil), Abort([]byte{})) {
		t.Error("P0.4: nil is not the same as empty")
	}
}

// calls are all of the package's, of one list.
func calls() map[string]func([]byte) []byte {
	return map[string]func([]byte) []byte{
		"Wrap":        func(b []byte) []byte { return Wrap(b, 0) },
		"Wrap, extra": func(b []byte) []byte { return Wrap(b, 10) },
		"Escape":      Escape,
		"Abort":       Abort,
	}
}

func TestNothingHandedInIsChanged(t *testing.T) {
	for name, call := range calls() {
		for _, in := range inputs() {
			room := append(bytes.Clone(in), "\xc0\xc1\x7d spare room for a sum, an end and more"...)
			want := bytes.Clone(room)
			call(room[:len(in)])
			if !bytes.Equal(room, want) {
				t.Fatalf("P0.3: %s changes a list of %d bytes or its spare room", name, len(in))
			}
		}
	}
}

func TestAnswersAreNewMemory(t *testing.T) {
	for name, call := range calls() {
		for _, text := range []string{"", "glowworm", "\xc0glow\xc1worm\x7d"} {
			in := append(make([]byte, 0, 64), text...)
			one, two := call(in), call(in)
			want := string(two)
			for i := range one[:cap(one)] {
				one[:cap(one)][i] ^= 0xff
			}
			if string(in) != text || !bytes.Equal(in[len(in):64], make([]byte, 64-len(in))) {
				t.Errorf("P0.3: what %s answers shares memory with its argument %x", name, text)
			}
			if string(two) != want || string(call(in)) != want {
				t.Errorf("P0.3: two answers of %s share memory, of %x", name, text)
			}
			for i := range in[:64] {
				in[:64][i] = 'G'
			}
			if string(two) != want {
				t.Errorf("P0.3: %s keeps its argument %x", name, text)
			}
		}
	}
}

func TestSameArgumentsSameAnswers(t *testing.T) {
	for name, call := range calls() {
		first := string(call([]byte("\xc0glowworm")))
		Wrap(sample.Mixed(50, 1), 7)
		Escape(sample.Mixed(51, 2))
		Abort(sample.Mixed(52, 3))
		if string(call([]byte("\xc0glowworm"))) != first {
			t.Errorf("P0.5: %s hangs on what was asked ahead of it", name)
		}
	}
}
