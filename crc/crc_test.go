package crc

import (
	"bytes"
	"math/bits"
	"testing"

	"glowworm/sample"
)

// addHigh adds b the other way round, the highest bit first, by the polynomial 1021: a second way to the same sums.
func addHigh(c uint16, b byte) uint16 {
	r := bits.Reverse16(c) ^ uint16(bits.Reverse8(b))<<8
	for range 8 {
		high := r >> 15
		r = r<<1 ^ high*0x1021
	}
	return bits.Reverse16(r)
}

// inputs are nil and empty lists, short ones, ordinary ones, and one longer than 16 bits count.
func inputs() [][]byte {
	ins := [][]byte{nil, {}, []byte("123456789"), []byte("glowworm"), bytes.Repeat([]byte{0}, 40), bytes.Repeat([]byte{0xff}, 40), sample.Mixed(70000, 7)}
	for x := range 256 {
		ins = append(ins, []byte{byte(x)}, []byte{byte(x), byte(255 - x)})
	}
	for n := range 90 {
		ins = append(ins, sample.Mixed(n, uint32(n)))
	}
	return ins
}

func TestAddOfEachSumAndByte(t *testing.T) {
	for c := range 1 << 16 {
		for _, b := range []byte{0, 1, 2, 0x7d, 0x7f, 0x80, 0xc0, 0xc1, 0xfe, 0xff} {
			if got, want := Add(uint16(c), b), addHigh(uint16(c), b); got != want {
				t.Fatalf("P1.1: Add(%04x, %02x): %04x, not %04x", c, b, got, want)
			}
		}
	}
	for b := range 256 {
		for _, c := range []uint16{0, 1, 0x00ff, 0x0f87, 0x8000, 0x8408, 0xff00, 0xffff} {
			if got, want := Add(c, byte(b)), addHigh(c, byte(b)); got != want {
				t.Fatalf("P1.1: Add(%04x, %02x): %04x, not %04x", c, b, got, want)
			}
		}
	}
}

func TestAddByHand(t *testing.T) {
	for _, w := range []struct {
		c    uint16
		b    byte
		want uint16
	}{
		{0, 0, 0}, {0, 0x80, 0x8408}, {0x80, 0, 0x8408}, {0x80, 0x80, 0}, {0x0100, 0, 1},
		{0, 1, 0x1189}, {0xffff, 0, 0x0f87}, {0xffff, 0xff, 0x00ff},
	} {
		if got := Add(w.c, w.b); got != w.want {
			t.Errorf("P1.1: Add(%04x, %02x): %04x, not %04x", w.c, w.b, got, w.want)
		}
	}
}

func TestOfKnownSums(t *testing.T) {
	for _, w := range []struct {
		b    string
		want uint16
	}{
		{"", 0}, {"123456789", 0x906e}, {"\x00", 0xf078}, {"\xff", 0xff00},
	} {
		if got := Of([]byte(w.b)); got != w.want {
			t.Errorf("P1.1: Of(%q): %04x, not %04x", w.b, got, w.want)
		}
	}
	if Of(nil) != 0 {
		t.Errorf("P0.4: Of(nil): %04x, not 0", Of(nil))
	}
}

func TestOfAddsEachByte(t *testing.T) {
	for _, in := range inputs() {
		c := uint16(0xffff)
		for _, x := range in {
			c = addHigh(c, x)
		}
		if got := Of(in); got != c^0xffff {
			t.Fatalf("P1.1: Of %d bytes %.20x: %04x, not %04x", len(in), in, got, c^0xffff)
		}
	}
}

func TestPutLaysTheSumBehind(t *testing.T) {
	for _, in := range inputs() {
		got, s := Put(in), Of(in)
		if len(got) != len(in)+2 || !bytes.Equal(got[:len(in)], in) || got[len(in)] != byte(s&0xff) || got[len(in)+1] != byte(s>>8) {
			t.Fatalf("P1.1: Put of %d bytes %.20x: %d bytes", len(in), in, len(got))
		}
		if !Fine(got) {
			t.Fatalf("P1.1: Put of %d bytes %.20x is not Fine", len(in), in)
		}
	}
	if got := Put([]byte("123456789")); string(got) != "123456789\x6e\x90" {
		t.Errorf("P1.1: Put: %x", got)
	}
}

func TestFineOfLessThanASum(t *testing.T) {
	if Fine(nil) || Fine([]byte{}) {
		t.Error("P1.1: no bytes are Fine")
	}
	for x := range 256 {
		if Fine([]byte{byte(x)}) {
			t.Errorf("P1.1: one byte %02x is Fine", x)
		}
	}
}

func TestFineOfJustOneSum(t *testing.T) {
	for _, in := range [][]byte{nil, {0}, {0xff}, []byte("glowworm")} {
		b, s := Put(in), Of(in)
		for v := range 1 << 16 {
			b[len(in)], b[len(in)+1] = byte(v), byte(v>>8)
			if got, want := Fine(b), uint16(v) == s; got != want {
				t.Fatalf("P1.1: Fine(%x): %t", b, got)
			}
		}
	}
}

func TestFineFindsTurnedBits(t *testing.T) {
	b := Put(sample.Mixed(30, 3))
	for i := range b {
		for bit := range 8 {
			c := bytes.Clone(b)
			c[i] ^= 1 << bit
			if Fine(c) {
				t.Errorf("P1.1: Fine with bit %d of byte %d turned", bit, i)
			}
		}
	}
	if Fine(b[:len(b)-1]) || Fine(b[1:]) || Fine(append(bytes.Clone(b), 0)) {
		t.Error("P1.1: Fine of a byte less or more")
	}
}

func TestNothingHandedInIsChanged(t *testing.T) {
	for _, in := range inputs() {
		room := append(bytes.Clone(in), "spare room"...)
		want := bytes.Clone(room)
		b := room[:len(in)]
		Of(b)
		Put(b)
		Fine(b)
		if !bytes.Equal(room, want) {
			t.Fatalf("P0.3: a list of %d bytes or its spare room is changed", len(in))
		}
	}
}

func TestPutAnswersNewMemory(t *testing.T) {
	in := append(make([]byte, 0, 32), "glowworm"...)
	one, two := Put(in), Put(in)
	for i := range one[:cap(one)] {
		one[:cap(one)][i] ^= 0xff
	}
	if string(in) != "glowworm" || !bytes.Equal(in[8:32], make([]byte, 24)) {
		t.Error("P0.3: what Put answers shares memory with its argument")
	}
	if !bytes.Equal(two, Put(in)) || !Fine(two) {
		t.Error("P0.3: two answers of Put share memory")
	}
	in[0] = 'G'
	if string(two[:8]) != "glowworm" {
		t.Error("P0.3: Put keeps its argument")
	}
}

func TestSameArgumentsSameAnswers(t *testing.T) {
	first := Of([]byte("glowworm"))
	Of(sample.Mixed(50, 1))
	Put(sample.Mixed(51, 2))
	Fine(sample.Mixed(52, 3))
	if Of([]byte("glowworm")) != first {
		t.Error("P0.5: Of hangs on what was asked ahead of it")
	}
}
