package ident

import (
	"bytes"
	"testing"

	"glowworm/sample"
)

func TestMay(t *testing.T) {
	for n, want := range map[uint32]bool{
		0: false, 1: true, 2: true, 0xFF: true, 0xFF00: true, 0x7FFFFFFF: true, 0x80000000: true,
		0xFFFF: true, 0xFFFFFF00: true, 0xFFFFFFFE: true, 0xFFFFFFFF: false,
	} {
		if May(n) != want {
			t.Errorf("May(%x): %t", n, !want)
		}
	}
}

func TestBytesByHand(t *testing.T) {
	for n, s := range map[uint32]string{
		0: "\x00\x00\x00\x00", 1: "\x01\x00\x00\x00", 0x01020304: "\x04\x03\x02\x01", 0x80000000: "\x00\x00\x00\x80",
		0xFFFEFDFC: "\xfc\xfd\xfe\xff", 0xFFFFFFFF: "\xff\xff\xff\xff",
	} {
		if b := Add(nil, n); string(b) != s {
			t.Errorf("Add(nil, %x): %x", n, b)
		}
		if got := Leading(s); got != n {
			t.Errorf("Leading(%x): %x", s, got)
		}
		if got := Leading(s + "\x01more"); got != n {
			t.Errorf("Leading of more than %x: %x", s, got)
		}
	}
}

func TestLeadingOfShortTexts(t *testing.T) {
	for s := range sample.Each("\x00\x01\x80\xff", Bytes) {
		whole := s + "\x00\x00\x00\x00"
		if got, want := Leading(s), Leading(whole[:Bytes]); got != want {
			t.Errorf("Leading(%x): %x, not %x", s, got, want)
		}
	}
}

func TestAddIsBehind(t *testing.T) {
	b := Add(Add([]byte("ab"), 0x64636261), 0x68676665)
	if !bytes.Equal(b, []byte("ababcdefgh")) {
		t.Errorf("Add: %q", b)
	}
}
