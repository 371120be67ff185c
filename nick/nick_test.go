package nick

import (
	"math"
	"strings"
	"testing"
	"unicode/utf8"
	"unsafe"

	"glowworm/sample"
)

// stretches is the chapter's kinds, in order, up to the last rune of each.
var stretches = []struct {
	last rune
	kind int
}{
	{0x1f, 0}, {0x2f, 3}, {0x39, 2}, {0x40, 3}, {0x5a, 1}, {0x60, 3}, {0x7a, 1}, {0x7e, 3}, {0x9f, 0},
	{0xd7ff, 4}, {0xdfff, 0}, {0xfffc, 4}, {0xfffd, 0}, {0x10ffff, 4}, {math.MaxInt32, 0},
}

// kindOf is Kind by a second way.
func kindOf(r rune) int {
	for _, x := range stretches {
		if r <= x.last {
			return x.kind
		}
	}
	panic("behind the last stretch")
}

func TestKindOfEachRune(t *testing.T) {
	for r := rune(-0x1000); r < 0x120000; r++ {
		if got := Kind(r); got != kindOf(r) {
			t.Fatalf("P4.1: Kind(%x): %d, not %d", r, got, kindOf(r))
		}
	}
}

func TestKindFarOutside(t *testing.T) {
	// Each of the last ones would be another rune if it were cut to fewer bits.
	for _, r := range []rune{math.MinInt32, math.MinInt32 + 'a', math.MinInt32 + 0xa0, math.MaxInt32, -'a', -0xa0, 0x110000, 0x110000 + 'a', 0x200000 + 'a', 0x1000000 + '7', 0x40000000 + 0xe4, 1<<30 + '!'} {
		if got := Kind(r); got != 0 {
			t.Errorf("P4.1: Kind(%x): %d", r, got)
		}
	}
}

// pieces is s rune by rune; a piece of one byte from 80 on is broken.
func pieces(s string) []string {
	var all []string
	for s != "" {
		_, n := utf8.DecodeRuneInString(s)
		all = append(all, s[:n])
		s = s[n:]
	}
	return all
}

func isBroken(piece string) bool { return len(piece) == 1 && piece[0] >= 0x80 }

func may(s string) bool {
	for _, p := range pieces(s) {
		if isBroken(p) || kindOf([]rune(p)[0]) == 0 {
			return false
		}
	}
	return len(s) <= 20
}

func cut(s string, most int) string {
	r := ""
	for _, p := range pieces(s) {
		if isBroken(p) || len(r)+len(p) > most {
			break
		}
		r += p
	}
	return r
}

func plain(s string) string {
	r := ""
	for _, p := range pieces(s) {
		if len(p) == 1 && ' ' <= p[0] && p[0] <= '~' {
			r += p
		} else {
			r += "?"
		}
	}
	return r
}

// check holds all that is said of s against the second ways.
func check(t *testing.T, s string) {
	t.Helper()
	if got := May(s); got != may(s) {
		t.Fatalf("P4.1: May(%q): %t", s, got)
	}
	if got := Len(s); got != len(pieces(s)) {
		t.Fatalf("P4.1: Len(%q): %d, not %d", s, got, len(pieces(s)))
	}
	if got := Plain(s); got != plain(s) {
		t.Fatalf("P4.1: Plain(%q): %q, not %q", s, got, plain(s))
	}
	for most := -1; most <= len(s)+1; most++ {
		if got := Cut(s, most); got != cut(s, most) {
			t.Fatalf("P4.1: Cut(%q, %d): %q, not %q", s, most, got, cut(s, most))
		}
	}
}

func TestByHand(t *testing.T) {
	for _, w := range []struct {
		s     string
		may   bool
		n     int
		cut   string // at most 5 bytes
		plain string
	}{
		{"", true, 0, "", ""},
		{" ", true, 1, " ", " "},
		{"glow", true, 4, "glow", "glow"},
		{"glowworm", true, 8, "gloww", "glowworm"},
		{"Az09 ~!@", true, 8, "Az09 ", "Az09 ~!@"},
		{"\x00", false, 1, "\x00", "?"},
		{"a\tb", false, 3, "a\tb", "a?b"},
		{"a\x1fb", false, 3, "a\x1fb", "a?b"},
		{"a\x7fb", false, 3, "a\x7fb", "a?b"},
		{"a\u0080b", false, 3, "a\u0080b", "a?b"},
		{"a\u009fb", false, 3, "a\u009fb", "a?b"},
		{"a\u00a0b", true, 3, "a\u00a0b", "a?b"},
		{"\u00e4\u00f6\u00fc", true, 3, "\u00e4\u00f6", "???"},
		{"\u00e4\u20ac\u00fc", true, 3, "\u00e4\u20ac", "???"},
		{"\u20ac\u20ac", true, 2, "\u20ac", "??"},
		{"glo\u20ac", true, 4, "glo", "glo?"},
		{"gl\u20ac", true, 3, "gl\u20ac", "gl?"},
		{"glow\u20acx", true, 6, "glow", "glow?x"},
		{"\U0001f41bx", true, 2, "\U0001f41bx", "?x"},
		{"xx\U0001f41b", true, 3, "xx", "xx?"},
		{"\U0010ffff", true, 1, "\U0010ffff", "?"},
		{"e\u0301", true, 2, "e\u0301", "e?"},
		{"\ufeffg", true, 2, "\ufeffg", "?g"},
		{"\ud7ff\ue000", true, 2, "\ud7ff", "??"},
		{"\ufffc", true, 1, "\ufffc", "?"},
		{"\ufffd", false, 1, "\ufffd", "?"},
		{"\ufffe", true, 1, "\ufffe", "?"},
		{"a\ufffdb", false, 3, "a\ufffdb", "a?b"},
		{"\ufffd\xff", false, 2, "\ufffd", "??"},
		{"\xff\ufffd", false, 2, "", "??"},
		{"a\xffb", false, 3, "a", "a?b"},
		{"\x80", false, 1, "", "?"},
		{"ab\xe2\x82", false, 4, "ab", "ab??"},
		{"ab\xe2\x82c", false, 5, "ab", "ab??c"},
		{"\xf0\x9f\x90", false, 3, "", "???"},
		{"\xc0\xaf", false, 2, "", "??"},
		{"\xe0\x80\xaf", false, 3, "", "???"},
		{"\xed\xa0\x80", false, 3, "", "???"},
		{"\xed\xbf\xbf", false, 3, "", "???"},
		{"\xf4\x90\x80\x80", false, 4, "", "????"},
		{"\xef\xbf", false, 2, "", "??"},
		{"\xef\xbf\xbd\xbd", false, 2, "\ufffd", "??"},
	} {
		if May(w.s) != w.may || Len(w.s) != w.n || Cut(w.s, 5) != w.cut || Plain(w.s) != w.plain {
			t.Errorf("P4.1: %q: %t, %d, %q, %q", w.s, May(w.s), Len(w.s), Cut(w.s, 5), Plain(w.s))
		}
		check(t, w.s)
	}
}

func TestMayOfEachRune(t *testing.T) {
	for r := range rune(0x110000) {
		s := "g" + string(r) + "w"
		// A surrogate has no bytes of its own: Go writes FFFD for it.
		want := kindOf(r) > 0
		if May(s) != want || Len(s) != 3 {
			t.Fatalf("P4.1: May(%q): %t, Len: %d", s, May(s), Len(s))
		}
		n := len(s) - 1
		if Cut(s, n) != s[:n] || Cut(s, n-1) != "g" || Cut(s, n+1) != s {
			t.Fatalf("P4.1: Cut(%q, %d): %q, one less: %q", s, n, Cut(s, n), Cut(s, n-1))
		}
		middle := "?"
		if k := kindOf(r); k >= 1 && k <= 3 {
			middle = string(r)
		}
		if Plain(s) != "g"+middle+"w" {
			t.Fatalf("P4.1: Plain(%q): %q", s, Plain(s))
		}
	}
}

func TestMayCountsBytes(t *testing.T) {
	for _, w := range []struct {
		rune string
		fits int
	}{
		{"g", 20}, {" ", 20}, {"\u00e4", 10}, {"\u20ac", 6}, {"\U0001f41b", 5},
	} {
		for n := range 30 {
			if s := strings.Repeat(w.rune, n); May(s) != (n <= w.fits) {
				t.Errorf("P4.1: May(%q): %t", s, May(s))
			}
		}
	}
	if !May("gg"+strings.Repeat("\u20ac", 6)) || May("ggg"+strings.Repeat("\u20ac", 6)) {
		t.Error("P4.1: May does not count 20 bytes of mixed runes")
	}
}

func TestAllShortTexts(t *testing.T) {
	// Of these bytes there are runes of each length, surrogates, overlong ones, FFFD, and those cut off.
	for s := range sample.Each("a\n\x7f\x80\x90\x9f\xa0\xbd\xbf\xc0\xc2\xe0\xe2\xed\xef\xf0\xf4\xff", 4) {
		check(t, s)
		if len(s) < 4 {
			check(t, "g"+s+"w")
		}
	}
}

func TestMixedTexts(t *testing.T) {
	words := []string{"g", "7", "~", "\n", "\u00e4", "\u0085", "\u20ac", "\ufffd", "\U0001f41b", "\xff", "\xe2\x82", "\xed\xa0\x80", "\x80", "q", "\u00a0"}
	for seed := range uint32(3000) {
		s := ""
		for _, x := range sample.Mixed(int(seed%12), seed) {
			s += words[int(x)%len(words)]
		}
		check(t, s)
		check(t, string(sample.Mixed(int(seed%30), seed)))
	}
}

func TestCutAtFarBounds(t *testing.T) {
	for _, s := range []string{"", "g", "\u20ac", "glow\u20acworm", "\xff", "\ufffd"} {
		for _, most := range []int{math.MinInt, math.MinInt + 1, math.MinInt32, -100, -1, 0} {
			if got := Cut(s, most); got != "" {
				t.Errorf("P4.1: Cut(%q, %d): %q", s, most, got)
			}
		}
		for _, most := range []int{100, math.MaxInt32, 1 << 32, math.MaxInt - 1, math.MaxInt} {
			if got := Cut(s, most); got != cut(s, 100) {
				t.Errorf("P4.1: Cut(%q, %d): %q", s, most, got)
			}
		}
	}
}

func TestLongTexts(t *testing.T) {
	const n = 3 << 18
	g, euro := strings.Repeat("g", n), strings.Repeat("\u20ac", n)
	for _, w := range []struct {
		s          string
		runes      int
		whole, cut string // what Cut leaves at no bound, and at n bytes
		plain      string
	}{
		{g, n, g, g, g},
		{euro, n, euro, euro[:n], strings.Repeat("?", n)},
		{strings.Repeat("\xff", n), n, "", "", strings.Repeat("?", n)},
		{g + "\xffw", n + 2, g, g, g + "?w"},
	} {
		if May(w.s) || Len(w.s) != w.runes || Plain(w.s) != w.plain {
			t.Errorf("P0.1: May, Len or Plain of %.10q .. of %d bytes", w.s, len(w.s))
		}
		if Cut(w.s, math.MaxInt) != w.whole || Cut(w.s, n) != w.cut {
			t.Errorf("P0.1: Cut of %.10q .. of %d bytes", w.s, len(w.s))
		}
	}
}

func TestAnswersAreNewMemory(t *testing.T) {
	for _, s := range []string{"g", "glowworm", "\u00e4\u20ac", "glow\xff", strings.Repeat("glow", 30)} {
		for _, got := range []string{Cut(s, 1), Cut(s, 5), Cut(s, 1000), Plain(s)} {
			if got != "" && unsafe.StringData(got) == unsafe.StringData(s) {
				t.Errorf("P0.3: an answer, %.10q, shares memory with %.10q", got, s)
			}
		}
	}
}

func TestTheSameAgain(t *testing.T) {
	for _, s := range []string{"", "glow\u20ac", "a\xffb"} {
		may, n, first, plain := May(s), Len(s), Cut(s, 5), Plain(s)
		May("\n")
		Cut("worm", 2)
		Plain("\xff")
		if May(s) != may || Len(s) != n || Cut(s, 5) != first || Plain(s) != plain {
			t.Errorf("P0.5: %q is answered otherwise the second time", s)
		}
	}
}
