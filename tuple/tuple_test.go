package tuple

import (
	"math"
	"slices"
	"strings"
	"testing"
	"unsafe"

	"glowworm/api"
	"glowworm/sample"
)

// second is Get in a second way: what is left is asked for again. It knows of no bound for all together.
func second(s string) ([]api.Tuple, bool) {
	if s == "" {
		return nil, true
	}
	if len(s) == 1 || s[1] > 40 || len(s)-2 < int(s[1]) {
		return nil, false
	}
	n := 2 + int(s[1])
	rest, ok := second(s[n:])
	if !ok {
		return nil, false
	}
	return append([]api.Tuple{{Id: int(s[0]), Value: s[2:n]}}, rest...), true
}

// checkPair holds Put of ts and Get of s against each other: each is the other's.
func checkPair(t *testing.T, ts []api.Tuple, s string) {
	t.Helper()
	if got, ok := Put(ts...); !ok || got != s {
		t.Errorf("P7.1: Put(%v): %q, %t, not %q", ts, got, ok, s)
	}
	if got, ok := Get(s); !ok || !slices.Equal(got, ts) {
		t.Errorf("P7.1: Get(%q): %v, %t, not %v", s, got, ok, ts)
	}
}

func checkNotPut(t *testing.T, ts ...api.Tuple) {
	t.Helper()
	if s, ok := Put(ts...); ok || s != "" {
		t.Errorf("P7.1: Put(%.100v): %q, %t", ts, s, ok)
	}
}

func checkNotGot(t *testing.T, s string) {
	t.Helper()
	if ts, ok := Get(s); ok || ts != nil {
		t.Errorf("P7.1: Get(%.100q): %v, %t", s, ts, ok)
	}
}

// filled is a parameter of n bytes in all.
func filled(id, n int) api.Tuple { return api.Tuple{Id: id, Value: strings.Repeat("v", n-2)} }

func TestByHand(t *testing.T) {
	long := strings.Repeat("w", 40)
	for _, w := range []struct {
		ts []api.Tuple
		s  string
	}{
		{nil, ""},
		{[]api.Tuple{{}}, "\x00\x00"},
		{[]api.Tuple{{Id: 255}}, "\xff\x00"},
		{[]api.Tuple{{Id: 1, Value: "a"}}, "\x01\x01a"},
		{[]api.Tuple{{Id: 1, Value: "\x00\xff\xc0"}}, "\x01\x03\x00\xff\xc0"},
		{[]api.Tuple{{Id: 2, Value: "\x02\x02"}, {Id: 2}}, "\x02\x02\x02\x02\x02\x00"},
		{[]api.Tuple{{Id: 9, Value: "b"}, {Id: 9, Value: "a"}, {Id: 8, Value: "b"}}, "\x09\x01b\x09\x01a\x08\x01b"},
		{[]api.Tuple{{Id: 128, Value: long}}, "\x80\x28" + long},
		{[]api.Tuple{{Id: 0, Value: long}, {Id: 1, Value: long[:20]}}, "\x00\x28" + long + "\x01\x14" + long[:20]},
		{[]api.Tuple{{Id: 1, Value: long[:20]}, {Id: 0, Value: long}}, "\x01\x14" + long[:20] + "\x00\x28" + long},
		{slices.Repeat([]api.Tuple{{Id: 7}}, 32), strings.Repeat("\x07\x00", 32)},
	} {
		checkPair(t, w.ts, w.s)
	}
}

func TestEveryIdAndLength(t *testing.T) {
	text := string(sample.Mixed(40, 7))
	for id := range 256 {
		for n := range 41 {
			checkPair(t, []api.Tuple{{Id: id, Value: text[:n]}}, string([]byte{byte(id), byte(n)})+text[:n])
		}
	}
}

func TestPutOfOneThatMayNotBe(t *testing.T) {
	fine := api.Tuple{Id: 3, Value: "x"}
	var wrong []api.Tuple
	for _, id := range []int{-1, -255, -256, 256, 257, 259, 511, 512, 1 << 16, 1<<32 + 3, math.MaxInt, math.MinInt} {
		wrong = append(wrong, api.Tuple{Id: id}, api.Tuple{Id: id, Value: "x"})
	}
	for _, n := range []int{41, 42, 61, 62, 63, 64, 255, 256, 257, 300, 1 << 16, 1 << 20} {
		wrong = append(wrong, api.Tuple{Id: 3, Value: strings.Repeat("x", n)})
	}
	for _, w := range wrong {
		checkNotPut(t, w)
		checkNotPut(t, w, fine)
		checkNotPut(t, fine, w)
		checkNotPut(t, fine, w, fine)
	}
}

func TestPutOfManyBytes(t *testing.T) {
	for a := 2; a <= 42; a++ {
		for b := 2; b <= 42; b++ {
			for _, c := range []int{2, 3, 10, 42} {
				ts := []api.Tuple{filled(1, a), filled(2, b), filled(3, c)}
				s, ok := Put(ts...)
				if ok != (a+b+c <= 64) || ok && len(s) != a+b+c || !ok && s != "" {
					t.Errorf("P7.1: Put of %d, %d and %d bytes: %d bytes, %t", a, b, c, len(s), ok)
				}
			}
		}
	}
	for _, n := range []int{33, 34, 128, 160, 1 << 20} {
		checkNotPut(t, make([]api.Tuple, n)...)
	}
}

func TestGetOfEveryShortText(t *testing.T) {
	for s := range sample.Each("\x00\x01\x02\x03\x28\x29\xff", 6) {
		ts, is := second(s)
		if !is {
			checkNotGot(t, s)
			continue
		}
		checkPair(t, ts, s)
	}
}

func TestGetOfMixedText(t *testing.T) {
	found := 0
	for seed := range uint32(20000) {
		// Small bytes, so that lengths often fit.
		b := sample.Mixed(int(seed%68), seed)
		for i := range b {
			b[i] %= 6
		}
		s := string(b)
		ts, is := second(s)
		if !is || len(s) > 64 {
			checkNotGot(t, s)
			continue
		}
		found++
		checkPair(t, ts, s)
	}
	if found < 1000 {
		t.Errorf("only %d texts were just of such", found)
	}
}

func TestGetOfALengthByte(t *testing.T) {
	text := strings.Repeat("v", 70)
	for n := range 256 {
		for rest := range 63 {
			s := string([]byte{5, byte(n)}) + text[:rest]
			if n == rest && n <= 40 {
				checkPair(t, []api.Tuple{{Id: 5, Value: text[:n]}}, s)
			} else if n > 40 || n > rest {
				checkNotGot(t, s)
			}
		}
	}
}

func TestGetOfLongText(t *testing.T) {
	for _, n := range []int{33, 34, 64, 128, 1 << 20} {
		checkNotGot(t, strings.Repeat("\x01\x00", n))
	}
	checkNotGot(t, strings.Repeat("\x01\x01a", 21)+"\x01\x00")
	checkNotGot(t, strings.Repeat("\x01\x01a", 21)+"\x01")
	checkPair(t, append(slices.Repeat([]api.Tuple{{Id: 1, Value: "a"}}, 20), api.Tuple{Id: 2, Value: "ab"}), strings.Repeat("\x01\x01a", 20)+"\x02\x02ab")
	long := "\x00\x28" + strings.Repeat("w", 40)
	checkNotGot(t, long+"\x01\x15"+strings.Repeat("w", 21))
	checkNotGot(t, long+long)
}

func TestFind(t *testing.T) {
	ts := []api.Tuple{{Id: 1, Value: "a"}, {Id: 2}, {Id: 2, Value: "b"}, {Id: 0, Value: "c"}, {Id: 255, Value: "d"}, {Id: 1, Value: "e"}}
	for _, w := range []struct {
		id int
		v  string
		is bool
	}{{1, "a", true}, {2, "", true}, {0, "c", true}, {255, "d", true}, {3, "", false}, {254, "", false}, {-1, "", false}, {256, "", false}, {257, "", false}, {1 << 32, "", false}, {1<<32 + 1, "", false}, {math.MaxInt, "", false}, {math.MinInt, "", false}} {
		if v, is := Find(ts, w.id); v != w.v || is != w.is {
			t.Errorf("P7.1: Find(%d): %q, %t", w.id, v, is)
		}
	}
	for _, none := range [][]api.Tuple{nil, {}} {
		if v, is := Find(none, 0); v != "" || is {
			t.Errorf("P0.4: Find in an empty list: %q, %t", v, is)
		}
	}
}

func TestFindOfOneThatMayNotBe(t *testing.T) {
	long := strings.Repeat("w", 100)
	for _, id := range []int{-1, 256, math.MaxInt, math.MinInt, 7} {
		if v, is := Find([]api.Tuple{{Id: 3}, {Id: id, Value: long}}, id); v != long || !is {
			t.Errorf("P7.1: Find(%d): %q, %t", id, v, is)
		}
	}
}

func TestNothingIsChangedOrShared(t *testing.T) {
	ts := []api.Tuple{{Id: 1, Value: "abc"}, {Id: 2, Value: "de"}, {Id: 300}}
	kept := slices.Clone(ts)
	s, _ := Put(ts[:2]...)
	Put(ts...)
	v, _ := Find(ts, 1)
	if !slices.Equal(ts, kept) {
		t.Errorf("P0.3: %v", ts)
	}
	if unsafe.StringData(v) == unsafe.StringData(ts[0].Value) {
		t.Error("P0.3: Find's Value is the argument's memory")
	}
	a, _ := Get(s)
	b, _ := Get(s)
	for i := range a {
		from := uintptr(unsafe.Pointer(unsafe.StringData(s)))
		at := uintptr(unsafe.Pointer(unsafe.StringData(a[i].Value)))
		if from <= at && at < from+uintptr(len(s)) {
			t.Errorf("P0.3: Value %d of Get is the argument's memory", i)
		}
	}
	a[0] = api.Tuple{}
	a = append(a, api.Tuple{Id: 9})
	a[1] = api.Tuple{}
	if !slices.Equal(b, kept[:2]) {
		t.Errorf("P0.3: two answers share memory: %v", b)
	}
	if again, ok := Get(s); !ok || !slices.Equal(again, kept[:2]) {
		t.Errorf("P0.5: Get again: %v", again)
	}
}

func TestNothingIsEmpty(t *testing.T) {
	for _, none := range [][]api.Tuple{nil, {}} {
		if s, ok := Put(none...); s != "" || !ok {
			t.Errorf("P0.4: Put of none: %q, %t", s, ok)
		}
	}
	if ts, ok := Get(""); len(ts) != 0 || !ok {
		t.Errorf("P7.1: Get of nothing: %v, %t", ts, ok)
	}
}
