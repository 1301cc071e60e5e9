package sums_test

import (
	"math"
	"math/rand"
	"slices"
	"strings"
	"testing"

	"foghorn/api"
	"foghorn/bits"
	"foghorn/sums"
)

func row(s string) []bool {
	l := make([]bool, len(s))
	for i := range s {
		l[i] = s[i] == '1'
	}
	return l
}

func some(r *rand.Rand, n int) []bool {
	l := make([]bool, n)
	for i := range l {
		l[i] = r.Intn(2) == 1
	}
	return l
}

// slow is what is left of bits times x^width, divided by the polynomial with its highest term, bit by bit.
func slow(l []bool, width int, poly uint64) uint64 {
	var rest uint64
	for _, bit := range append(slices.Clone(l), make([]bool, width)...) {
		rest <<= 1
		if bit {
			rest |= 1
		}
		if rest>>width != 0 {
			rest ^= poly | 1<<width
		}
	}
	return rest
}

func TestP24_1Sums(t *testing.T) {
	for s, want := range map[string]uint16{"": 0, "1": 0x1021, "10": 0x2042, "0001": 0x1021} {
		if n, e := sums.Sum16(row(s)); n != want || e != api.OK {
			t.Error("Sum16:", s, n, e)
		}
	}
	if n, e := sums.Sum32(row("1")); n != 0x04C11DB7 || e != api.OK {
		t.Error("Sum32:", n, e)
	}
	if sums.Bytes16("123456789") != 0x31C3 || sums.Bytes32("123456789") != 0x89A1897F || sums.Bytes32("") != 0 || sums.Bytes16("") != 0 {
		t.Error("sums of bytes")
	}
	r := rand.New(rand.NewSource(1))
	for range 200 {
		l := some(r, r.Intn(80))
		a, _ := sums.Sum16(l)
		b, _ := sums.Sum32(l)
		if uint64(a) != slow(l, 16, 0x1021) || uint64(b) != slow(l, 32, 0x04C11DB7) {
			t.Fatal("sums:", l)
		}
		text := make([]byte, r.Intn(9))
		r.Read(text)
		l, _ = bits.Of(string(text))
		a, _ = sums.Sum16(l)
		b, _ = sums.Sum32(l)
		if sums.Bytes16(string(text)) != a || sums.Bytes32(string(text)) != b {
			t.Fatal("sums of bytes:", text)
		}
	}
	if long := strings.Repeat("\x00", api.MaxBits) + "\x01"; sums.Bytes16(long) != 0x1021 || sums.Bytes32(long) != 0x04C11DB7 {
		t.Error("sums of many bytes")
	}
	long := make([]bool, api.MaxBits+1)
	if n, e := sums.Sum16(long); n != 0 || e != api.ErrArg {
		t.Error("Sum16 of too many:", e)
	}
	if n, e := sums.Sum32(long); n != 0 || e != api.ErrArg {
		t.Error("Sum32 of too many:", e)
	}
	if n, e := sums.On16(1, long); n != 0 || e != api.ErrArg {
		t.Error("On16 with too many:", e)
	}
	if n, e := sums.On32(1, long); n != 0 || e != api.ErrArg {
		t.Error("On32 with too many:", e)
	}
}

func TestP24_1Rows(t *testing.T) {
	if l, e := sums.Row16(row("1")); bits.Text(l) != "10001000000100001" || e != api.OK {
		t.Error("Row16:", bits.Text(l), e)
	}
	if l, e := sums.Row32(nil); bits.Text(l) != strings.Repeat("0", 32) || e != api.OK {
		t.Error("Row32 of none:", l, e)
	}
	for _, c := range []struct {
		n    int
		l, m bool
	}{{0, false, false}, {15, false, false}, {16, true, false}, {31, true, false}, {32, true, true}, {api.MaxBits, true, true}, {api.MaxBits + 1, false, false}} {
		if l := make([]bool, c.n); sums.Fits16(l) != c.l || sums.Fits32(l) != c.m {
			t.Error("Fits:", c)
		}
	}
	for width, f := range map[int]func([]bool) ([]bool, api.Errno){16: sums.Row16, 32: sums.Row32} {
		if l, e := f(make([]bool, api.MaxBits-width)); len(l) != api.MaxBits || e != api.OK {
			t.Error("the longest row:", width, e)
		}
		if l, e := f(make([]bool, api.MaxBits-width+1)); l != nil || e != api.ErrArg {
			t.Error("a row too long:", width, e)
		}
	}
	l := append(row("1"), true)[:1]
	sums.Row16(l)
	if !l[:2][1] {
		t.Error("Row16 wrote behind the row")
	}
}

func TestP24_2GoneOn(t *testing.T) {
	if n, e := sums.On16(0x1021, row("0")); n != 0x2042 || e != api.OK {
		t.Error("On16:", n, e)
	}
	one, _ := sums.Sum32(row("1"))
	ten, _ := sums.Sum32(row("10"))
	if n, e := sums.Joined32(one, 0, 1); n != ten || e != api.OK {
		t.Error("Joined32:", n, e)
	}
	for _, n := range []int{-1, api.MaxBits + 1, math.MinInt} {
		if s, e := sums.Joined32(1, 1, n); s != 0 || e != api.ErrArg {
			t.Error("Joined32:", n, s, e)
		}
	}
	r := rand.New(rand.NewSource(2))
	for range 200 {
		a, b := some(r, r.Intn(50)), some(r, r.Intn(50))
		x, _ := sums.Sum32(a)
		y, _ := sums.Sum32(b)
		all, _ := sums.Sum32(append(slices.Clone(a), b...))
		joined, _ := sums.Joined32(x, y, len(b))
		on, _ := sums.On32(x, b)
		if joined != all || on != all {
			t.Fatal("joined:", a, b)
		}
		z, _ := sums.Sum16(a)
		z, _ = sums.On16(z, b)
		if all, _ := sums.Sum16(append(slices.Clone(a), b...)); z != all {
			t.Fatal("gone on:", a, b)
		}
	}
}

func TestP24_3Bursts(t *testing.T) {
	for _, c := range []struct {
		a, b       string
		at, length int
		e          api.Errno
	}{{"0110", "0011", 1, 3, api.OK}, {"1", "1", 0, 0, api.ErrNone}, {"", "", 0, 0, api.ErrNone}, {"1", "0", 0, 1, api.OK}, {"1", "", 0, 0, api.ErrArg}, {"", "1", 0, 0, api.ErrArg}, {"100001", "000000", 0, 6, api.OK}} {
		if at, length, e := sums.Burst(row(c.a), row(c.b)); at != c.at || length != c.length || e != c.e {
			t.Error("Burst:", c, at, length, e)
		}
	}
	long := make([]bool, api.MaxBits+1)
	if at, length, e := sums.Burst(long, long); at != 0 || length != 0 || e != api.ErrArg {
		t.Error("Burst of too many:", e)
	}
	for _, s := range []string{"", "a", "\x00\x00", strings.Repeat("x", 9999)} {
		if back, ok := sums.Opened(sums.Sealed(s)); back != s || !ok || len(sums.Sealed(s)) != len(s)+4 {
			t.Error("Opened of Sealed:", len(s), ok)
		}
	}
	if s := sums.Sealed("123456789"); s != "123456789\x89\xa1\x89\x7f" {
		t.Errorf("Sealed: %x", s)
	}
	for _, s := range []string{"", "abc", "abcd", "a\x00\x00\x00\x00"} {
		if back, ok := sums.Opened(s); back != "" || ok {
			t.Error("Opened:", s, back, ok)
		}
	}
}

func TestP24_4To6Linear(t *testing.T) {
	r := rand.New(rand.NewSource(3))
	for range 500 {
		n := 1 + r.Intn(90)
		a, b := some(r, n), some(r, n)
		unlike, _ := bits.Xor(a, b)
		x, _ := sums.Sum16(a)
		y, _ := sums.Sum16(b)
		z, _ := sums.Sum16(unlike)
		late, _ := sums.Sum16(append(make([]bool, 7), a...))
		if x^y != z || late != x {
			t.Fatal("linear:", a, b)
		}
		for width, fits := range map[int]func([]bool) bool{16: sums.Fits16, 32: sums.Fits32} {
			l, _ := sums.Row16(a)
			if width == 32 {
				l, _ = sums.Row32(a)
			}
			if !fits(l) || !fits(append(make([]bool, 5), l...)) {
				t.Fatal("a row that does not fit:", a)
			}
			at := r.Intn(len(l))
			burst := slices.Clone(l)
			burst[at] = !burst[at]
			for i := at + 1; i < min(len(l), at+width); i++ {
				burst[i] = burst[i] != (r.Intn(2) == 1)
			}
			if fits(burst) {
				t.Fatal("a burst that fits:", a, at)
			}
		}
		at := r.Intn(n)
		b = slices.Clone(a)
		b[at] = !b[at]
		if y, _ := sums.Sum16(b); y == x {
			t.Fatal("unlike rows of one sum:", a, at)
		}
	}
}
