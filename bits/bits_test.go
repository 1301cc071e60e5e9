package bits_test

import (
	"math"
	"math/rand"
	"slices"
	"strings"
	"testing"

	"foghorn/api"
	"foghorn/bits"
)

func row(s string) []bool {
	l := make([]bool, len(s))
	for i := range s {
		l[i] = s[i] == '1'
	}
	return l
}

func some(r *rand.Rand, n int) []bool {
	l := make([]bool, n)
	for i := range l {
		l[i] = r.Intn(2) == 1
	}
	return l
}

func TestP1_1Bytes(t *testing.T) {
	l, e := bits.Of("A\x80")
	if e != api.OK || !slices.Equal(l, row("0100000110000000")) {
		t.Error("Of:", l, e)
	}
	if s, e := bits.Bytes(l); s != "A\x80" || e != api.OK {
		t.Error("Bytes:", s, e)
	}
	if l, e := bits.Of(strings.Repeat("x", 4096)); len(l) != api.MaxBits || e != api.OK {
		t.Error("the longest text:", len(l), e)
	}
	if l, e := bits.Of(strings.Repeat("x", 4097)); l != nil || e != api.ErrArg {
		t.Error("a text too long:", len(l), e)
	}
	for _, n := range []int{1, 7, 9, api.MaxBits + 8} {
		if s, e := bits.Bytes(make([]bool, n)); s != "" || e != api.ErrArg {
			t.Error("Bytes of", n, s, e)
		}
	}
	if s, e := bits.Bytes(nil); s != "" || e != api.OK {
		t.Error("Bytes of none:", s, e)
	}
}

func TestP1_1Words(t *testing.T) {
	if w, e := bits.Words(row("1011"), 2); e != api.OK || !slices.Equal(w, []int{2, 3}) {
		t.Error("Words:", w, e)
	}
	if w, e := bits.Words(row("1111111111111110"), 16); e != api.OK || !slices.Equal(w, []int{65534}) {
		t.Error("Words of 16:", w, e)
	}
	if l, e := bits.Row([]int{2, 3}, 2); e != api.OK || !slices.Equal(l, row("1011")) {
		t.Error("Row:", l, e)
	}
	if l, e := bits.Row([]int{65535}, 16); e != api.OK || len(l) != 16 {
		t.Error("Row of 16:", l, e)
	}
	for _, width := range []int{math.MinInt, -1, 0, 17, math.MaxInt} {
		if _, e := bits.Words(nil, width); e != api.ErrArg {
			t.Error("Words of the width", width, e)
		}
		if _, e := bits.Row(nil, width); e != api.ErrArg {
			t.Error("Row of the width", width, e)
		}
	}
	if _, e := bits.Words(row("101"), 2); e != api.ErrArg {
		t.Error("no whole words:", e)
	}
	if _, e := bits.Words(make([]bool, api.MaxBits+1), 1); e != api.ErrArg {
		t.Error("no row:", e)
	}
	for _, w := range [][]int{{4}, {-1}, {0, 4}} {
		if l, e := bits.Row(w, 2); l != nil || e != api.ErrArg {
			t.Error("Row of", w, l, e)
		}
	}
	if l, e := bits.Row(make([]int, 2048), 16); len(l) != api.MaxBits || e != api.OK {
		t.Error("the longest row:", len(l), e)
	}
	if _, e := bits.Row(make([]int, 2049), 16); e != api.ErrArg {
		t.Error("a row too long:", e)
	}
}

func TestP1_2And7Gray(t *testing.T) {
	for n, want := range []int{0, 1, 3, 2, 6, 7, 5, 4} {
		if g, e := bits.Gray(n); g != want || e != api.OK {
			t.Error("Gray", n, g, e)
		}
	}
	seen := make([]bool, 65536)
	before := -1
	for n := range 65536 {
		g, _ := bits.Gray(n)
		if seen[g] {
			t.Fatal("twice:", g)
		}
		seen[g] = true
		if n > 0 && weight(g^before) != 1 {
			t.Fatal("neighbours:", n)
		}
		if n&(n+1) == 0 && n > 0 && weight(g) != 1 {
			t.Fatal("0 and the greatest one:", n)
		}
		if back, e := bits.Ungray(g); back != n || e != api.OK {
			t.Fatal("Ungray:", g, back, e)
		}
		before = g
	}
	for _, n := range []int{-1, 65536, math.MinInt, math.MaxInt} {
		if g, e := bits.Gray(n); g != 0 || e != api.ErrArg {
			t.Error("Gray", n, g, e)
		}
		if g, e := bits.Ungray(n); g != 0 || e != api.ErrArg {
			t.Error("Ungray", n, g, e)
		}
	}
}

func weight(n int) int {
	w := 0
	for ; n != 0; n &= n - 1 {
		w++
	}
	return w
}

func TestP1_3Pairs(t *testing.T) {
	if l, e := bits.Xor(row("0011"), row("0101")); e != api.OK || !slices.Equal(l, row("0110")) {
		t.Error("Xor:", l, e)
	}
	if n, e := bits.Distance(row("0011"), row("0101")); n != 2 || e != api.OK {
		t.Error("Distance:", n, e)
	}
	for _, p := range [][2][]bool{{row("1"), nil}, {nil, row("1")}, {make([]bool, api.MaxBits+1), make([]bool, api.MaxBits+1)}} {
		if l, e := bits.Xor(p[0], p[1]); l != nil || e != api.ErrArg {
			t.Error("Xor:", l, e)
		}
		if n, e := bits.Distance(p[0], p[1]); n != 0 || e != api.ErrArg {
			t.Error("Distance:", n, e)
		}
	}
	long := make([]bool, api.MaxBits+9)
	long[0], long[api.MaxBits+8] = true, true
	if n := bits.Weight(long); n != 2 {
		t.Error("Weight:", n)
	}
}

func TestP1_4Pad(t *testing.T) {
	if l, e := bits.Pad(row("1"), 4); e != api.OK || !slices.Equal(l, row("1000")) {
		t.Error("Pad:", l, e)
	}
	if l, e := bits.Pad(row("1001"), 4); e != api.OK || !slices.Equal(l, row("1001")) {
		t.Error("Pad of a whole one:", l, e)
	}
	if l, e := bits.Pad(row("101"), 1); e != api.OK || !slices.Equal(l, row("101")) {
		t.Error("Pad by 1:", l, e)
	}
	if n, e := bits.Distance(make([]bool, api.MaxBits), make([]bool, api.MaxBits)); n != 0 || e != api.OK {
		t.Error("Distance of the longest:", n, e)
	}
	if l, e := bits.Pad(nil, 4096); e != api.OK || len(l) != 0 {
		t.Error("Pad of none:", l, e)
	}
	for _, m := range []int{0, -1, 4097} {
		if _, e := bits.Pad(row("1"), m); e != api.ErrArg {
			t.Error("Pad by", m, e)
		}
	}
	if _, e := bits.Pad(make([]bool, api.MaxBits-1), 3); e != api.ErrArg {
		t.Error("Pad past the greatest row:", e)
	}
	if l, e := bits.Pad(make([]bool, api.MaxBits-1), 2); len(l) != api.MaxBits || e != api.OK {
		t.Error("Pad to the greatest row:", len(l), e)
	}
	if _, e := bits.Pad(make([]bool, api.MaxBits+1), 1); e != api.ErrArg {
		t.Error("Pad of no row:", e)
	}
	l := append(row("1"), true)[:1]
	if p, _ := bits.Pad(l, 2); p[1] || !l[:2][1] {
		t.Error("Pad read or wrote behind the row's end")
	}
}

func TestP1_4Pieces(t *testing.T) {
	l := row("10110")
	all := bits.Pieces(l, 2)
	l[0] = false
	told := func() (out []string) {
		for at, p := range all {
			out = append(out, bits.Text(l[:at])+":"+bits.Text(p))
			for i := range p[:cap(p)] {
				p[:cap(p)][i] = true
			}
		}
		return out
	}
	want := []string{":10", "00:11", "0011:0"}
	if got := told(); !slices.Equal(got, want) {
		t.Error("Pieces:", got)
	}
	if got := told(); !slices.Equal(got, want) {
		t.Error("Pieces once more:", got)
	}
	for range all {
		for range all {
			break
		}
		break
	}
	for _, n := range []int{0, -1, math.MinInt} {
		for range bits.Pieces(l, n) {
			t.Error("a piece of", n)
		}
	}
	n := 0
	for at, p := range bits.Pieces(l, math.MaxInt) {
		if n++; at != 0 || len(p) != 5 {
			t.Error("one piece:", at, p)
		}
	}
	for range bits.Pieces(nil, 1) {
		t.Error("a piece of none")
	}
	if n != 1 {
		t.Error("pieces:", n)
	}
}

func TestP1_5Texts(t *testing.T) {
	if s := bits.Text(row("100")); s != "100" {
		t.Error("Text:", s)
	}
	if s := bits.Text(make([]bool, api.MaxBits+1)); len(s) != api.MaxBits+1 {
		t.Error("Text of a long one:", len(s))
	}
	if l, at, e := bits.Parse("100"); e != api.OK || at != 0 || !slices.Equal(l, row("100")) {
		t.Error("Parse:", l, at, e)
	}
	long := strings.Repeat("1", api.MaxBits)
	if l, at, e := bits.Parse(long); len(l) != api.MaxBits || at != 0 || e != api.OK {
		t.Error("Parse of the longest:", len(l), at, e)
	}
	for _, c := range []struct {
		s  string
		at int
	}{{"10x", 2}, {"1\xff", 1}, {"é1", 0}, {"1é", 1}, {"2", 0}, {long + "1", api.MaxBits}, {long + "x", api.MaxBits}, {"x" + long, 0}} {
		if l, at, e := bits.Parse(c.s); l != nil || at != c.at || e != api.ErrForm {
			t.Error("Parse:", len(c.s), at, e)
		}
	}
}

func TestP1_6Back(t *testing.T) {
	r := rand.New(rand.NewSource(1))
	for range 200 {
		text := make([]byte, r.Intn(40))
		r.Read(text)
		l, _ := bits.Of(string(text))
		if s, _ := bits.Bytes(l); s != string(text) {
			t.Fatal("Bytes of Of")
		}
		width := 1 + r.Intn(16)
		a, b := some(r, width*r.Intn(9)), []bool(nil)
		w, _ := bits.Words(a, width)
		if back, _ := bits.Row(w, width); !slices.Equal(back, a) {
			t.Fatal("Row of Words")
		}
		if back, _, _ := bits.Parse(bits.Text(a)); !slices.Equal(back, a) {
			t.Fatal("Parse of Text")
		}
		b = some(r, len(a))
		x, _ := bits.Xor(a, b)
		if x, _ = bits.Xor(x, b); !slices.Equal(x, a) {
			t.Fatal("Xor twice")
		}
		var whole []bool
		for _, p := range bits.Pieces(a, 1+r.Intn(20)) {
			whole = append(whole, p...)
		}
		if !slices.Equal(whole, a) {
			t.Fatal("Pieces together")
		}
	}
}

func TestP1_8Distance(t *testing.T) {
	r := rand.New(rand.NewSource(2))
	for range 200 {
		n := r.Intn(6)
		a, b, c := some(r, n), some(r, n), some(r, n)
		ab, _ := bits.Distance(a, b)
		ba, _ := bits.Distance(b, a)
		ac, _ := bits.Distance(a, c)
		cb, _ := bits.Distance(c, b)
		x, _ := bits.Xor(a, b)
		if ab != ba || ab != bits.Weight(x) || ab > ac+cb || (ab == 0) != slices.Equal(a, b) {
			t.Fatal("Distance:", a, b, c)
		}
	}
}
