package weave_test

import (
	"math"
	"math/rand"
	"slices"
	"strings"
	"testing"

	"foghorn/api"
	"foghorn/weave"
)

func TestP17_1Words(t *testing.T) {
	if s, e := weave.In([]string{"abc", "def"}); s != "adbecf" || e != api.OK {
		t.Error("In:", s, e)
	}
	if l, e := weave.Out("adbecf", 2); e != api.OK || !slices.Equal(l, []string{"abc", "def"}) {
		t.Error("Out:", l, e)
	}
	for _, words := range [][]string{nil, {""}, {"ab", "c"}, {"a", "bc"}, {strings.Repeat("x", 256)}, make([]string, 256), slices.Repeat([]string{"a"}, 256), {"", "a"}} {
		if s, e := weave.In(words); s != "" || e != api.ErrArg {
			t.Error("In:", len(words), e)
		}
	}
	long := strings.Repeat("xy", 255*255/2+1)[:255*255]
	if l, e := weave.Out(long, 255); len(l) != 255 || e != api.OK {
		t.Error("the greatest Out:", e)
	} else if s, e := weave.In(l); s != long || e != api.OK {
		t.Error("the greatest In:", e)
	}
	for _, c := range []struct {
		n, count int
	}{{5, 2}, {0, 1}, {6, 0}, {6, -2}, {256, 256}, {256, 1}, {512, 2}, {6, math.MinInt}, {0, 0}} {
		if l, e := weave.Out(strings.Repeat("x", c.n), c.count); l != nil || e != api.ErrArg {
			t.Error("Out:", c, e)
		}
	}
	if n, e := weave.Place(1, 2, 2, 3); n != 5 || e != api.OK {
		t.Error("Place:", n, e)
	}
	if word, at, e := weave.Back(5, 2, 3); word != 1 || at != 2 || e != api.OK {
		t.Error("Back:", word, at, e)
	}
	for _, c := range [][4]int{{2, 0, 2, 3}, {-1, 0, 2, 3}, {0, 3, 2, 3}, {0, -1, 2, 3}, {0, 0, 0, 3}, {0, 0, 256, 3}, {0, 0, 2, 0}, {0, 0, 2, 256}} {
		if n, e := weave.Place(c[0], c[1], c[2], c[3]); n != 0 || e != api.ErrArg {
			t.Error("Place:", c, n, e)
		}
	}
	for _, c := range [][3]int{{6, 2, 3}, {-1, 2, 3}, {0, 0, 3}, {0, 2, 256}, {math.MaxInt, 2, 3}} {
		if word, at, e := weave.Back(c[0], c[1], c[2]); word != 0 || at != 0 || e != api.ErrArg {
			t.Error("Back:", c, e)
		}
	}
}

func TestP17_2HitsAndMarks(t *testing.T) {
	if l, e := weave.Hit(1, 4, 2, 3); e != api.OK || !slices.Equal(l, []int{1, 2}) {
		t.Error("Hit:", l, e)
	}
	if l, e := weave.Hit(2, 2, 2, 3); e != api.OK || !slices.Equal(l, []int{0, 0}) {
		t.Error("Hit of none:", l, e)
	}
	for _, c := range [][4]int{{-1, 2, 2, 3}, {3, 2, 2, 3}, {0, 7, 2, 3}, {0, 0, 0, 3}, {0, 0, 2, 0}, {0, math.MaxInt, 2, 3}} {
		if l, e := weave.Hit(c[0], c[1], c[2], c[3]); l != nil || e != api.ErrArg {
			t.Error("Hit:", c, l, e)
		}
	}
	l, e := weave.Marks([]int{5, 0, 4}, 2, 3)
	if e != api.OK || len(l) != 2 || !slices.Equal(l[0], []int{0, 2}) || !slices.Equal(l[1], []int{2}) {
		t.Error("Marks:", l, e)
	}
	if l, e := weave.Marks(nil, 2, 3); e != api.OK || len(l) != 2 || len(l[0])+len(l[1]) != 0 {
		t.Error("Marks of none:", l, e)
	}
	for _, lost := range [][]int{{1, 1}, {6}, {-1}, {0, math.MaxInt}} {
		if l, e := weave.Marks(lost, 2, 3); l != nil || e != api.ErrArg {
			t.Error("Marks:", lost, l, e)
		}
	}
	if l, e := weave.Marks(nil, 0, 3); l != nil || e != api.ErrArg {
		t.Error("Marks of no weave:", e)
	}
}

func TestP17_3Looms(t *testing.T) {
	l, e := weave.New(2, 1)
	if s, f := l.Run("abcd"); s != "a\x00cb" || e != api.OK || f != api.OK || l.Delay() != 2 {
		t.Errorf("Run: %q %v %v", s, e, f)
	}
	if b, e := l.Push('e'); b != 'e' || e != api.OK {
		t.Error("Push:", b, e)
	}
	u, e := weave.Undo(2, 1)
	if s, f := u.Run("a\x00cb"); s != "\x00\x00ab" || e != api.OK || f != api.OK || u.Delay() != 2 {
		t.Errorf("Undo: %q %v %v", s, e, f)
	}
	one, _ := weave.New(1, 5)
	if s, _ := one.Run("abc"); s != "abc" || one.Delay() != 0 {
		t.Error("one branch:", s)
	}
	for _, c := range [][2]int{{65, 1}, {1, 0}, {0, 1}, {1, 65}, {-1, -1}, {math.MaxInt, 1}} {
		if l, e := weave.New(c[0], c[1]); l != nil || e != api.ErrArg {
			t.Error("New:", c, e)
		}
		if l, e := weave.Undo(c[0], c[1]); l != nil || e != api.ErrArg {
			t.Error("Undo:", c, e)
		}
	}
	if s, e := one.Run(strings.Repeat("x", api.MaxMessage+1)); s != "" || e != api.ErrArg {
		t.Error("Run of too many:", e)
	}
	if s, e := one.Run(strings.Repeat("x", api.MaxMessage)); len(s) != api.MaxMessage || e != api.OK {
		t.Error("Run of the most:", e)
	}
	var none *weave.Loom
	_, e1 := none.Push(1)
	_, e2 := none.Run(strings.Repeat("x", api.MaxMessage+1))
	if e1 != api.ErrNil || e2 != api.ErrNil || none.Delay() != 0 {
		t.Error("a nil loom:", e1, e2)
	}
	var made weave.Loom
	made.Run("abc")
	made.Delay()
}

func TestP17_4BackAndSpread(t *testing.T) {
	r := rand.New(rand.NewSource(1))
	for range 200 {
		count, length := 1+r.Intn(9), 1+r.Intn(9)
		words := make([]string, count)
		for i := range words {
			b := make([]byte, length)
			r.Read(b)
			words[i] = string(b)
		}
		s, _ := weave.In(words)
		back, _ := weave.Out(s, count)
		if !slices.Equal(back, words) {
			t.Fatal("Out of In:", count, length)
		}
		if again, _ := weave.In(back); again != s {
			t.Fatal("In of Out:", count, length)
		}
		var lost []int
		for place := range count * length {
			word, at, _ := weave.Back(place, count, length)
			if s[place] != words[word][at] {
				t.Fatal("Back:", place)
			}
			if n, _ := weave.Place(word, at, count, length); n != place {
				t.Fatal("Place of Back:", place)
			}
			if r.Intn(3) == 0 {
				lost = append(lost, place)
			}
		}
		r.Shuffle(len(lost), func(i, j int) { lost[i], lost[j] = lost[j], lost[i] })
		marks, _ := weave.Marks(lost, count, length)
		for word, l := range marks {
			if !slices.IsSorted(l) {
				t.Fatal("not rising:", l)
			}
			for _, at := range l {
				if n, _ := weave.Place(word, at, count, length); !slices.Contains(lost, n) {
					t.Fatal("not lost:", word, at)
				}
			}
		}
		if n := len(slices.Concat(marks...)); n != len(lost) {
			t.Fatal("too few marks:", n)
		}
		from := r.Intn(count*length + 1)
		to := from + r.Intn(count*length-from+1)
		hit, _ := weave.Hit(from, to, count, length)
		sum := 0
		for _, n := range hit {
			if sum += n; n > (to-from+count-1)/count || n < (to-from)/count {
				t.Fatal("not spread:", from, to, hit)
			}
		}
		if sum != to-from {
			t.Fatal("Hit:", from, to, hit)
		}
	}
}

func TestP17_5Loom(t *testing.T) {
	r := rand.New(rand.NewSource(2))
	for range 50 {
		branches, steps := 1+r.Intn(9), 1+r.Intn(9)
		in, _ := weave.New(branches, steps)
		out, _ := weave.Undo(branches, steps)
		text := make([]byte, 1500)
		for i := range text {
			text[i] = byte(1 + i%251)
		}
		woven, _ := in.Run(string(text))
		back, _ := out.Run(woven)
		delay := in.Delay()
		if delay != branches*(branches-1)*steps || out.Delay() != delay || strings.Trim(back[:delay], "\x00") != "" || back[delay:] != string(text)[:1500-delay] {
			t.Fatal("looms:", branches, steps)
		}
		came := make([]int, 0, 200) // when what went in comes out
		for i := range 200 {
			came = append(came, i+i%branches*steps*branches)
		}
		for i := range 200 {
			if came[i] < 1500 && woven[came[i]] != text[i] {
				t.Fatal("where it comes out:", branches, steps, i)
			}
			for j := i + 1; j < min(200, i+branches); j++ {
				if d := came[j] - came[i]; max(d, -d) <= branches*(steps-1) {
					t.Fatal("too near:", branches, steps, i, j)
				}
			}
		}
	}
}
