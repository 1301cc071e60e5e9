package console_test

import (
	"slices"
	"strconv"
	"strings"
	"testing"

	"foghorn/api"
	"foghorn/console"
)

// does does lines at a console, and holds the answers' lines against those that are wanted; - | parts both.
func does(t *testing.T, c *console.Console, lines, want string) {
	t.Helper()
	var got []string
	for _, line := range strings.Split(lines, " | ") {
		got = append(got, c.Do(line)...)
	}
	if all := strings.Join(got, " | "); all != want {
		t.Errorf("%s:\n%s, not\n%s", lines, all, want)
	}
}

func TestP32_1Examples(t *testing.T) {
	c := console.New()
	does(t, c, "room | receive ab 6869 | hear ab 6869", "ok 50 | ok 6869 | ok 3 4 0 0 64 0")
	if l := c.Do("code 6869"); len(l) != 1 || len(l[0]) != 123 || l[0][:3] != "ok " {
		t.Error("code:", l)
	}
	does(t, c, "strait ab 5 0 16 32 0 | receive ab 6869", "ok | error 9")
	does(t, c, "block 4 2 1 32 1 60 4 | receive ab 6869 | hear ab 6869", "ok 50 | ok 6869 | ok 9 1 1 0 0 16 32 0")
	does(t, console.New(), "offer a 6869 | open | open | offer a 6869 | round | round", "error 2 | ok | error 5 | ok 1 | ok 1 | b 6869 | ok 0")
	c = console.New()
	does(t, c, "open | offer a 6869 | round | round | state a | rounds 9 | pulse tent 2 | close | pulse tent 2 | pulse tent 3", "ok | ok 1 | ok 1 | b 6869 | ok 0 | ok 2 0 0 | ok 0 0 | error 5 | ok | ok | error 1")
	does(t, c, "burst ab 0 9 lost | noise ba 1 | room 1 | room  | # x", "ok 1 | error 1 | error 4 | error 4")
}

// TestTenExamples does the examples of the whole.
func TestTenExamples(t *testing.T) {
	does(t, console.New(), "room | places | send 6869 | receive ab 6869 | hear ab 6869", "ok 50 | ok 3 7 12 279 17 148 | ok 279 | ok 6869 | ok 3 4 0 0 64 0")
	does(t, console.New(), "pulse tent 2 | block 16 3 2 24 2 40 8 | strait ab 7 0 32 -16 8 0 4 | noise ab 1 -1 2000 -2000 2047 -2047 | hear ab 6869 | receive ab 6869", "ok | ok 58 | ok | ok 3 | ok 18 2 1 0 0 32 -16 8 0 4 | ok 6869")
	does(t, console.New(), "strait ab 5 0 16 32 0 | receive ab 6869 | block 4 2 1 32 1 60 4 | receive ab 6869 | hear ab 6869 | noise ab 4095 4095 | receive ab 6869", "ok | error 9 | ok 50 | ok 6869 | ok 9 1 1 0 0 16 32 0 | ok 1 | ok 6869")
	does(t, console.New(), "block 4 1 1 8 4 30 8 | burst ab 60 1 lost | receive ab 68656c6c6f | hear ab 68656c6c6f | burst ab 60 1 4096 4096 | receive ab 68656c6c6f | burst ab 60 200 lost | receive ab 68656c6c6f | calm ab | receive ab 68656c6c6f", "ok 82 | ok 1 | ok 68656c6c6f | ok 3 4 0 6 64 0 | ok 2 | ok 68656c6c6f | ok 3 | error 9 | ok | ok 68656c6c6f")
	does(t, console.New(), "block 256 1 1 64 1 60 8 | receive ba c3a9ff00 | send c3a9ff00", "ok 46 | ok c3a9ff00 | ok 84")
	c := console.New()
	does(t, c, "link 1 4 3 3 2 0 | echo ab 32 0 0 16 | echo ba 64 0 | open | round | round", "ok | ok | ok | ok | ok 0 | ok 0")
	does(t, c, "state a | state b | offer a 6869 | offer b 796f | rounds 9", "ok 2 0 0 64 0 0 0 | ok 2 0 0 32 0 0 16 | ok 1 | ok 1 | ok 2 2 | a 796f | b 6869")
	c = console.New()
	does(t, c, "block 4 1 1 8 4 30 8 | decode 00 0", "ok 82 | error 1")
	if l := c.Do("code 68"); len(l) != 1 || len(l[0]) != 243 {
		t.Error("code:", l)
	}
	does(t, console.New(), "strait ab 0 0 64 | strait ab 0 64 | strait ab 0 128 0 | strait ab 0 8 0 | receive ab 6869 | pulse hill 2 | pulse soft 4 | block 5 1 1 8 1 60 4", "ok | error 1 | error 8 | ok | error 9 | error 6 | error 1 | error 1")
	does(t, console.New(), "open | offer a 6869 | burst ab 0 9999 lost | round | round | calm ab | rounds 20 | rounds 0", "ok | ok 1 | ok 1 | ok 0 | ok 0 | ok | ok 3 1 | b 6869 | error 1")
	does(t, console.New(), "room 1 | offer a 6869 | burst ab -1 9 lost | noise ab 1 | noise ab 9999999 0 | fly | receive ab xx | receive ab -", "error 4 | error 2 | error 1 | error 1 | error 7 | error 4 | error 4 | ok -")
}

func TestP32_1Forms(t *testing.T) {
	c := console.New()
	for _, line := range []string{"", " ", "    ", "#", "  # room", "#room", strings.Repeat(" ", console.MaxLine+1), "#" + strings.Repeat("x", console.MaxLine)} {
		if l := c.Do(line); len(l) != 0 {
			t.Errorf("passes over: %.20q %v", line, l)
		}
	}
	for _, line := range []string{"room ", " room", "room\t", "Room", "room\r", "places 1", "fly", "\t", "open 1", "close 1", "round 1", "rounds", "rounds 1 1", "rounds x", "rounds 01", "rounds -0", "rounds +1", "rounds 1.0", "rounds 9223372036854775808", "rounds -9223372036854775809",
		"pulse tent", "pulse 2", "pulse  2", "pulse tent 2 2", "block 4 1 1 8 4 30", "block 4 1 1 8 4 30 8 1", "link 1 4 3 1 0", "strait", "strait ab", "strait xy 0 64 0", "strait ab 0 64 x", "echo", "echo aa", "noise 1 1", "noise ab 1 -", "burst ab 1", "burst ab 1 1", "burst ab 1 1 1", "burst ab 1 1 1 1 1", "burst ab 1 1 lose", "burst ab 1 1 lost 1", "burst ab 1 1 1 lost",
		"calm", "calm a", "code", "code 6", "code 6A", "code 0g", "code --", "code 68 69", "code 0x68", "decode 00 x", "send", "hear ab", "hear 68", "receive ab 686", "receive a 68", "offer c 68", "offer a", "offer ab 68", "state", "state ab", "state a 1", "decode", strings.Repeat("x", console.MaxLine+1), "noise ab" + strings.Repeat(" 0", 40000)} {
		if l := c.Do(line); !slices.Equal(l, []string{"error 4"}) {
			t.Errorf("no order: %.40q %v", line, l)
		}
	}
	long := "noise ab" + strings.Repeat(" 0", 32764)
	if l := c.Do(long); len(long) != console.MaxLine || !slices.Equal(l, []string{"ok 16382"}) {
		t.Error("the longest line:", len(long), l)
	}
	var none *console.Console
	if l := none.Do("room"); l != nil {
		t.Error("a nil console:", l)
	}
	var made console.Console
	for _, line := range []string{"room", "open", "receive ab 68", "hear ba 68", "rounds 3", "strait ab 0 64 0", "noise ab 0 0", "burst ab 0 0 lost", "state a", "places", "send 68", "code 68", "decode 00", "pulse tent 2", "echo ab 0 0", "link 1 4 3 1 0 0", "close", "calm ab", "block 4 1 1 8 4 30 8"} {
		made.Do(line)
	}
}

func TestP32_1Orders(t *testing.T) {
	c := console.New()
	does(t, c, "pulse spike 9 | pulse hill 9 | pulse box 4 | places | pulse spike 1", "error 1 | error 6 | ok | ok 12 25 45 1113 65 589 | ok")
	does(t, c, "block 4 1 1 8 4 30 3 | block 4 0 1 8 4 30 8 | block 4 1 1 8 4 30 9223372036854775807 | room | link 1 41 3 1 0 0 | link 1 4 3 1 0 2 | link 1 16 3 1 0 3 | link 2 4 9223372036854775807 8 64 0", "error 1 | error 1 | error 1 | ok 50 | error 1 | error 1 | ok | error 1")
	does(t, c, "strait ab -1 64 0 | strait ab 65537 64 0 | strait ab 0 | strait ab 0 64 | strait ba 65536 0 -64 | echo ba 0 | echo ba 0 65 | echo ba -64 0 | echo ba", "error 1 | error 1 | error 8 | error 1 | ok | error 1 | error 8 | ok | ok")
	does(t, c, "noise ab -4194304 4194304 | noise ab 4194305 0 | noise ab 4194305 | noise ab", "ok 1 | error 7 | error 1 | ok 0")
	does(t, c, "burst ab 0 -1 lost | burst ab -1 0 0 0 | burst ba 0 0 9223372036854775807 -9223372036854775808 | burst ba 1 1 lost | burst ab 9223372036854775807 9223372036854775807 lost | calm ba | burst ba 1 1 0 0", "error 1 | error 1 | ok 1 | ok 2 | ok 1 | ok | ok 1")
	does(t, c, "calm ab | calm ba | strait ba 0 64 0 | code - | send - | decode 6869 0 | receive ba - | hear ab -", "ok | ok | ok | ok 0000000000000000000000000000000000000000000000000000000000000000000000000000000000000000000000000000000000000000"+checks+" | ok 279 | error 1 | ok - | ok 3 4 0 0 64 0")
	does(t, c, "receive ab "+strings.Repeat("00", 51)+" | receive ab "+strings.Repeat("00", 50), "error 1 | ok "+strings.Repeat("00", 50))
	does(t, c, "close | state a | round | rounds 0 | offer a 68", "error 2 | error 2 | error 2 | error 2 | error 2")
	does(t, c, "open | pulse hill 9 | block 0 0 0 0 0 0 0 | link 0 0 0 0 0 0 | open | rounds 201 | rounds -1 | rounds 200 | rounds 1 | offer b 6869706869706869706869706869706869 | offer b 68697068697068697068697068697068 | offer b - | state b", "ok | error 5 | error 5 | error 5 | error 5 | error 1 | error 1 | ok 0 0 | ok 0 0 | error 1 | ok 1 | ok 2 | ok 0 2 0")
	does(t, c, "strait ab 9 0 64 | noise ab 1 1 | burst ab 0 1 lost | rounds 3 | state a | close | state a", "ok | ok 1 | ok 1 | ok 3 2 | a 68697068697068697068697068697068 | a - | ok 3 0 2 | ok | error 2")
	coded := c.Do("code 666f67")[0][3:]
	does(t, c, "decode "+coded+" | decode ff"+coded[2:]+" | decode ffffffff"+coded[8:]+" 3 0 2 1 | decode ffffffff"+coded[8:]+" | decode "+coded+" 60 | decode "+coded+" 1 1", "ok 666f67 0 | ok 666f67 1 | ok 666f67 0 | error 9 | error 1 | error 1")
}

// checks are those of a word of noughts.
const checks = "00000000"

func TestP32_1Bursts(t *testing.T) {
	c := console.New()
	for range api.MaxSteps {
		c.Do("burst ab 0 0 lost")
	}
	does(t, c, "burst ab 0 0 lost | burst ba 0 0 lost | receive ab 68", "error 1 | ok 1 | ok 68")
}

func TestP32_2Scripts(t *testing.T) {
	lines := []string{"room", "", "# x", "open", "offer a 6869", "round", "fly"}
	want := [][]string{{"ok 50"}, nil, nil, {"ok"}, {"ok 1"}, {"ok 1", "b 6869"}, {"error 4"}}
	got := console.Run(lines)
	if len(got) != len(lines) {
		t.Fatal("Run:", got)
	}
	for i := range got {
		if !slices.Equal(got[i], want[i]) {
			t.Error("Run:", i, got[i])
		}
	}
	if l := console.Run(nil); len(l) != 0 {
		t.Error("Run of none:", l)
	}
	if s := console.Text(strings.Join(lines, "\n")); s != "ok 50\nok\nok 1\nok 1\nb 6869\nerror 4\n" {
		t.Errorf("Text: %q", s)
	}
	for s, want := range map[string]string{"": "", "\n\n": "", "room": "ok 50\n", "room\n": "ok 50\n", "room\n\nroom": "ok 50\nok 50\n", "room\r\n": "error 4\n"} {
		if got := console.Text(s); got != want {
			t.Errorf("Text: %q: %q", s, got)
		}
	}
	many := strings.Repeat("room\n#\n", api.MaxSteps-1) + "fly\n\n"
	all := strings.Repeat("ok 50\n", api.MaxSteps-1) + "error 4\n"
	if got := console.Text(many); got != all {
		t.Error("the most lines:", len(got))
	}
	if got := console.Text(many + "\n# x\nroom\nroom\n"); got != all+"error 1\n" {
		t.Error("a line more:", len(got))
	}
	big := console.Text("block 256 1 1 4096 255 230 2\n" + strings.Repeat("code 00\n", 20))
	one := len("ok ") + 2*255*230 + 1
	head := len("ok 32768\n")
	n := (console.MaxTold-head)/one + 1
	if n > 19 || len(big) != head+n*one+len("error 3\n") || !strings.HasSuffix(big, "\nerror 3\n") {
		t.Error("more than may be told:", len(big), n, one)
	}
	exact := "block 256 1 1 4096 255 230 2\ncalm ab\n" + strings.Repeat("code 00\n", 8)
	rest := console.MaxTold - len("ok 32768\nok\n") - 8*one
	exact += strings.Repeat("receive ab "+strings.Repeat("00", (rest/2-4)/2)+"\n", 2)
	if s := console.Text(exact); len(s) != console.MaxTold || console.Text(exact+"room") != s+"ok 32768\n" || console.Text(exact+"room\nroom") != s+"ok 32768\nerror 3\n" {
		t.Error("just as much as may be told:", len(s))
	}
	if l := console.Run(slices.Repeat([]string{"room"}, api.MaxSteps+2)); len(l) != api.MaxSteps+2 || l[api.MaxSteps+1][0] != "ok 50" {
		t.Error("Run of many:", len(l))
	}
}

func TestP32_4Apart(t *testing.T) {
	c, d := console.New(), console.New()
	does(t, c, "strait ab 3 32 0 | noise ab 1 1 | open | offer a 68", "ok | ok 1 | ok | ok 1")
	before := c.Do("state a")
	does(t, d, "hear ab 68", "ok 3 4 0 0 64 0")
	first := strings.Join(c.Do("hear ab 68"), "")
	for _, line := range []string{"room", "places", "code 68", "decode 00", "send 68", "hear ba 68", "receive ab 6869", "state b", "#", "", "fly"} {
		c.Do(line)
		if got := strings.Join(c.Do("hear ab 68"), ""); got != first || !slices.Equal(c.Do("state a"), before) {
			t.Error("changed by", line)
		}
	}
	lines := []string{"open", "offer a 68", "round", "round", "offer b " + strconv.Itoa(79), "rounds 3", "state a"}
	whole := console.Run(lines)
	for n := range lines {
		for i, l := range console.Run(lines[:n]) {
			if !slices.Equal(l, whole[i]) {
				t.Error("a beginning:", n, i)
			}
		}
	}
}
