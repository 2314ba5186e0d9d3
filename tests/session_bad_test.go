package tests

import (
	"slices"
	"strings"
	"testing"

	"loop.example/wharfmate/impl"
)

// tableLines are lines of the table, all its forms among them.
func tableLines() []string {
	return []string{
		"want a c 1 v 0 0 0 0", "want b c 10 * 1 20 100 3", "drop a c", "drop b d", "tick", "tick 1 4", "bring 0", "double 0", "lose 0", "fall a", "fall b",
		"crash a", "crash b", "rise a", "rise b", "calm 1", "calm 1 4 1", "show a", "show b", "holds", "safe",
	}
}

// nearLines are lines that are nearly such: each is bad.
func nearLines() []string {
	list := []string{
		"", " ", "  ", "a", "b", "0", "wants", "wan", "Want a c 1 v 0 0 0 0", "WANT a c 1 v 0 0 0 0", "zap", "tick1", "ticks", "safe?", "hold", "bad", "none", "*", "-", "code 0",
		"want", "want a", "want a c 1 v 0 0 0", "want a c 1 v 0 0 0 0 0", "want a c v 1 0 0 0 0", "want a c 1 0 0 0 0", "want c 1 v 0 0 0 0", "want a b c 1 v 0 0 0 0",
		"want c c 1 v 0 0 0 0", "want A c 1 v 0 0 0 0", "want ab c 1 v 0 0 0 0", "want * c 1 v 0 0 0 0", "want 0 c 1 v 0 0 0 0",
		"want a c x v 0 0 0 0", "want a c 1 v x 0 0 0", "want a c 1 v 0 x 0 0", "want a c 1 v 0 0 x 0", "want a c 1 v 0 0 0 x", "want a c * v 0 0 0 0",
		"drop", "drop a", "drop c", "drop a c d", "drop a c 1", "drop c c", "drop A c", "drop  c", "drop a ", "drop a  ",
		"tick 1", "tick 1 1 1", "tick a b", "tick 1 b", "tick a 1", "tick x 1", "tick 2 2 2 2",
		"bring", "bring a", "bring 0 0", "double", "double b", "double 0 0", "lose", "lose a", "lose 0 0",
		"fall", "fall c", "fall 0", "fall a b", "fall a a", "fall A", "crash", "crash c", "crash 1", "crash a b", "rise", "rise c", "rise 0", "rise a b", "rise aa",
		"calm", "calm a", "calm 1 1", "calm 1 1 1 1", "calm 1 a b", "calm 1 1 b", "calm 1 a 1", "calm x 1 1", "calm 201 1", "calm 201 x 1", "calm 201 1 x",
		"show", "show c", "show 0", "show a b", "show a a", "show B", "holds a", "holds -", "safe a", "safe settled",
		"tick\r", "safe\r", "safe\t", "\tsafe", "safe\x00", "\x00", "\xff", "show\ta", "show\u00a0a", "\ufeffsafe", "tick \u0661 1",
	}
	for _, line := range tableLines() {
		list = append(list, " "+line, line+" ", line+"  ", line+" x", line+"\r", strings.ToUpper(line), line+" 0 0 0")
		if strings.Contains(line, " ") {
			list = append(list, strings.Replace(line, " ", "  ", 1), strings.ReplaceAll(line, " ", "  "), strings.ReplaceAll(line, " ", "\t"))
		}
	}
	// A Copy may be any word, so these are lines of the table.
	return slices.DeleteFunc(list, func(line string) bool { return line == "drop a c\r" || line == "drop b d\r" })
}

// noNumbers are words that are no decimals of the table.
func noNumbers() []string {
	return []string{
		"00", "01", "007", "0000", "0001", "00000", "-0", "-1", "+0", "+1", "-", "+", "10000", "12345", "99999", "00001", "123456789012345678901234567890",
		"9223372036854775807", "9223372036854775808", "-9223372036854775808", "18446744073709551616", "1.0", "1.", ".1", "1e1", "0x1", "0b1", "0o7", "1_0", "1,0", "1a", "a1", "x", "*", "'1'",
		"\x00", "1\x00", "\u0661", "\uff11", "1\r", "\t1", "½",
	}
}

// linesWith gives each line of the table that has a number at some place, with
// this word in its stead.
func linesWith(word string) []string {
	var list []string
	for _, line := range []string{"want a c N v N N N N", "tick N N", "bring N", "double N", "lose N", "calm N", "calm N N N"} {
		for place := range strings.Count(line, "N") {
			before := strings.Replace(line, "N", "1", place)
			list = append(list, strings.ReplaceAll(strings.Replace(before, "N", word, 1), "N", "1"))
		}
	}
	return list
}

// busyTalk is a session of which each answer hangs on what was done before.
var busyTalk = "want a c 1 v 1 1 0 3\ntick 3 1\ndouble 0\nbring 0\ntick\nbring 1\nlose 2\ncalm 4\nshow a\nfall a\nwant b d 2 w 0 0 5 1\ntick 4 4\nrise a\ncrash b\nholds\nshow b\nrise b\ncalm 2 1 4\ndrop a c\nshow a\nshow b\ncalm 6\nholds\nsafe\n"

// isBad sees that a line is answered bad, alone and behind others, and that it
// does nothing.
func isBad(t *testing.T, line string) {
	t.Helper()
	if got := impl.MateSession(line + "\n"); got != "bad\n" {
		t.Errorf("%q is answered %q", line, got)
	}
	if got := impl.MateSession(line); got != "bad\n" && line != "" {
		t.Errorf("%q without a newline is answered %q", line, got)
	}
	bare := impl.MateSession(busyTalk)
	if got := impl.MateSession(strings.ReplaceAll(busyTalk, "\n", "\n"+line+"\n")); got != strings.ReplaceAll(bare, "\n", "\nbad\n") {
		t.Errorf("%q behind each line of a session is answered\n%s, not just bad each time, without it\n%s", line, got, bare)
	}
}

func TestSessionLinesOfTheTable(t *testing.T) {
	for _, line := range append(tableLines(), linesWith("0")...) {
		if got := impl.MateSession(line + "\n"); got == "bad\n" || got == "" {
			t.Errorf("%q is answered %q", line, got)
		}
	}
	for _, number := range []string{"0", "1", "9", "10", "99", "100", "999", "1000", "9999"} {
		for _, line := range linesWith(number) {
			if got := impl.MateSession(line); got == "bad\n" {
				t.Errorf("%q is answered %q", line, got)
			}
		}
	}
}

func TestSessionLinesOfNoTable(t *testing.T) {
	for _, line := range nearLines() {
		isBad(t, line)
	}
}

func TestSessionNumbersThatAreNone(t *testing.T) {
	for _, word := range noNumbers() {
		for _, line := range linesWith(word) {
			isBad(t, line)
		}
	}
}

func TestSessionBytes(t *testing.T) {
	for b := range 256 {
		line := string([]byte{byte(b)})
		if b != '\n' {
			isBad(t, line)
			isBad(t, "safe"+line)
			isBad(t, line+"safe")
			isBad(t, "show "+line+"a")
		}
	}
}

func TestSessionLimits(t *testing.T) {
	bad := func(n int) string { return strings.Repeat("bad\n", n) }
	for _, c := range []struct{ text, want string }{
		{"", ""},
		{"\n", bad(1)},
		{"\n\n", bad(2)},
		{"\n\n\nx", bad(4)},
		{strings.Repeat("x", impl.MateMaxSession), bad(1)},
		{strings.Repeat("x", impl.MateMaxSession-1) + "\n", bad(1)},
		{strings.Repeat("x", impl.MateMaxSession) + "\n", "too long\n"},
		{strings.Repeat("x", impl.MateMaxSession+1), "too long\n"},
		{strings.Repeat("é", impl.MateMaxSession/2), bad(1)}, // bytes count, not runes
		{strings.Repeat("é", impl.MateMaxSession/2) + "x", "too long\n"},
		{strings.Repeat("\xff", 10*impl.MateMaxSession), "too long\n"},
		{strings.Repeat("\n", impl.MateMaxLines), bad(impl.MateMaxLines)},
		{strings.Repeat("\n", impl.MateMaxLines+1), "too long\n"},
		{strings.Repeat("\n", impl.MateMaxLines-1) + "x", bad(impl.MateMaxLines)},
		{strings.Repeat("\n", impl.MateMaxLines) + "x", "too long\n"},
		{strings.Repeat("\n", impl.MateMaxSession+1), "too long\n"},
		{strings.Repeat("safe\n", impl.MateMaxLines), strings.Repeat("safe settled\n", impl.MateMaxLines)},
		{strings.Repeat("safe\n", impl.MateMaxLines-1) + "safe", strings.Repeat("safe settled\n", impl.MateMaxLines)},
		{strings.Repeat("safe\n", impl.MateMaxLines) + "safe", "too long\n"},
		{strings.Repeat("safe\n", impl.MateMaxLines) + "\n", "too long\n"},
		{strings.Repeat(strings.Repeat("x", 49)+"\n", impl.MateMaxLines), bad(impl.MateMaxLines)}, // both limits are met
		{strings.Repeat(strings.Repeat("x", 49)+"\n", impl.MateMaxLines) + "x", "too long\n"},
	} {
		if got := impl.MateSession(c.text); got != c.want {
			t.Errorf("%d bytes, %d newlines: answered %.60q, not %.60q", len(c.text), strings.Count(c.text, "\n"), got, c.want)
		}
	}
}
