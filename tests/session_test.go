package tests

import (
	"fmt"
	"strings"
	"testing"

	"loop.example/wharfmate/impl"
)

// talk sees that a session answers as told: in each row stand a line and its
// answer, with an arrow between. It gives the session's text.
func talk(t *testing.T, rows ...string) string {
	t.Helper()
	var text string
	var want []string
	for _, row := range rows {
		line, answer, there := strings.Cut(row, " -> ")
		if !there {
			t.Fatalf("no row: %q", row)
		}
		text += line + "\n"
		want = append(want, answer)
	}
	got := answersTo(text)
	if len(got) != len(want) {
		t.Fatalf("%d answers to %d lines: %q", len(got), len(want), got)
	}
	for i, answer := range got {
		if answer != want[i] {
			t.Errorf("line %d: %q: answered %q", i, rows[i], answer)
		}
	}
	return text
}

// answersTo are the answers to a text, one a line.
func answersTo(text string) []string {
	answers := strings.Split(impl.MateSession(text), "\n")
	return answers[:len(answers)-1]
}

func TestSessionExample(t *testing.T) {
	text := talk(t,
		"want a c1 1 vol 1 1 0 3 -> code 0",
		"calm 5 -> 0",
		"show a -> 10: c1.1 ready",
		"holds -> vol>a/c1<42",
		"drop a c1 -> code 0",
		"want b c1 2 vol 1 1 0 3 -> code 0",
		"calm 2 -> 0",
		"show a -> 14: c1.1 stopping",
		"show b -> 14: c1.2 pulling",
		"calm 8 -> 0",
		"show a -> 30:",
		"show b -> 30: c1.2 ready",
		"safe -> safe settled",
	)
	if got := impl.MateSession(text); !strings.HasSuffix(got, "\nsafe settled\n") {
		t.Errorf("the last answer has no newline, or more than one: %q", got)
	}
	if impl.MateSession(text) != impl.MateSession(strings.TrimSuffix(text, "\n")) {
		t.Error("a last line without its newline is answered in another way")
	}
}

func TestSessionWants(t *testing.T) {
	talk(t,
		"want a m 1 * 0 0 0 0 -> code 0",
		"want a z 2 * 0 0 0 0 -> code 0",
		"want a c 9999 v 0 0 0 0 -> code 0",
		"want b m 3 w 0 0 0 0 -> code 0",
		"calm 6 -> 0",
		"show a -> 12: c.9999 ready m.1 ready z.2 ready",
		"show b -> 12: m.3 ready",
		"holds -> v>a/c<42 w>b/m<42",
		"want a m 4 * 0 0 0 0 -> code 0", // instead of m.1
		"calm 6 -> 0",
		"show a -> 24: c.9999 ready m.4 ready z.2 ready",
		"show b -> 24: m.3 ready",
		"safe -> safe settled",
	)
}

// With a code the wants are what they were.
func TestSessionWantsOfAHold(t *testing.T) {
	talk(t,
		"want a x 1 v 0 0 0 0 -> code 0",
		"want b x 1 v 0 0 0 0 -> code 3",
		"want b y 1 v 0 0 0 0 -> code 3",
		"want a y 1 v 0 0 0 0 -> code 2", // two copies of one berth
		"want b x 1 w 0 0 0 0 -> code 0",
		"want a x 1 w 0 0 0 0 -> code 3",
		"calm 5 -> 0",
		"show a -> 10: x.1 ready",
		"show b -> 10: x.1 ready",
		"holds -> v>a/x<42 w>b/x<42",
		"want a x 2 v 0 0 0 0 -> code 0", // the Hold that it has
		"want a x 2 * 0 0 0 0 -> code 0",
		"want b x 1 v 0 0 0 0 -> code 0",
		"want a x 2 w 0 0 0 0 -> code 0",
		"calm 20 -> 0",
		"show a -> 50: x.2 ready",
		"show b -> 50: x.1 ready",
		"safe -> safe settled",
	)
}

func TestSessionTooManyWants(t *testing.T) {
	var rows []string
	for i := range impl.MateMaxWants {
		rows = append(rows, fmt.Sprintf("want b c%d 1 * 0 0 0 0 -> code 0", i))
	}
	talk(t, append(rows,
		"want b d 1 * 0 0 0 0 -> code 2",
		"want a d 1 * 0 0 0 0 -> code 0",
		"want b c4 2 * 0 0 0 0 -> code 0", // instead of one of them
		"drop b c9 -> code 0",
		"want b d 1 * 0 0 0 0 -> code 0",
		"calm 5 -> 0",
		"show b -> 10: c0.1 ready c1.1 ready c2.1 ready c3.1 ready c4.2 ready c5.1 ready c6.1 ready c7.1 ready c8.1 ready d.1 ready",
	)...)
}

func TestSessionWantsThatAreNotOk(t *testing.T) {
	long, longer := strings.Repeat("n", impl.MateMaxName), strings.Repeat("n", impl.MateMaxName+1)
	for _, c := range []struct{ want, answer string }{
		{long + " 1 * 0 0 0 0", "code 0"}, {longer + " 1 * 0 0 0 0", "code 2"},
		{"c 1 " + long + " 0 0 0 0", "code 0"}, {"c 1 " + longer + " 0 0 0 0", "code 2"},
		{"* 1 * 0 0 0 0", "code 0"}, {"c 1 ** 0 0 0 0", "code 0"}, {"0 1 0 0 0 0 0", "code 0"},
		{"! 1 ~ 0 0 0 0", "code 0"}, {"\x1f 1 * 0 0 0 0", "code 2"}, {"\x7f 1 * 0 0 0 0", "code 2"}, {"\x00 1 * 0 0 0 0", "code 2"},
		{"c\t 1 * 0 0 0 0", "code 2"}, {"c\r 1 * 0 0 0 0", "code 2"}, {"\xff 1 * 0 0 0 0", "code 2"}, {"é 1 * 0 0 0 0", "code 2"},
		{"c 1 \t 0 0 0 0", "code 2"}, {"c 1 v\x80 0 0 0 0", "code 2"},
		{"c 0 * 0 0 0 0", "code 2"}, {"c 9999 * 0 0 0 0", "code 0"},
		{"c 1 * 100 100 100 100", "code 0"}, {"c 1 * 101 0 0 0", "code 2"}, {"c 1 * 0 101 0 0", "code 2"},
		{"c 1 * 0 0 101 0", "code 2"}, {"c 1 * 0 0 0 101", "code 2"}, {"c 1 * 9999 9999 9999 9999", "code 2"},
	} {
		talk(t, "want b "+c.want+" -> "+c.answer)
		talk(t, "want b a 1 h 0 0 0 0 -> code 0", "want b "+c.want+" -> "+c.answer, "drop b a -> code 0")
	}
}

// Each number is of the part that the table says.
func TestSessionPartsOfAWant(t *testing.T) {
	rows := []string{"want a c 7 * 2 3 4 5 -> code 0", "calm 1 -> 0", "show a -> 2:"}
	clock := 2
	goOn := func(ticks int, state string) {
		for range ticks {
			clock += 2
			rows = append(rows, "calm 1 -> 0", fmt.Sprintf("show a -> %d: c.7 %s", clock, state))
		}
	}
	goOn(2, "pulling")
	goOn(3, "starting")
	goOn(4, "ready")
	goOn(2, "backoff")
	goOn(3, "starting")
	goOn(4, "ready")
	goOn(4, "backoff")
	goOn(3, "starting")
	rows = append(rows, "drop a c -> code 0")
	goOn(1, "ready")
	goOn(5, "stopping")
	talk(t, append(rows, "calm 1 -> 0", fmt.Sprintf("show a -> %d:", clock+2), "safe -> safe settled")...)
}

func TestSessionDrops(t *testing.T) {
	talk(t,
		"drop a c -> none",
		"want a c 1 * 0 0 0 0 -> code 0",
		"want a d 1 * 0 0 0 0 -> code 0",
		"drop b c -> none",
		"drop a cc -> none",
		"drop a * -> none",
		"drop a \xff\x00 -> none",
		"drop a a -> none",
		"calm 5 -> 0",
		"show a -> 10: c.1 ready d.1 ready",
		"drop a c -> code 0",
		"drop a c -> none",
		"calm 5 -> 0",
		"show a -> 20: d.1 ready",
		"drop a d -> code 0",
		"drop a d -> none",
		"calm 5 -> 0",
		"show a -> 30:",
		"safe -> safe settled",
	)
}

func TestSessionTicks(t *testing.T) {
	talk(t,
		"tick -> 2", "show a -> 2:", "show b -> 2:",
		"tick 1 4 -> 4", "show a -> 3:", "show b -> 6:",
		"tick 3 2 -> 6", "show a -> 6:", "show b -> 8:",
		"tick 0 5 -> 8", "show a -> 8:", "show b -> 10:", // rates out of bounds are 2
		"tick 9999 1 -> 10", "show a -> 10:", "show b -> 11:",
		"want b c 1 * 0 0 0 0 -> code 0",
		"tick 4 4 -> 13", "show a -> 14:", "show b -> 15:",
	)
}

// tellsA puts at place 0 of the flight what lets a run c, once it is brought.
var tellsA = []string{"want a c 1 * 9 0 0 0 -> code 0", "tick -> 3"}

func TestSessionBrings(t *testing.T) {
	talk(t, append(tellsA, "bring 3 -> 3", "bring 9999 -> 3", "bring 1 -> 2", "bring 1 -> 1", "tick -> 4", "show a -> 4:", "bring 0 -> 3", "tick -> 6", "show a -> 6: c.1 pulling")...)
	talk(t, append(tellsA, "bring 0 -> 2", "tick -> 5", "show a -> 4: c.1 pulling")...)
	talk(t, append(tellsA, "bring 0 -> 2", "bring 0 -> 1", "bring 0 -> 0", "bring 0 -> 0")...)
	talk(t, "bring 0 -> 0", "bring 1 -> 0")
}

func TestSessionDoubles(t *testing.T) {
	talk(t, append(tellsA, "double 3 -> 3", "double 0 -> 4", "lose 0 -> 3", "bring 0 -> 2", "bring 0 -> 1", "tick -> 4", "show a -> 4:", "bring 0 -> 3", "tick -> 6", "show a -> 6: c.1 pulling")...)
	talk(t, append(tellsA, "double 2 -> 4", "double 3 -> 5", "double 5 -> 5", "double 9999 -> 5")...)
	talk(t, "double 0 -> 0", "double 1 -> 0")
}

func TestSessionLosses(t *testing.T) {
	talk(t, append(tellsA, "lose 3 -> 3", "lose 0 -> 2", "bring 0 -> 1", "bring 0 -> 0", "tick -> 3", "show a -> 4:")...)
	talk(t, append(tellsA, "lose 2 -> 2", "lose 1 -> 1", "lose 1 -> 1", "lose 9999 -> 1", "bring 0 -> 0", "tick -> 3", "show a -> 4: c.1 pulling")...)
	talk(t, "lose 0 -> 0", "lose 1 -> 0")
}

func TestSessionAtAFlightThatIsFull(t *testing.T) {
	var rows []string
	for n := 2; n <= impl.MateMaxFlight; n += 2 {
		rows = append(rows, fmt.Sprint("tick -> ", n))
	}
	talk(t, append(rows, "tick -> 300", "double 0 -> 300", "bring 300 -> 300", "bring 299 -> 299", "tick -> 300", "lose 0 -> 299", "double 298 -> 300", "show a -> 304:", "calm 1 -> 0")...)
}

func TestSessionFallsAndRises(t *testing.T) {
	start := []string{"want a c 1 * 0 0 0 0 -> code 0", "want a d 2 v 0 0 0 0 -> code 0", "want a e 3 * 99 0 0 0 -> code 0", "want b c 1 * 0 0 0 0 -> code 0", "calm 6 -> 0", "show a -> 12: c.1 ready d.2 ready e.3 pulling"}
	talk(t, append(start,
		"fall a -> 0", "show a -> 12: down c.1 ready d.2 ready", "show b -> 12: c.1 ready", "fall a -> 0", "tick -> 3",
		"show a -> 14: down c.1 ready d.2 ready", "rise a -> 3", "show a -> 14: c.1 ready d.2 ready", "rise a -> 3",
		"show a -> 14: c.1 ready d.2 ready", "safe -> safe")...)
	talk(t, append(start,
		"crash a -> 0", "show a -> 12: down d.2 waiting", "show b -> 12: c.1 ready", "crash a -> 0", "show a -> 12: down",
		"rise a -> 0", "show a -> 12:", "safe -> safe")...)
	talk(t, append(start,
		"crash b -> 0", "show b -> 12: down", "show a -> 12: c.1 ready d.2 ready e.3 pulling", "rise a -> 0", "show b -> 12: down",
		"rise b -> 0", "calm 5 -> 0", "show b -> 22: c.1 ready")...)
	talk(t, append(start, "fall b -> 0", "show b -> 12: down c.1 ready", "fall a -> 0", "rise b -> 0", "show a -> 12: down c.1 ready d.2 ready")...)
	talk(t, "tick -> 2", "fall a -> 2", "rise b -> 2", "show a -> 2: down", "crash b -> 2", "rise a -> 2", "show b -> 2: down", "show a -> 2:")
}

func TestSessionCalm(t *testing.T) {
	talk(t,
		"calm 0 -> 0", "show a -> 0:", "tick -> 2", "calm 0 -> 2", "show a -> 2:", "calm 1 -> 0", "show a -> 4:", "show b -> 4:",
		"calm 200 -> 0", "show a -> 404:", "calm 201 -> no", "calm 9999 -> no", "calm 201 1 1 -> no", "show a -> 404:",
		"calm 2 1 4 -> 0", "show a -> 406:", "show b -> 412:", "calm 3 0 9999 -> 0", "show a -> 412:", "show b -> 418:",
		"calm 200 4 1 -> 0", "show a -> 1212:", "show b -> 618:", "calm 0 4 4 -> 0", "show a -> 1212:",
		"tick -> 2", "calm 201 -> no", "tick -> 4",
	)
}

func TestSessionShowsEachState(t *testing.T) {
	talk(t,
		"show a -> 0:",
		"want a b 1 * 0 0 2 0 -> code 0",
		"want a p 10 * 99 0 0 0 -> code 0",
		"want a r 200 * 0 0 0 0 -> code 0",
		"want a s 3000 * 0 99 0 0 -> code 0",
		"want a t 4 * 0 0 0 9 -> code 0",
		"want a w 5 v 0 0 0 0 -> code 0",
		"calm 4 -> 0",
		"show a -> 8: b.1 ready p.10 pulling r.200 ready s.3000 starting t.4 ready w.5 ready",
		"drop a t -> code 0",
		"crash a -> 0",
		"show a -> 8: down w.5 waiting",
		"rise a -> 0",
		"show a -> 8: w.5 waiting",
		"want a t 4 * 0 0 0 9 -> code 0",
		"calm 4 -> 0",
		"drop a t -> code 0",
		"calm 2 -> 0",
		"show a -> 20: b.1 backoff p.10 pulling r.200 ready s.3000 starting t.4 stopping w.5 ready",
		"fall a -> 0",
		"show a -> 20: down r.200 ready s.3000 starting t.4 stopping w.5 ready",
		"show b -> 20:",
	)
}

func TestSessionHolds(t *testing.T) {
	talk(t,
		"holds -> -",
		"want a c 1 * 0 0 0 0 -> code 0",
		"calm 3 -> 0",
		"holds -> -",
		"want b z 1 v 0 0 0 0 -> code 0",
		"calm 3 -> 0",
		"holds -> v>b/z<42",
		"want a d 1 w 0 0 0 0 -> code 0",
		"want a e 1 u 0 0 0 0 -> code 0",
		"calm 3 -> 0",
		"holds -> u>a/e<48 v>b/z<48 w>a/d<48",
		"crash a -> 0",
		"drop b z -> code 0",
		"calm 5 -> 0",
		"holds -> u>a/e<48 w>a/d<48",
		"calm 200 -> 0", // what is over is still in the book
		"holds -> u>a/e<48 w>a/d<48",
	)
}

func TestSessionSafe(t *testing.T) {
	talk(t,
		"safe -> safe settled",
		"want a c 1 v 0 0 0 0 -> code 0",
		"safe -> safe",
		"calm 5 -> 0",
		"safe -> safe settled",
		"fall b -> 0",
		"safe -> safe",
		"rise b -> 0",
		"safe -> safe settled",
	)
}

// The README's case to avoid: no other way to this answer is known.
func TestSessionNotSafe(t *testing.T) {
	talk(t,
		"want a x 1 v 0 0 0 100 -> code 0",
		"calm 5 -> 0",
		"drop a x -> code 0",
		"want a y 1 v 0 0 0 0 -> code 0",
		"calm 2 -> 0",
		"drop a y -> code 0",
		"want b z 1 v 0 0 0 0 -> code 0",
		"calm 3 -> 0",
		"show a -> 20: x.1 stopping",
		"show b -> 20: z.1 starting",
		"holds -> v>b/z<50",
		"safe -> not safe",
		"calm 2 -> 0",
		"safe -> safe settled",
	)
}
