package tests

import (
	"fmt"
	"math"
	"slices"
	"testing"

	"loop.example/wharfmate/impl"
)

// tickTo sees that a tick of m leads to the mate and the parcels that are
// wanted, and that the mate is valid.
func tickTo(t *testing.T, m impl.Mate, rate int, want impl.Mate, parcels ...impl.MateParcel) {
	t.Helper()
	got, sent := impl.MateTick(m, rate)
	if !same(got, want) {
		t.Errorf("a tick of %d leads to\n%+v, not\n%+v", rate, got, want)
	}
	if !same(sent, parcels) {
		t.Errorf("a tick of %d sends\n%+v, not\n%+v", rate, sent, parcels)
	}
	if !impl.MateValid(got) {
		t.Errorf("a tick of %d leads to %+v, which is not valid", rate, got)
	}
	haveForms(t, sent)
}

func asked(hold, copy string, at int) impl.MateParcel {
	return impl.MateParcel{Kind: impl.MateAsked, Berth: "a", Hold: hold, Copy: copy, At: at}
}

func back(hold, copy string, at int) impl.MateParcel {
	return impl.MateParcel{Kind: impl.MateBack, Berth: "a", Hold: hold, Copy: copy, At: at}
}

func here(seen int) impl.MateParcel {
	return impl.MateParcel{Kind: impl.MateHere, Berth: "a", Seen: seen}
}

// A tick in which there is something of each step to do.
func TestTickOfABusyMate(t *testing.T) {
	m := busyMate()
	want := busyMate()
	want.Clock = 52
	want.Runs[0].Left = 2
	want.Runs[1].Left = 1
	want.Runs[3].Left = 1
	want.Asks[0].At = 52
	tickTo(t, m, 2, want, asked("h", "c", 52), back("b", "q", 26), back("w", "q", 9), here(7))
	want.Clock = 51
	want.Asks[0].At = 46
	tickTo(t, m, 1, want, back("b", "q", 26), back("w", "q", 9), here(7))
	m.Runs[3].Left = 1
	want.Runs = want.Runs[:3]
	want.Asks = want.Asks[:2]
	want.Gives = append(want.Gives, m.Asks[2])
	tickTo(t, m, 1, want, back("b", "q", 26), back("w", "q", 9), back("z", "x", 44), here(7))
}

func TestTickOfAQuietMate(t *testing.T) {
	for rate := 1; rate <= 4; rate++ {
		m := quietMate()
		want := m
		want.Clock += rate
		tickTo(t, m, rate, want, here(0))
		m.Seen, want.Seen = 3, 3
		tickTo(t, m, rate, want, here(3))
		m.Known, want.Known = true, true
		tickTo(t, m, rate, want, here(3))
		m.Name, want.Name = "berth", "berth"
		tickTo(t, m, rate, want, impl.MateParcel{Kind: impl.MateHere, Berth: "berth", Seen: 3})
	}
}

func TestTickOfAWrongRate(t *testing.T) {
	last := quietMate()
	last.Clock = impl.MateMaxClock
	for _, m := range []impl.Mate{quietMate(), busyMate(), downMate(), deafMate(), last} {
		for _, rate := range []int{math.MinInt, -1, 0, 5, 6, math.MaxInt} {
			tickTo(t, m, rate, m)
		}
	}
}

// One that is down does nothing; its machine's clock and watchdog go on.
func TestTickOfAMateThatIsDown(t *testing.T) {
	for rate := 1; rate <= 4; rate++ {
		for _, clock := range []int{50, 53, 56, 58} {
			m := downMate()
			m.Clock = clock
			m.Runs = impl.MateWatchdog(m.Runs, clock)
			want := m
			want.Clock += rate
			want.Runs = impl.MateWatchdog(m.Runs, clock+rate)
			tickTo(t, m, rate, want)
		}
	}
}

// One that has not heard what is wanted lets its runs be, and still gives back
// what it was to give back.
func TestTickOfAMateThatKnowsNothing(t *testing.T) {
	for rate := 1; rate <= 4; rate++ {
		m := busyMate()
		m.Known, m.Wants, m.Clock = false, nil, 55
		m.Runs = impl.MateWatchdog(m.Runs, m.Clock)
		want := m
		want.Clock += rate
		want.Runs = impl.MateWatchdog(m.Runs, want.Clock)
		tickTo(t, m, rate, want, back("b", "q", 26), back("w", "q", 9), here(7))
	}
}

// manyRuns gives runs of copies in each State, with a Hold and without, that
// are ok at the clock 50, with Until as it is told.
func manyRuns(until int) []impl.MateRun {
	var list []impl.MateRun
	for i, state := range states {
		for j, hold := range []string{"", fmt.Sprint("h", i)} {
			w := impl.MateWant{Copy: fmt.Sprintf("r%d%d", i, j), Version: 1, Hold: hold, Pull: 2, Start: 2, Dies: 3, Grace: 2}
			r := impl.MateRun{Want: w, State: state, Left: 1, Falls: i}
			if state == impl.MateWaiting {
				r.Left = 0
			}
			if hold != "" {
				r.Until = until
			}
			list = append(list, r)
		}
	}
	return list
}

// someWants are the wants of the runs from place n on, in turn as they are, in
// another version, or none.
func someWants(list []impl.MateRun, n int) []impl.MateWant {
	var out []impl.MateWant
	for i, r := range list {
		w := r.Want
		switch (i + n) % 3 {
		case 0:
			out = append(out, w)
		case 1:
			w.Version = 2
			out = append(out, w)
		}
	}
	return out
}

// Each run has the watchdog's look and then its tick, with the want of its Copy.
func TestEachRunHasItsTick(t *testing.T) {
	for rate := 1; rate <= 4; rate++ {
		for _, until := range []int{54, 54 + rate - 1, 54 + rate, 54 + rate + 1, 70} {
			for n := range 3 {
				m := impl.Mate{Name: "a", Up: true, Clock: 50, Known: true, Seen: 1, Runs: manyRuns(until)}
				m.Wants = someWants(m.Runs, n)
				got, _ := impl.MateTick(m, rate)
				if want := tickedRuns(m, rate); !slices.Equal(got.Runs, want) {
					t.Errorf("rate %d, until %d:\n%+v, not\n%+v", rate, until, got.Runs, want)
				}
			}
		}
	}
}

// tickedRuns are the runs behind a tick, by what MateWatchdog and MateLive say.
func tickedRuns(m impl.Mate, rate int) []impl.MateRun {
	var out []impl.MateRun
	for _, r := range impl.MateWatchdog(m.Runs, m.Clock+rate) {
		i := slices.IndexFunc(m.Wants, func(w impl.MateWant) bool { return w.Copy == r.Want.Copy })
		w := impl.MateWant{}
		if i >= 0 {
			w = m.Wants[i]
		}
		next, there := impl.MateLive(r, w, i >= 0, m.Clock+rate)
		if there {
			out = append(out, next)
		} else if i >= 0 {
			out = append(out, impl.MateRun{Want: w, State: impl.MatePulling, Left: w.Pull})
		}
	}
	return out
}

// pulled is a run as it is put there for a want.
func pulled(w impl.MateWant) impl.MateRun {
	return impl.MateRun{Want: w, State: impl.MatePulling, Left: w.Pull}
}

func TestWantedCopiesArePulled(t *testing.T) {
	for _, pull := range []int{0, 1, impl.MateMaxTicks} {
		m := quietMate()
		m.Known, m.Seen, m.Wants = true, 1, wantsOf(3)
		want := m
		want.Clock = 51
		for i := range m.Wants {
			m.Wants[i].Hold, m.Wants[i].Pull, m.Wants[i].Start = "", pull, 9
			want.Runs = append(want.Runs, pulled(m.Wants[i]))
		}
		tickTo(t, m, 1, want, here(1))
		m.Runs = []impl.MateRun{{Want: m.Wants[1], State: impl.MateReady}}
		want.Runs = []impl.MateRun{pulled(m.Wants[0]), m.Runs[0], pulled(m.Wants[2])}
		tickTo(t, m, 1, want, here(1))
	}
}

// stoppers gives n runs that stop, of copies behind all others, without a Hold.
func stoppers(n int) []impl.MateRun {
	var list []impl.MateRun
	for i := range n {
		w := impl.MateWant{Copy: fmt.Sprintf("z%02d", i), Version: 1, Grace: 50}
		list = append(list, impl.MateRun{Want: w, State: impl.MateStopping, Left: 50})
	}
	return list
}

func TestNoMoreRunsThanTwiceTheWants(t *testing.T) {
	for n := 0; n <= 2*impl.MateMaxWants; n++ {
		m := quietMate()
		m.Known, m.Seen, m.Wants, m.Runs = true, 1, wantsOf(impl.MateMaxWants), stoppers(n)
		got, _ := impl.MateTick(m, 1)
		room := min(impl.MateMaxWants, 2*impl.MateMaxWants-n)
		var want []impl.MateRun
		for _, w := range m.Wants[:room] {
			want = append(want, pulled(w))
		}
		for _, r := range m.Runs {
			r.Left = 49
			want = append(want, r)
		}
		if !slices.Equal(got.Runs, want) || !impl.MateValid(got) {
			t.Errorf("with %d runs there are %+v", n, got.Runs)
		}
	}
}

// What goes makes room within the same tick, also for its own Copy.
func TestRoomOfWhatIsGone(t *testing.T) {
	m := quietMate()
	m.Known, m.Seen, m.Runs = true, 1, stoppers(2*impl.MateMaxWants)
	m.Wants = []impl.MateWant{{Copy: "a", Version: 1}, {Copy: "b", Version: 1}, m.Runs[7].Want, m.Runs[8].Want}
	m.Runs[7].Left = 1
	m.Runs[9].Left = 0
	got, _ := impl.MateTick(m, 4)
	var copies []string
	for _, r := range got.Runs {
		if r.State == impl.MatePulling {
			copies = append(copies, r.Want.Copy)
		}
	}
	if !slices.Equal(copies, []string{"a", "b"}) || len(got.Runs) != 2*impl.MateMaxWants || !impl.MateValid(got) {
		t.Errorf("pulled are %v of %d", copies, len(got.Runs))
	}
	m.Wants = m.Wants[2:]
	got, _ = impl.MateTick(m, 4)
	if got.Runs[7] != pulled(m.Wants[0]) || got.Runs[8].Left != 49 || len(got.Runs) != 2*impl.MateMaxWants-1 {
		t.Errorf("%+v", got.Runs)
	}
}

// goner is a run that is gone at its next tick, if nothing is wanted.
func goner(copy, hold string) impl.MateRun {
	return impl.MateRun{Want: impl.MateWant{Copy: copy, Version: 1, Hold: hold}, State: impl.MateWaiting}
}

func TestHoldsOfWhatIsGoneAreGivenBack(t *testing.T) {
	i, j, k := impl.MateAsk{Hold: "i", Copy: "c", First: 10, At: 20}, impl.MateAsk{Hold: "j", Copy: "d", First: 50, At: 50}, impl.MateAsk{Hold: "k", Copy: "e", First: 0, At: 0}
	for name, c := range map[string]struct {
		runs                   []impl.MateRun
		asks, gives            []impl.MateAsk
		asksBehind, givesAfter []impl.MateAsk
	}{
		"no run":                    {nil, []impl.MateAsk{i, k}, []impl.MateAsk{j}, []impl.MateAsk{i, k}, []impl.MateAsk{j}},
		"ahead of the gives":        {[]impl.MateRun{goner("c", "i")}, []impl.MateAsk{i, k}, []impl.MateAsk{j}, []impl.MateAsk{k}, []impl.MateAsk{i, j}},
		"among the gives":           {[]impl.MateRun{goner("d", "j")}, []impl.MateAsk{j}, []impl.MateAsk{i, k}, nil, []impl.MateAsk{i, j, k}},
		"behind the gives":          {[]impl.MateRun{goner("e", "k")}, []impl.MateAsk{i, k}, []impl.MateAsk{j}, []impl.MateAsk{i}, []impl.MateAsk{j, k}},
		"all at once":               {[]impl.MateRun{goner("c", "i"), goner("d", "j"), goner("e", "k")}, []impl.MateAsk{i, j, k}, nil, nil, []impl.MateAsk{i, j, k}},
		"asked for by another copy": {[]impl.MateRun{goner("x", "i")}, []impl.MateAsk{i, k}, []impl.MateAsk{j}, []impl.MateAsk{k}, []impl.MateAsk{i, j}},
		"two runs of one hold":      {[]impl.MateRun{goner("c", "i"), goner("d", "i")}, []impl.MateAsk{i, k}, nil, []impl.MateAsk{k}, []impl.MateAsk{i}},
		"never asked for":           {[]impl.MateRun{goner("c", "x")}, []impl.MateAsk{i, k}, nil, []impl.MateAsk{i, k}, nil},
		"given back already":        {[]impl.MateRun{goner("d", "j")}, []impl.MateAsk{i, k}, []impl.MateAsk{j}, []impl.MateAsk{i, k}, []impl.MateAsk{j}},
		"without a hold":            {[]impl.MateRun{goner("c", "")}, []impl.MateAsk{i, k}, []impl.MateAsk{j}, []impl.MateAsk{i, k}, []impl.MateAsk{j}},
	} {
		m := impl.Mate{Name: "a", Up: true, Clock: 50, Known: true, Seen: 4, Runs: c.runs, Asks: c.asks, Gives: c.gives}
		want := impl.Mate{Name: "a", Up: true, Clock: 53, Known: true, Seen: 4, Asks: c.asksBehind, Gives: c.givesAfter}
		var parcels []impl.MateParcel
		for _, g := range c.givesAfter {
			parcels = append(parcels, back(g.Hold, g.Copy, g.At))
		}
		t.Run(name, func(t *testing.T) { tickTo(t, m, 3, want, append(parcels, here(4))...) })
	}
}

// What lives is gone only at its end, and its ask stays until then.
func TestHoldsOfWhatStopsAreKept(t *testing.T) {
	r := goner("c", "i")
	r.State, r.Until, r.Want.Grace = impl.MateReady, 90, 2
	ask := impl.MateAsk{Hold: "i", Copy: "c", First: 10, At: 20}
	m := impl.Mate{Name: "a", Up: true, Clock: 50, Known: true, Seen: 4, Runs: []impl.MateRun{r}, Asks: []impl.MateAsk{ask}}
	for _, left := range []int{2, 1} {
		want := m
		want.Clock++
		want.Runs = []impl.MateRun{{Want: r.Want, State: impl.MateStopping, Left: left, Until: 90}}
		tickTo(t, m, 1, want, here(4))
		m = want
	}
	m.Runs[0].Left = 1
	tickTo(t, m, 1, impl.Mate{Name: "a", Up: true, Clock: 53, Known: true, Seen: 4, Gives: []impl.MateAsk{ask}}, back("i", "c", 20), here(4))
}

// With the gives at their most an ask is forgotten; what room there is goes to
// the first runs, not to the first holds.
func TestGivesAtTheirMost(t *testing.T) {
	runs := []impl.MateRun{goner("c", "y"), goner("d", "x"), goner("e", "w")}
	asks := []impl.MateAsk{{Hold: "w", Copy: "e"}, {Hold: "x", Copy: "d", At: 7}, {Hold: "y", Copy: "c", First: 3, At: 8}}
	for room, want := range [][]impl.MateAsk{nil, asks[2:], asks[1:], asks} {
		full := asksOf(impl.MateMaxHolds-room, "i")
		m := impl.Mate{Name: "a", Up: true, Clock: 50, Known: true, Seen: 4, Runs: runs, Asks: asks, Gives: full}
		got, sent := impl.MateTick(m, 1)
		if len(got.Asks) != 0 || !slices.Equal(got.Gives, append(slices.Clone(full), want...)) {
			t.Errorf("room for %d: asks %+v, gives %+v", room, got.Asks, got.Gives)
		}
		if len(sent) != impl.MateMaxHolds+1-room+len(want) || !impl.MateValid(got) {
			t.Errorf("room for %d: %d are sent", room, len(sent))
		}
	}
}

// askCases are mates of one run with the hold i, of the copy c, at the clock 49
// that goes on to 50; each with the ask for i behind it and whether it is asked.
var askCases = map[string]struct {
	ask, give *impl.MateAsk
	after     impl.MateAsk
	asked     bool
}{
	"asked for the first time":       {nil, nil, impl.MateAsk{Hold: "i", Copy: "c", First: 50, At: 50}, true},
	"asked for by another copy":      {&impl.MateAsk{Hold: "i", Copy: "d", First: 3, At: 49}, nil, impl.MateAsk{Hold: "i", Copy: "c", First: 50, At: 50}, true},
	"asked for by another, long ago": {&impl.MateAsk{Hold: "i", Copy: "d", First: 3, At: 4}, nil, impl.MateAsk{Hold: "i", Copy: "c", First: 50, At: 50}, true},
	"to be asked for anew just now":  {&impl.MateAsk{Hold: "i", Copy: "c", First: 3, At: 44}, nil, impl.MateAsk{Hold: "i", Copy: "c", First: 3, At: 50}, true},
	"to be asked for anew long ago":  {&impl.MateAsk{Hold: "i", Copy: "c", First: 0, At: 0}, nil, impl.MateAsk{Hold: "i", Copy: "c", First: 0, At: 50}, true},
	"one before it is due":           {&impl.MateAsk{Hold: "i", Copy: "c", First: 3, At: 45}, nil, impl.MateAsk{Hold: "i", Copy: "c", First: 3, At: 45}, false},
	"just asked for":                 {&impl.MateAsk{Hold: "i", Copy: "c", First: 49, At: 49}, nil, impl.MateAsk{Hold: "i", Copy: "c", First: 49, At: 49}, false},
	"being given back":               {nil, &impl.MateAsk{Hold: "i", Copy: "c", First: 3, At: 4}, impl.MateAsk{}, false},
	"given back by another copy":     {nil, &impl.MateAsk{Hold: "i", Copy: "d", First: 3, At: 49}, impl.MateAsk{}, false},
}

func TestWhenAHoldIsAskedFor(t *testing.T) {
	w := impl.MateWant{Copy: "c", Version: 1, Hold: "i", Dies: 9, Grace: 9}
	other := impl.MateAsk{Hold: "h", Copy: "b", First: 20, At: 30}
	for name, c := range askCases {
		for _, state := range states {
			m := impl.Mate{Name: "a", Up: true, Clock: 49, Known: true, Seen: 4, Wants: []impl.MateWant{w}, Asks: []impl.MateAsk{other}}
			m.Runs = []impl.MateRun{{Want: w, State: state, Until: 70}}
			if state == impl.MateStopping {
				m.Runs[0].Left = 9
			}
			if c.ask != nil {
				m.Asks = append(m.Asks, *c.ask)
			}
			want := m
			want.Clock = 50
			want.Runs = tickedRuns(m, 1)
			want.Asks = []impl.MateAsk{other}
			if c.after.Hold != "" {
				want.Asks = append(want.Asks, c.after)
			}
			var parcels []impl.MateParcel
			if c.asked {
				parcels = append(parcels, asked("i", "c", 50))
			}
			if c.give != nil {
				m.Gives = []impl.MateAsk{*c.give}
				want.Gives = m.Gives
				parcels = append(parcels, back("i", c.give.Copy, c.give.At))
			}
			t.Run(fmt.Sprint(name, state), func(t *testing.T) { tickTo(t, m, 1, want, append(parcels, here(4))...) })
		}
	}
}

// A run asks only as long as its Want is wanted, and only for a Hold.
func TestWhatIsNotWantedSoAsksForNothing(t *testing.T) {
	w := impl.MateWant{Copy: "c", Version: 1, Hold: "i", Grace: 9}
	lists := [][]impl.MateWant{nil}
	for _, o := range otherWants(w) {
		if o.Copy == w.Copy {
			lists = append(lists, []impl.MateWant{o})
		}
	}
	for _, list := range lists {
		m := impl.Mate{Name: "a", Up: true, Clock: 49, Known: true, Seen: 4, Wants: list}
		m.Runs = []impl.MateRun{{Want: w, State: impl.MateReady, Until: 70}}
		want := m
		want.Clock = 50
		want.Runs = []impl.MateRun{{Want: w, State: impl.MateStopping, Left: 9, Until: 70}}
		tickTo(t, m, 1, want, here(4))
	}
	w.Hold = ""
	m := impl.Mate{Name: "a", Up: true, Clock: 49, Known: true, Seen: 4, Wants: []impl.MateWant{w}}
	m.Runs = []impl.MateRun{{Want: w, State: impl.MateReady}}
	want := m
	want.Clock = 50
	tickTo(t, m, 1, want, here(4))
}

// What is pulled anew asks in the tick in which it is put there.
func TestAskOfWhatIsPulledAnew(t *testing.T) {
	w := impl.MateWant{Copy: "c", Version: 1, Hold: "i"}
	m := impl.Mate{Name: "a", Up: true, Clock: 49, Known: true, Seen: 4, Wants: []impl.MateWant{w}}
	want := m
	want.Clock = 50
	want.Runs = []impl.MateRun{pulled(w)}
	want.Asks = []impl.MateAsk{{Hold: "i", Copy: "c", First: 50, At: 50}}
	tickTo(t, m, 1, want, asked("i", "c", 50), here(4))
	// A hold that has just been let go is given back first.
	old := w
	old.Version = 2
	m.Runs = []impl.MateRun{{Want: old, State: impl.MateWaiting}}
	m.Asks = []impl.MateAsk{{Hold: "i", Copy: "c", First: 2, At: 3}}
	want.Asks, want.Gives = nil, m.Asks
	tickTo(t, m, 1, want, back("i", "c", 3), here(4))
}

// Asks are sent in the order of the runs, and stand in that of their holds.
func TestOrderOfWhatIsSent(t *testing.T) {
	wants := []impl.MateWant{{Copy: "a", Version: 1, Hold: "z"}, {Copy: "b", Version: 1}, {Copy: "c", Version: 1, Hold: "x"}, {Copy: "d", Version: 1, Hold: "y"}}
	m := impl.Mate{Name: "a", Up: true, Clock: 49, Known: true, Seen: 4, Wants: wants, Gives: []impl.MateAsk{{Hold: "a", Copy: "z", At: 3}, {Hold: "zz", Copy: "a", At: 2}}}
	want := m
	want.Clock = 50
	for _, w := range wants {
		want.Runs = append(want.Runs, pulled(w))
	}
	want.Asks = []impl.MateAsk{{Hold: "x", Copy: "c", First: 50, At: 50}, {Hold: "y", Copy: "d", First: 50, At: 50}, {Hold: "z", Copy: "a", First: 50, At: 50}}
	tickTo(t, m, 1, want, asked("z", "a", 50), asked("x", "c", 50), asked("y", "d", 50), back("a", "z", 3), back("zz", "a", 2), here(4))
}

// With the asks at their most, those that are there are asked anew or for
// another copy; a further one is asked for, but not remembered.
func TestAsksAtTheirMost(t *testing.T) {
	for room := range 3 {
		asks := asksOf(impl.MateMaxHolds-room, "i")
		asks[5].Copy = "b"
		asks[6].Copy = "nobody"
		wants := []impl.MateWant{{Copy: "b", Version: 1, Hold: "i05"}, {Copy: "c", Version: 1, Hold: "i06"}, {Copy: "d", Version: 1, Hold: "x"}, {Copy: "e", Version: 1, Hold: "a"}}
		m := impl.Mate{Name: "a", Up: true, Clock: 49, Known: true, Seen: 4, Wants: wants, Asks: asks}
		want := m
		want.Clock = 50
		for _, w := range wants {
			want.Runs = append(want.Runs, pulled(w))
		}
		want.Asks = slices.Clone(asks)
		want.Asks[5].At = 50
		want.Asks[6] = impl.MateAsk{Hold: "i06", Copy: "c", First: 50, At: 50}
		if room > 0 {
			want.Asks = append(want.Asks, impl.MateAsk{Hold: "x", Copy: "d", First: 50, At: 50})
		}
		if room > 1 {
			want.Asks = slices.Insert(want.Asks, 0, impl.MateAsk{Hold: "a", Copy: "e", First: 50, At: 50})
		}
		tickTo(t, m, 1, want, asked("i05", "b", 50), asked("i06", "c", 50), asked("x", "d", 50), asked("a", "e", 50), here(4))
	}
}

// At the end of its clock the machine ends; where a tick just meets the end it
// goes on as ever.
func TestEndOfTheClock(t *testing.T) {
	for rate := 1; rate <= 4; rate++ {
		for _, m := range matesNearTheEnd(rate) {
			if !impl.MateValid(m) {
				t.Fatalf("not valid: %+v", m)
			}
			got, sent := impl.MateTick(m, rate)
			if got.Clock != impl.MateMaxClock || got.Up != m.Up || m.Up && (len(sent) == 0 || sent[len(sent)-1].Kind != impl.MateHere) {
				t.Errorf("a tick of %d that just meets the end: %+v, sent %+v", rate, got, sent)
			}
			for over := 1; over <= rate; over++ {
				late := m
				late.Clock += over
				late.Runs = impl.MateWatchdog(m.Runs, late.Clock)
				want := impl.MateFall(late, true)
				want.Clock = impl.MateMaxClock
				tickTo(t, late, rate, want)
			}
		}
	}
}

// matesNearTheEnd are mates whose clock just meets the end by a tick of rate,
// some of their runs having a lease that is over by then.
func matesNearTheEnd(rate int) []impl.Mate {
	clock := impl.MateMaxClock - rate
	var list []impl.Mate
	for _, until := range []int{clock + 4, impl.MateMaxClock + 3, impl.MateMaxClock + 4, impl.MateMaxClock + impl.MateLease} {
		m := impl.Mate{Name: "a", Up: true, Clock: clock, Known: true, Seen: 1, Runs: manyRuns(until), Gives: asksOf(3, "g"), Asks: asksOf(3, "i")}
		m.Wants = someWants(m.Runs, 0)
		down := impl.MateFall(m, false)
		list = append(list, m, down, impl.MateFall(m, true), impl.MateRise(down), impl.Mate{Name: "a", Up: true, Clock: clock})
	}
	return list
}
