package tests

import (
	"math"
	"slices"
	"strings"
	"testing"

	"loop.example/wharfmate/impl"
)

func TestOrdinaryMatesAreValid(t *testing.T) {
	for i, m := range []impl.Mate{quietMate(), busyMate(), downMate(), deafMate(), {Name: "a"}, {Name: "*", Up: true}} {
		if !impl.MateValid(m) {
			t.Errorf("mate %d is not valid: %+v", i, m)
		}
	}
	if impl.MateValid(impl.Mate{}) {
		t.Error("nothing is a valid mate")
	}
}

// What may be met exactly, and what no condition bars.
func TestValidAtTheLimits(t *testing.T) {
	for name, change := range map[string]func(m *impl.Mate){
		"Name of most bytes":   func(m *impl.Mate) { m.Name = strings.Repeat("~", impl.MateMaxName) },
		"Seen 0":               func(m *impl.Mate) { m.Seen = 0 },
		"Seen at its most":     func(m *impl.Mate) { m.Seen = impl.MateMaxVersion },
		"most wants":           func(m *impl.Mate) { m.Wants = wantsOf(impl.MateMaxWants) },
		"no wants":             func(m *impl.Mate) { m.Wants = nil },
		"most runs":            func(m *impl.Mate) { m.Runs = runsOf(2 * impl.MateMaxWants) },
		"no runs":              func(m *impl.Mate) { m.Runs = []impl.MateRun{} },
		"Until just enough":    func(m *impl.Mate) { m.Runs[0].Until = 54 },
		"most asks":            func(m *impl.Mate) { m.Asks = asksOf(impl.MateMaxHolds, "i") },
		"most gives":           func(m *impl.Mate) { m.Gives = asksOf(impl.MateMaxHolds, "i") },
		"most asks and gives":  func(m *impl.Mate) { m.Asks, m.Gives = asksOf(impl.MateMaxHolds, "i"), asksOf(impl.MateMaxHolds, "g") },
		"an ask of old":        func(m *impl.Mate) { m.Asks[0].First, m.Asks[0].At = 0, 0 },
		"an ask of now":        func(m *impl.Mate) { m.Asks[0].First, m.Asks[0].At = 50, 50 },
		"a give of old":        func(m *impl.Mate) { m.Gives[0].First, m.Gives[0].At = 0, 0 },
		"a give of now":        func(m *impl.Mate) { m.Gives[0].First, m.Gives[0].At = 50, 50 },
		"an ask of the copy *": func(m *impl.Mate) { m.Asks[0].Copy = "*" },
		"a give of the copy *": func(m *impl.Mate) { m.Gives[0].Copy = "*" },
		"an ask of no run":     func(m *impl.Mate) { m.Asks[0].Copy = "nobody" },
		"asks in order of bytes": func(m *impl.Mate) {
			m.Asks = []impl.MateAsk{{Hold: "B", Copy: "c"}, {Hold: "a", Copy: "c"}, {Hold: "ab", Copy: "c"}}
		},
		"not known, with asks": func(m *impl.Mate) { m.Known, m.Wants = false, nil },
	} {
		m := busyMate()
		change(&m)
		if !impl.MateValid(m) {
			t.Errorf("%s: not valid: %+v", name, m)
		}
	}
	for _, clock := range []int{0, 1, impl.MateMaxClock - 1, impl.MateMaxClock} {
		for _, up := range []bool{true, false} {
			if !impl.MateValid(impl.Mate{Name: "a", Up: up, Clock: clock}) {
				t.Errorf("Clock %d, Up %v: not valid", clock, up)
			}
		}
	}
}

// spoiled gives mates that are not valid, each by one condition alone.
func spoiled() map[string]impl.Mate {
	out := map[string]impl.Mate{}
	add := func(name string, m impl.Mate, change func(m *impl.Mate)) {
		change(&m)
		out[name] = m
	}
	for _, c := range names {
		if !c.name {
			add("Name "+c.text, busyMate(), func(m *impl.Mate) { m.Name = c.text })
		}
	}
	for name, n := range map[string]int{"far below": math.MinInt, "below": -1, "above": impl.MateMaxClock + 1, "far above": math.MaxInt} {
		add("Clock "+name, quietMate(), func(m *impl.Mate) { m.Clock = n })
		add("Clock of one down "+name, impl.Mate{Name: "a"}, func(m *impl.Mate) { m.Clock = n })
	}
	for name, n := range map[string]int{"far below": math.MinInt, "below": -1, "above": impl.MateMaxVersion + 1, "far above": math.MaxInt} {
		add("Seen "+name, busyMate(), func(m *impl.Mate) { m.Seen = n })
	}
	spoilLists(add)
	for _, asks := range []struct {
		name string
		of   func(m *impl.Mate) *[]impl.MateAsk
	}{
		{"Asks", func(m *impl.Mate) *[]impl.MateAsk { return &m.Asks }},
		{"Gives", func(m *impl.Mate) *[]impl.MateAsk { return &m.Gives }},
	} {
		for name, change := range spoilAsks() {
			add(asks.name+" "+name, busyMate(), func(m *impl.Mate) { change(asks.of(m)) })
		}
	}
	spoilDown(add)
	return out
}

func spoilLists(add func(name string, m impl.Mate, change func(m *impl.Mate))) {
	add("too many wants", busyMate(), func(m *impl.Mate) { m.Wants = wantsOf(impl.MateMaxWants + 1) })
	add("wants not in order", busyMate(), func(m *impl.Mate) { slices.Reverse(m.Wants) })
	add("wants of one hold", busyMate(), func(m *impl.Mate) { m.Wants[2].Hold = "h" })
	add("a want that is none", busyMate(), func(m *impl.Mate) { m.Wants[1].Version = 0 })
	add("wants, but not known", busyMate(), func(m *impl.Mate) { m.Known = false })
	add("one want, but not known", quietMate(), func(m *impl.Mate) { m.Wants = wantsOf(1) })
	add("too many runs", busyMate(), func(m *impl.Mate) { m.Runs = runsOf(2*impl.MateMaxWants + 1) })
	add("runs not in order", busyMate(), func(m *impl.Mate) { slices.Reverse(m.Runs) })
	add("a run in no state", busyMate(), func(m *impl.Mate) { m.Runs[1].State = 0 })
	add("a run without a lease", busyMate(), func(m *impl.Mate) { m.Runs[0].Until = 53 })
	add("a run whose lease is over by now", busyMate(), func(m *impl.Mate) { m.Clock = 59 })
	add("one hold in both first", busyMate(), func(m *impl.Mate) { m.Gives[0].Hold = "h" })
	add("one hold in both last", busyMate(), func(m *impl.Mate) { m.Gives[1].Hold = "z" })
	add("one hold in both at their most", busyMate(), func(m *impl.Mate) {
		m.Asks, m.Gives = asksOf(impl.MateMaxHolds, "i"), asksOf(impl.MateMaxHolds, "i")[20:21]
	})
}

func spoilAsks() map[string]func(list *[]impl.MateAsk) {
	out := map[string]func(list *[]impl.MateAsk){
		"too many":              func(list *[]impl.MateAsk) { *list = asksOf(impl.MateMaxHolds+1, "i") },
		"far too many":          func(list *[]impl.MateAsk) { *list = asksOf(100, "i") },
		"not in order":          func(list *[]impl.MateAsk) { slices.Reverse(*list) },
		"of one hold":           func(list *[]impl.MateAsk) { (*list)[1] = (*list)[0] },
		"of no hold":            func(list *[]impl.MateAsk) { (*list)[0].Hold = "" },
		"of the hold *":         func(list *[]impl.MateAsk) { (*list)[0].Hold = "*" },
		"of a hold of space":    func(list *[]impl.MateAsk) { (*list)[0].Hold = "a b" },
		"of a long hold":        func(list *[]impl.MateAsk) { (*list)[0].Hold = strings.Repeat("a", impl.MateMaxName+1) },
		"of no copy":            func(list *[]impl.MateAsk) { (*list)[0].Copy = "" },
		"of a copy of space":    func(list *[]impl.MateAsk) { (*list)[0].Copy = "a b" },
		"of a long copy":        func(list *[]impl.MateAsk) { (*list)[0].Copy = strings.Repeat("a", impl.MateMaxName+1) },
		"First below":           func(list *[]impl.MateAsk) { (*list)[0].First = -1 },
		"First far below":       func(list *[]impl.MateAsk) { (*list)[0].First = math.MinInt },
		"First behind At":       func(list *[]impl.MateAsk) { (*list)[0].First = (*list)[0].At + 1 },
		"At below":              func(list *[]impl.MateAsk) { (*list)[0].First, (*list)[0].At = -1, -1 },
		"At behind the clock":   func(list *[]impl.MateAsk) { (*list)[0].At = 51 },
		"At far behind":         func(list *[]impl.MateAsk) { (*list)[0].At = math.MaxInt },
		"last behind the clock": func(list *[]impl.MateAsk) { (*list)[len(*list)-1].At = 51 },
	}
	return out
}

func spoilDown(add func(name string, m impl.Mate, change func(m *impl.Mate))) {
	add("down, but known", downMate(), func(m *impl.Mate) { m.Known = true })
	add("down with wants", downMate(), func(m *impl.Mate) { m.Known, m.Wants = true, wantsOf(1) })
	add("down and has seen", downMate(), func(m *impl.Mate) { m.Seen = 1 })
	add("down with asks", downMate(), func(m *impl.Mate) { m.Asks = asksOf(1, "i") })
	add("down with gives", downMate(), func(m *impl.Mate) { m.Gives = asksOf(1, "i") })
	add("down with asks and gives", downMate(), func(m *impl.Mate) { m.Asks, m.Gives = asksOf(2, "i"), asksOf(2, "j") })
	for name, state := range map[string]int{"pulling": impl.MatePulling, "waiting": impl.MateWaiting, "in backoff": impl.MateBackoff} {
		add("down, one is "+name, downMate(), func(m *impl.Mate) { m.Runs[1].State, m.Runs[1].Left = state, 0 })
	}
}

func TestEachConditionOfValid(t *testing.T) {
	for name, m := range spoiled() {
		if impl.MateValid(m) {
			t.Errorf("%s: valid: %+v", name, m)
		}
	}
}

// The runs of one that is down are alive or have a Hold.
func TestRunsOfOneThatIsDown(t *testing.T) {
	for _, state := range states {
		for _, w := range []impl.MateWant{plainWant(), holdWant()} {
			r := impl.MateRun{Want: w, State: state}
			if w.Hold != "" {
				r.Until = 60
			}
			want := w.Hold != "" || impl.MateAlive(r)
			if impl.MateValid(impl.Mate{Name: "a", Clock: 50, Runs: []impl.MateRun{r}}) != want {
				t.Errorf("down with %+v: not %v", r, want)
			}
			if !impl.MateValid(impl.Mate{Name: "a", Up: true, Clock: 50, Runs: []impl.MateRun{r}}) {
				t.Errorf("up with %+v: not valid", r)
			}
		}
	}
}

func TestOfAMateThatIsNotValidThereIsNothing(t *testing.T) {
	mates := spoiled()
	mates["nothing"] = impl.Mate{}
	for name, m := range mates {
		for _, rate := range []int{math.MinInt, -1, 0, 1, 2, 3, 4, 5, math.MaxInt} {
			if got, sent := impl.MateTick(m, rate); !same(got, impl.Mate{}) || len(sent) != 0 {
				t.Errorf("%s: a tick of %d gives %+v and sends %+v", name, rate, got, sent)
			}
		}
		for kind := -1; kind <= 7; kind++ {
			for _, berth := range []string{"a", "b", m.Name} {
				p := impl.MateParcel{Kind: kind, Berth: berth, Seen: 8, Hold: "h", Copy: "c", At: 46}
				if got := impl.MateTake(m, p); !same(got, impl.Mate{}) {
					t.Errorf("%s: it takes %+v, and is %+v", name, p, got)
				}
			}
		}
		for _, got := range []impl.Mate{impl.MateFall(m, false), impl.MateFall(m, true), impl.MateRise(m)} {
			if !same(got, impl.Mate{}) {
				t.Errorf("%s: it falls or rises to %+v", name, got)
			}
		}
	}
}
