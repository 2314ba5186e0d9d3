package tests

import (
	"testing"

	"loop.example/wharfmate/impl"
)

func TestFallOfABusyMate(t *testing.T) {
	m := busyMate()
	if got, want := impl.MateFall(m, false), (impl.Mate{Name: "a", Clock: 50, Runs: []impl.MateRun{m.Runs[0], m.Runs[3]}}); !same(got, want) {
		t.Errorf("the mate falls to %+v", got)
	}
	c, x := m.Runs[0], m.Runs[3]
	c.State, c.Left = impl.MateWaiting, 0
	x.State, x.Left = impl.MateWaiting, 0
	if got, want := impl.MateFall(m, true), (impl.Mate{Name: "a", Clock: 50, Runs: []impl.MateRun{c, x}}); !same(got, want) {
		t.Errorf("its machine falls to %+v", got)
	}
}

// oneRunMates are mates of one run in each State, with a Hold and without, up
// and down, as far as such are valid.
func oneRunMates() []impl.Mate {
	var list []impl.Mate
	for _, r := range manyRuns(54) {
		r.Falls = 3
		up := impl.Mate{Name: "a", Up: true, Clock: 50, Known: true, Seen: 2, Wants: []impl.MateWant{r.Want}, Runs: []impl.MateRun{r}, Asks: asksOf(2, "i"), Gives: asksOf(2, "j")}
		for _, m := range []impl.Mate{up, {Name: "a", Up: true, Clock: 50, Runs: up.Runs}, {Name: "a", Clock: 50, Runs: up.Runs}} {
			if impl.MateValid(m) {
				list = append(list, m)
			}
		}
	}
	return list
}

// A run that is not alive is gone by any fall, also one with a Hold; one that
// is alive stays, or is killed with its machine, its Until being what it was.
func TestFallOfEachRun(t *testing.T) {
	seen := map[int]bool{}
	for _, m := range oneRunMates() {
		r := m.Runs[0]
		seen[r.State] = true
		want := impl.Mate{Name: "a", Clock: 50}
		if impl.MateAlive(r) {
			want.Runs = []impl.MateRun{r}
		}
		if got := impl.MateFall(m, false); !same(got, want) {
			t.Errorf("%+v falls to %+v", m, got)
		}
		want.Runs = nil
		if impl.MateAlive(r) && r.Want.Hold != "" {
			want.Runs = []impl.MateRun{{Want: r.Want, State: impl.MateWaiting, Falls: 3, Until: 54}}
		}
		if got := impl.MateFall(m, true); !same(got, want) {
			t.Errorf("%+v falls with its machine to %+v", m, got)
		}
	}
	if len(seen) != len(states) {
		t.Errorf("only the States %v are tried", seen)
	}
}

func TestFallOfManyRuns(t *testing.T) {
	m := impl.Mate{Name: "a", Up: true, Clock: 50, Runs: runsOf(2 * impl.MateMaxWants)}
	if got := impl.MateFall(m, false); !same(got.Runs, m.Runs) {
		t.Errorf("%+v", got.Runs)
	}
	got := impl.MateFall(m, true)
	if len(got.Runs) != 2*impl.MateMaxWants || !impl.MateValid(got) {
		t.Errorf("%+v", got.Runs)
	}
	// A second fall finds none of them alive.
	if got = impl.MateFall(got, false); !same(got, impl.Mate{Name: "a", Clock: 50}) {
		t.Errorf("%+v", got)
	}
}

func TestFallAtAnyClock(t *testing.T) {
	for _, clock := range []int{0, 1, impl.MateMaxClock - 1, impl.MateMaxClock} {
		for _, up := range []bool{true, false} {
			for _, machine := range []bool{true, false} {
				got := impl.MateFall(impl.Mate{Name: "b", Up: up, Clock: clock}, machine)
				if !same(got, impl.Mate{Name: "b", Clock: clock}) {
					t.Errorf("at %d: %+v", clock, got)
				}
			}
		}
	}
}

// One that rises is up, and all else is as it was.
func TestRise(t *testing.T) {
	mates := append(oneRunMates(), quietMate(), busyMate(), downMate(), deafMate(), impl.Mate{Name: "a"})
	for _, m := range mates {
		want := m
		want.Up = true
		if got := impl.MateRise(m); !same(got, want) || !impl.MateValid(got) {
			t.Errorf("%+v rises to %+v", m, got)
		}
	}
}

func TestRiseAtTheEndOfTheClock(t *testing.T) {
	for _, m := range []impl.Mate{quietMate(), downMate(), deafMate()} {
		m.Runs = impl.MateWatchdog(m.Runs, impl.MateMaxClock)
		m.Clock = impl.MateMaxClock
		if got := impl.MateRise(m); !same(got, m) || !impl.MateValid(got) {
			t.Errorf("%+v rises to %+v", m, got)
		}
		m.Clock = impl.MateMaxClock - 1
		want := m
		want.Up = true
		if got := impl.MateRise(m); !same(got, want) || !impl.MateValid(got) {
			t.Errorf("%+v rises to %+v", m, got)
		}
	}
}

// What was started runs on under a mate that has come back, until it hears.
func TestRunsOnBehindAFall(t *testing.T) {
	m := impl.MateRise(impl.MateFall(busyMate(), false))
	for range 3 {
		m, _ = impl.MateTick(m, 1)
	}
	if len(m.Runs) != 2 || m.Runs[0] != busyMate().Runs[0] || m.Runs[1] != busyMate().Runs[3] {
		t.Errorf("%+v", m.Runs)
	}
	// Any number is heard now, also a smaller one than was heard before the fall.
	m = impl.MateTake(m, told(2, busyMate().Wants))
	m, _ = impl.MateTick(m, 1)
	if !m.Known || m.Seen != 2 || len(m.Runs) != 4 || m.Runs[0].Left != 2 || m.Runs[3].Left != 1 {
		t.Errorf("%+v", m)
	}
}
