package tests

import (
	"math"
	"slices"
	"testing"

	"loop.example/wharfmate/impl"
)

func TestAlive(t *testing.T) {
	alive := []int{impl.MateStarting, impl.MateReady, impl.MateStopping}
	for _, s := range []int{math.MinInt, -1, 0, 1, 2, 3, 4, 5, 6, 7, 8, 259, math.MaxInt} {
		for _, w := range []impl.MateWant{{}, plainWant(), holdWant()} {
			if impl.MateAlive(impl.MateRun{Want: w, State: s, Left: 1}) != slices.Contains(alive, s) {
				t.Errorf("State %d of %+v", s, w)
			}
		}
	}
}

func TestRunsOfAnyNumber(t *testing.T) {
	for n := 0; n <= 2*impl.MateMaxWants; n++ {
		if !impl.MateRunsOk(runsOf(n), 50) {
			t.Errorf("%d runs are refused", n)
		}
	}
	if impl.MateRunsOk(runsOf(2*impl.MateMaxWants+1), 50) {
		t.Error("one run more than there may be is taken")
	}
	if !impl.MateRunsOk(nil, 50) || !impl.MateRunsOk([]impl.MateRun{}, 50) {
		t.Error("no runs are refused")
	}
}

func TestRunsAreAscending(t *testing.T) {
	for _, c := range []struct {
		copies []string
		want   bool
	}{
		{[]string{"a", "ab", "b"}, true}, {[]string{"A", "a"}, true},
		{[]string{"a", "a"}, false}, {[]string{"ab", "a"}, false}, {[]string{"a", "c", "b"}, false}, {[]string{"a", "A"}, false},
	} {
		var list []impl.MateRun
		for _, s := range c.copies {
			w := holdWant() // two runs may have one Hold
			w.Copy = s
			list = append(list, impl.MateRun{Want: w, State: impl.MateReady, Until: 54})
		}
		if impl.MateRunsOk(list, 50) != c.want {
			t.Errorf("%v: not %v", c.copies, c.want)
		}
	}
}

func TestWantOfARun(t *testing.T) {
	for _, spoil := range []func(w *impl.MateWant){
		func(w *impl.MateWant) { *w = impl.MateWant{} },
		func(w *impl.MateWant) { w.Copy = "" },
		func(w *impl.MateWant) { w.Copy = "a b" },
		func(w *impl.MateWant) { w.Version = 0 },
		func(w *impl.MateWant) { w.Version = impl.MateMaxVersion + 1 },
		func(w *impl.MateWant) { w.Hold = "*" },
		func(w *impl.MateWant) { w.Pull = -1 },
		func(w *impl.MateWant) { w.Start = impl.MateMaxTicks + 1 },
		func(w *impl.MateWant) { w.Dies = impl.MateMaxTicks + 1 },
		func(w *impl.MateWant) { w.Grace = -1 },
	} {
		for i := range 3 {
			list := runsOf(3)
			spoil(&list[i].Want)
			if impl.MateRunsOk(list, 50) {
				t.Errorf("a run of %+v is taken", list[i].Want)
			}
		}
	}
}

func TestStateOfARun(t *testing.T) {
	for _, s := range []int{math.MinInt, -1, 0, 1, 2, 3, 4, 5, 6, 7, 8, math.MaxInt} {
		want := slices.Contains(states, s)
		if impl.MateRunsOk([]impl.MateRun{{Want: plainWant(), State: s}}, 50) != want {
			t.Errorf("State %d: not %v", s, want)
		}
	}
}

func TestLeftOfARun(t *testing.T) {
	for _, s := range states {
		for _, n := range []int{math.MinInt, -1, 0, 1, 99, impl.MateMaxTicks, impl.MateMaxTicks + 1, math.MaxInt} {
			want := n >= 0 && n <= impl.MateMaxTicks
			if s == impl.MateWaiting {
				want = n == 0
			}
			if impl.MateRunsOk([]impl.MateRun{{Want: plainWant(), State: s, Left: n}}, 50) != want {
				t.Errorf("State %d, Left %d: not %v", s, n, want)
			}
		}
	}
}

func TestFallsOfARun(t *testing.T) {
	for _, n := range []int{math.MinInt, -1, 0, 1, 999, impl.MateMaxFalls, impl.MateMaxFalls + 1, math.MaxInt} {
		want := n >= 0 && n <= impl.MateMaxFalls
		if impl.MateRunsOk([]impl.MateRun{{Want: plainWant(), State: impl.MateReady, Falls: n}}, 50) != want {
			t.Errorf("Falls %d: not %v", n, want)
		}
	}
}

func TestUntilOfARun(t *testing.T) {
	last := impl.MateMaxClock + impl.MateLease
	for _, s := range states {
		for _, n := range []int{math.MinInt, -1, 0, 1, 53, 54, last, last + 1, math.MaxInt} {
			r := impl.MateRun{Want: plainWant(), State: s, Until: n}
			if want := n == 0; impl.MateRunsOk([]impl.MateRun{r}, 50) != want {
				t.Errorf("State %d, Until %d without a Hold: not %v", s, n, want)
			}
			r.Want = holdWant()
			want := n >= 0 && n <= last && (n >= 54 || !impl.MateAlive(r))
			if impl.MateRunsOk([]impl.MateRun{r}, 50) != want {
				t.Errorf("State %d, Until %d with a Hold: not %v", s, n, want)
			}
		}
	}
}

// leases are clocks and an Until, each with whether it lasts for the clock and
// 4, this sum being one of two ints that wraps.
var leases = []struct {
	clock, until int
	lasts        bool
}{
	{50, 54, true}, {50, 55, true}, {50, 53, false}, {50, 50, false}, {0, 4, true}, {0, 3, false}, {0, 0, false},
	{impl.MateMaxClock, impl.MateMaxClock + 4, true}, {impl.MateMaxClock, impl.MateMaxClock + 3, false},
	{impl.MateMaxClock + 12, impl.MateMaxClock + 16, true}, {impl.MateMaxClock + 13, impl.MateMaxClock + 16, false},
	{-4, 0, true}, {-3, 0, false}, {-3, 1, true}, {math.MinInt, 0, true},
	{math.MaxInt - 4, impl.MateMaxClock + 16, false}, {math.MaxInt - 3, 0, true}, {math.MaxInt, 0, true},
}

func TestRunsAtAClock(t *testing.T) {
	for _, c := range leases {
		for _, s := range states {
			r := impl.MateRun{Want: holdWant(), State: s, Until: c.until}
			if want := c.lasts || !impl.MateAlive(r); impl.MateRunsOk([]impl.MateRun{r}, c.clock) != want {
				t.Errorf("State %d, Until %d at %d: not %v", s, c.until, c.clock, want)
			}
			r = impl.MateRun{Want: plainWant(), State: s}
			if !impl.MateRunsOk([]impl.MateRun{r}, c.clock) {
				t.Errorf("State %d without a Hold at %d is refused", s, c.clock)
			}
		}
	}
}

func TestAWrongRunAtAnyPlace(t *testing.T) {
	for i := range 2 * impl.MateMaxWants {
		for _, spoil := range []func(r *impl.MateRun){
			func(r *impl.MateRun) { r.State = 0 },
			func(r *impl.MateRun) { r.Left = -1 },
			func(r *impl.MateRun) { r.Falls = -1 },
			func(r *impl.MateRun) { r.Until = 53 },
			func(r *impl.MateRun) { *r = impl.MateRun{} },
		} {
			list := runsOf(2 * impl.MateMaxWants)
			spoil(&list[i])
			if impl.MateRunsOk(list, 50) {
				t.Errorf("%+v at %d is taken", list[i], i)
			}
		}
	}
}

func TestRunsAreNotWrittenInto(t *testing.T) {
	for _, list := range [][]impl.MateRun{nil, runsOf(1), runsOf(20), runsOf(21)} {
		for _, clock := range []int{50, 51, math.MaxInt} {
			untouched(t, list, impl.MateRun{Left: 5}, func(list []impl.MateRun) { impl.MateRunsOk(list, clock) })
		}
	}
}
