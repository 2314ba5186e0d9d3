package tests

import (
	"math"
	"slices"
	"testing"

	"loop.example/wharfmate/impl"
)

// A tick of a wanted run of plainWant (Start 5, Dies 7, Grace 9) at the clock 50.
func TestTickOfAWantedRun(t *testing.T) {
	for _, c := range []struct {
		state, left int
		want        string
	}{
		{impl.MatePulling, 100, "1/99"}, {impl.MatePulling, 2, "1/1"}, {impl.MatePulling, 1, "3/5"}, {impl.MatePulling, 0, "3/5"}, {impl.MatePulling, -3, "3/5"},
		{impl.MateWaiting, 0, "3/5"}, {impl.MateWaiting, 8, "3/5"}, {impl.MateWaiting, -8, "3/5"},
		{impl.MateStarting, 100, "3/99"}, {impl.MateStarting, 2, "3/1"}, {impl.MateStarting, 1, "4/7"}, {impl.MateStarting, 0, "4/7"}, {impl.MateStarting, -3, "4/7"},
		{impl.MateReady, 100, "4/99"}, {impl.MateReady, 2, "4/1"}, {impl.MateReady, 0, "4/0"}, {impl.MateReady, -1, "4/-1"},
		{impl.MateBackoff, 16, "5/15"}, {impl.MateBackoff, 2, "5/1"}, {impl.MateBackoff, 1, "3/5"}, {impl.MateBackoff, 0, "3/5"}, {impl.MateBackoff, -3, "3/5"},
		{impl.MateStopping, 100, "6/99"}, {impl.MateStopping, 2, "6/1"}, {impl.MateStopping, 1, "gone"}, {impl.MateStopping, 0, "gone"}, {impl.MateStopping, -3, "gone"},
		{0, 2, "0/1"}, {0, 1, "0/1"}, {0, 0, "0/0"}, {7, 100, "7/99"}, {7, 2, "7/1"}, {7, 1, "7/1"}, {7, 0, "7/0"}, {-1, 5, "-1/4"}, {-1, -5, "-1/-5"},
	} {
		want := c.want
		if want != "gone" {
			want += " falls 4 until 0"
		}
		r := impl.MateRun{Want: plainWant(), State: c.state, Left: c.left, Falls: 4}
		got, there := impl.MateLive(r, plainWant(), true, 50)
		if story(got, there) != want {
			t.Errorf("%d/%d: %s, not %s", c.state, c.left, story(got, there), want)
		}
		if there && got.Want != plainWant() {
			t.Errorf("%d/%d: its Want is %+v", c.state, c.left, got.Want)
		}
	}
}

func TestStatesFarFromTheSix(t *testing.T) {
	for _, s := range []int{math.MinInt, -6, -1, 0, 7, 8, 256 + 4, math.MaxInt} {
		for _, left := range []int{math.MinInt, -1, 0, 1, 2, math.MaxInt} {
			r := impl.MateRun{Want: holdWant(), State: s, Left: left, Falls: 2, Until: 9}
			want := r
			if left > 1 {
				want.Left--
			}
			if got, there := impl.MateLive(r, holdWant(), true, 50); !there || got != want {
				t.Errorf("%+v: %s", r, story(got, there))
			}
			if got, there := impl.MateLive(r, holdWant(), false, 50); there || got != (impl.MateRun{}) {
				t.Errorf("%+v unwanted: %s", r, story(got, there))
			}
		}
	}
}

// What begins has its lease up to the next tick, or waits for it.
func TestBeginsOnlyWithItsLease(t *testing.T) {
	for _, c := range leases {
		for _, from := range []struct{ state, left int }{{impl.MatePulling, 0}, {impl.MatePulling, 1}, {impl.MateWaiting, 0}, {impl.MateBackoff, 0}, {impl.MateBackoff, 1}} {
			r := impl.MateRun{Want: holdWant(), State: from.state, Left: from.left, Falls: 2, Until: c.until}
			want := r
			want.State, want.Left = impl.MateWaiting, 0
			if c.lasts {
				want.State, want.Left = impl.MateStarting, 5
			}
			got, there := impl.MateLive(r, holdWant(), true, c.clock)
			if !there || got != want {
				t.Errorf("%+v at %d: %s", r, c.clock, story(got, there))
			}
			if !impl.MateRunsOk([]impl.MateRun{got}, c.clock) {
				t.Errorf("%+v at %d: %s is not ok", r, c.clock, story(got, there))
			}
		}
	}
}

func TestBeginsWithoutAHoldAtAnyClock(t *testing.T) {
	for _, c := range leases {
		for _, s := range []int{impl.MatePulling, impl.MateWaiting, impl.MateBackoff} {
			for _, start := range []int{0, 1, impl.MateMaxTicks} {
				w := plainWant()
				w.Start = start
				r := impl.MateRun{Want: w, State: s, Falls: 1}
				got, there := impl.MateLive(r, w, true, c.clock)
				if want := (impl.MateRun{Want: w, State: impl.MateStarting, Left: start, Falls: 1}); !there || got != want {
					t.Errorf("%+v at %d: %s", r, c.clock, story(got, there))
				}
			}
		}
	}
}

// Only what begins is asked for its lease by MateLive: what lives is the watchdog's.
func TestWhatDoesNotBeginNeedsNoLease(t *testing.T) {
	for _, c := range []struct {
		state, left int
		want        string
	}{
		{impl.MatePulling, 2, "1/1"}, {impl.MateStarting, 2, "3/1"}, {impl.MateStarting, 1, "4/7"}, {impl.MateReady, 2, "4/1"}, {impl.MateReady, 0, "4/0"}, {impl.MateBackoff, 2, "5/1"}, {impl.MateStopping, 2, "6/1"},
	} {
		r := impl.MateRun{Want: holdWant(), State: c.state, Left: c.left, Falls: 2, Until: 9}
		if got, there := impl.MateLive(r, holdWant(), true, 50); story(got, there) != c.want+" falls 2 until 9" {
			t.Errorf("%d/%d: %s", c.state, c.left, story(got, there))
		}
	}
}

func TestReadyForAsLongAsItDoesNotDie(t *testing.T) {
	for _, dies := range []int{0, 1, impl.MateMaxTicks} {
		w := plainWant()
		w.Dies = dies
		got, there := impl.MateLive(impl.MateRun{Want: w, State: impl.MateStarting, Left: 1}, w, true, 50)
		if want := (impl.MateRun{Want: w, State: impl.MateReady, Left: dies}); !there || got != want {
			t.Errorf("Dies %d: %s", dies, story(got, there))
		}
		ticks := 0
		for ; got.State == impl.MateReady && ticks < 1000; ticks++ {
			got, _ = impl.MateLive(got, w, true, 50)
		}
		if dies > 0 && ticks != dies || dies == 0 && ticks != 1000 {
			t.Errorf("Dies %d: dead behind %d ticks", dies, ticks)
		}
	}
}

func TestDeathsAndBackoff(t *testing.T) {
	for _, c := range []struct{ falls, after, left int }{
		{0, 1, 2}, {1, 2, 4}, {2, 3, 8}, {3, 4, 16}, {4, 5, 16}, {5, 6, 16}, {62, 63, 16}, {63, 64, 16}, {900, 901, 16},
		{impl.MateMaxFalls - 1, impl.MateMaxFalls, 16}, {impl.MateMaxFalls, impl.MateMaxFalls, 16},
		{impl.MateMaxFalls + 1, impl.MateMaxFalls + 1, 16}, {math.MaxInt, math.MaxInt, 16},
		{-1, 0, 1}, {-2, -1, 1}, {-70, -69, 1}, {math.MinInt, math.MinInt + 1, 1},
	} {
		for _, w := range []impl.MateWant{plainWant(), holdWant()} {
			r := impl.MateRun{Want: w, State: impl.MateReady, Left: 1, Falls: c.falls, Until: 54}
			want := impl.MateRun{Want: w, State: impl.MateBackoff, Left: c.left, Falls: c.after, Until: 54}
			if got, there := impl.MateLive(r, w, true, 50); !there || got != want {
				t.Errorf("Falls %d: %s", c.falls, story(got, there))
			}
		}
	}
}

func TestTickOfAnUnwantedRun(t *testing.T) {
	for _, c := range []struct {
		state, left int
		want        string
	}{
		{impl.MatePulling, 9, "gone"}, {impl.MatePulling, 0, "gone"}, {impl.MateWaiting, 0, "gone"}, {impl.MateBackoff, 9, "gone"}, {impl.MateBackoff, 1, "gone"},
		{impl.MateStarting, 3, "6/9"}, {impl.MateStarting, 0, "6/9"}, {impl.MateReady, 3, "6/9"}, {impl.MateReady, 1, "6/9"}, {impl.MateReady, 0, "6/9"},
		{impl.MateStopping, 9, "6/8"}, {impl.MateStopping, 2, "6/1"}, {impl.MateStopping, 1, "gone"}, {impl.MateStopping, 0, "gone"}, {impl.MateStopping, -2, "gone"},
		{0, 9, "gone"}, {7, 9, "gone"}, {-1, 0, "gone"},
	} {
		want := c.want
		if want != "gone" {
			want += " falls 4 until 60"
		}
		for _, clock := range []int{50, 70, math.MaxInt} {
			r := impl.MateRun{Want: holdWant(), State: c.state, Left: c.left, Falls: 4, Until: 60}
			for _, u := range unwantings(r.Want) {
				got, there := impl.MateLive(r, u.w, u.wanted, clock)
				if story(got, there) != want {
					t.Errorf("%d/%d at %d with %+v: %s, not %s", c.state, c.left, clock, u, story(got, there), want)
				}
				if there && got.Want != r.Want || !there && got != (impl.MateRun{}) {
					t.Errorf("%d/%d at %d with %+v: %+v", c.state, c.left, clock, u, got)
				}
			}
		}
	}
}

// What stops is stopped to its end, wanted again or not, and then started anew by another run.
func TestWhatIsWantedAgainIsStoppedFirst(t *testing.T) {
	for _, s := range []int{impl.MateStarting, impl.MateReady} {
		w := plainWant()
		r, there := impl.MateLive(impl.MateRun{Want: w, State: s, Left: 3}, impl.MateWant{}, false, 50)
		for left := w.Grace; left >= 1; left-- {
			if !there || r.State != impl.MateStopping || r.Left != left {
				t.Fatalf("State %d: %s with %d to go", s, story(r, there), left)
			}
			r, there = impl.MateLive(r, w, true, 50)
		}
		if there || r != (impl.MateRun{}) {
			t.Errorf("State %d: %s at its end", s, story(r, there))
		}
	}
}

// The whole life of a run with a Hold whose lease comes late.
func TestLifeWithALateLease(t *testing.T) {
	w := impl.MateWant{Copy: "c", Version: 1, Hold: "h", Pull: 1, Start: 1, Dies: 2, Grace: 1}
	r := impl.MateRun{Want: w, State: impl.MatePulling, Left: 1}
	var seen []int
	for clock := 2; clock <= 24; clock += 2 {
		if clock == 8 {
			r.Until = 18
		}
		var there bool
		if r, there = impl.MateLive(impl.MateWatchdog([]impl.MateRun{r}, clock)[0], w, true, clock); !there {
			t.Fatalf("gone at %d", clock)
		}
		seen = append(seen, r.State)
		if !impl.MateRunsOk([]impl.MateRun{r}, clock) {
			t.Errorf("not ok at %d: %+v", clock, r)
		}
	}
	if want := []int{2, 2, 2, 3, 4, 4, 5, 5, 2, 2, 2, 2}; !slices.Equal(seen, want) || r.Falls != 1 || r.Until != 18 {
		t.Errorf("%v, at last %+v", seen, r)
	}
}

// Runs that are ok stay so by the watchdog and MateLive, whatever is wanted.
func TestTicksLeaveRunsOk(t *testing.T) {
	for _, w := range []impl.MateWant{plainWant(), holdWant()} {
		for _, s := range states {
			for _, left := range []int{0, 1, 2, impl.MateMaxTicks} {
				for _, falls := range []int{0, 1, impl.MateMaxFalls} {
					for _, until := range []int{0, 50, 53, 54, 66} {
						r := impl.MateRun{Want: w, State: s, Left: left, Falls: falls, Until: until}
						if impl.MateRunsOk([]impl.MateRun{r}, 49) {
							staysOk(t, r, 50)
						}
					}
				}
			}
		}
	}
}

func staysOk(t *testing.T, r impl.MateRun, clock int) {
	t.Helper()
	list := impl.MateWatchdog([]impl.MateRun{r}, clock)
	if !impl.MateRunsOk(list, clock) {
		t.Errorf("%+v: %+v behind the watchdog", r, list)
	}
	for _, wanted := range []bool{true, false} {
		got, there := impl.MateLive(list[0], r.Want, wanted, clock)
		if there && !impl.MateRunsOk([]impl.MateRun{got}, clock) {
			t.Errorf("%+v: %+v, wanted %v", r, got, wanted)
		}
	}
}
