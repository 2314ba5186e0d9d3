package tests

import (
	"math"
	"slices"
	"testing"

	"loop.example/wharfmate/impl"
)

func TestWatchdogKillsWithoutALease(t *testing.T) {
	for _, c := range leases {
		for _, s := range []int{-1, 0, 1, 2, 3, 4, 5, 6, 7} {
			for _, left := range []int{0, 1, 5, -1} {
				r := impl.MateRun{Want: holdWant(), State: s, Left: left, Falls: 3, Until: c.until}
				want := r
				if impl.MateAlive(r) && !c.lasts {
					want.State, want.Left = impl.MateWaiting, 0
				}
				got := impl.MateWatchdog([]impl.MateRun{r}, c.clock)
				if !slices.Equal(got, []impl.MateRun{want}) {
					t.Errorf("%+v at %d: %+v", r, c.clock, got)
				}
			}
		}
	}
}

func TestWatchdogLeavesWhatHoldsNothing(t *testing.T) {
	for _, clock := range []int{math.MinInt, -4, 0, 50, impl.MateMaxClock, math.MaxInt} {
		for s := range 9 {
			list := []impl.MateRun{{Want: plainWant(), State: s, Left: 5, Falls: 3}}
			if got := impl.MateWatchdog(list, clock); !slices.Equal(got, list) {
				t.Errorf("%+v at %d: %+v", list, clock, got)
			}
		}
	}
}

func TestWatchdogLooksAtEachRun(t *testing.T) {
	list := runsOf(5)
	list[0].Until = 53
	list[2].State, list[2].Left = impl.MateStopping, 4
	list[3].State, list[3].Left, list[3].Until = impl.MateStopping, 4, 1
	list[4].State, list[4].Left, list[4].Until = impl.MateBackoff, 4, 0
	want := slices.Clone(list)
	want[0].State = impl.MateWaiting
	want[3].State, want[3].Left = impl.MateWaiting, 0
	got := impl.MateWatchdog(list, 50)
	if !slices.Equal(got, want) {
		t.Errorf("%+v", got)
	}
	if !impl.MateRunsOk(got, 50) {
		t.Error("what the watchdog leaves is not ok")
	}
}

// The watchdog asks for no runs that are ok: any list is gone through.
func TestWatchdogTakesAnyList(t *testing.T) {
	if got := impl.MateWatchdog(nil, 50); len(got) != 0 {
		t.Errorf("of nil: %+v", got)
	}
	if got := impl.MateWatchdog([]impl.MateRun{}, 50); len(got) != 0 {
		t.Errorf("of an empty list: %+v", got)
	}
	bad := impl.MateRun{Want: impl.MateWant{Hold: "*"}, State: impl.MateReady, Left: -7, Falls: -1, Until: -1}
	list := slices.Repeat([]impl.MateRun{bad, {}}, 500)
	killed := bad
	killed.State, killed.Left = impl.MateWaiting, 0
	want := slices.Repeat([]impl.MateRun{killed, {}}, 500)
	if got := impl.MateWatchdog(list, 50); !slices.Equal(got, want) {
		t.Error("a list that is not ok is not gone through")
	}
}

func TestWatchdogAnswersNewMemory(t *testing.T) {
	behind := impl.MateRun{Want: holdWant(), State: impl.MateReady, Left: 8}
	for _, clock := range []int{50, 51} {
		for _, n := range []int{0, 1, 5, 20} {
			untouched(t, runsOf(n), behind, func(list []impl.MateRun) {
				first := impl.MateWatchdog(list, clock)
				second := impl.MateWatchdog(list, clock)
				kept := slices.Clone(second)
				for i := range first[:cap(first)] {
					first[:cap(first)][i] = impl.MateRun{Left: -1}
				}
				if !slices.Equal(second, kept) {
					t.Error("two answers share memory")
				}
			})
		}
	}
}
