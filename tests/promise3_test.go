package tests

import (
	"testing"

	"loop.example/wharfmate/impl"
)

// leasedBehindATick sees that a tick of m keeps promise 3, and that what it
// sends has a form.
func leasedBehindATick(t *testing.T, m impl.Mate, rate int) impl.Mate {
	t.Helper()
	if !impl.MateValid(m) {
		t.Fatalf("not valid: %+v", m)
	}
	got, sent := impl.MateTick(m, rate)
	haveForms(t, sent)
	for _, r := range got.Runs {
		if impl.MateAlive(r) && r.Want.Hold != "" && r.Until < got.Clock+4 {
			t.Errorf("a tick of %d from %d: %+v is alive at %d", rate, m.Clock, r, got.Clock)
		}
	}
	if got.Clock < m.Clock {
		t.Errorf("a tick of %d: the clock goes back from %d to %d", rate, m.Clock, got.Clock)
	}
	if !impl.MateValid(got) {
		t.Errorf("a tick of %d leads to %+v, which is not valid", rate, got)
	}
	return got
}

// leasedMates are mates with runs in each State, with an Until about what the
// clock comes to by a tick of rate and 4; up and down, heard and not.
func leasedMates(clock, rate int) []impl.Mate {
	var list []impl.Mate
	for _, off := range []int{-1, 0, 1} {
		runs := manyRuns(max(clock+rate+4+off, clock+4))
		for n := range 3 {
			m := impl.Mate{Name: "a", Up: true, Clock: clock, Known: true, Seen: 1, Runs: runs, Wants: someWants(runs, n)}
			deaf := impl.Mate{Name: "a", Up: true, Clock: clock, Runs: runs}
			list = append(list, m, deaf, impl.MateFall(m, false))
		}
	}
	return list
}

func TestPromise3NothingLivesWithoutALease(t *testing.T) {
	for _, clock := range []int{0, 1, 50, impl.MateMaxClock - 8, impl.MateMaxClock - 4, impl.MateMaxClock - 3, impl.MateMaxClock - 2, impl.MateMaxClock - 1, impl.MateMaxClock} {
		for rate := 1; rate <= 4; rate++ {
			for _, m := range leasedMates(clock, rate) {
				leasedBehindATick(t, m, rate)
			}
		}
	}
}

func TestPromise3HoldsAtAWrongRate(t *testing.T) {
	for _, rate := range []int{-4, -1, 0, 5, 100} {
		for _, m := range leasedMates(50, 1) {
			leasedBehindATick(t, m, rate)
		}
	}
}

// Without a word from land nothing with a Hold lives for longer than its lease,
// by ticks of any rates; and what has none, and is wanted, lives on.
func TestPromise3ManyTicks(t *testing.T) {
	for _, rates := range [][]int{{1}, {2}, {3}, {4}, {1, 4}, {4, 1, 1}, {2, 3, 4}, {1, 2, 0, 4, 5}} {
		for _, clock := range []int{0, 50, impl.MateMaxClock - 40} {
			for _, m := range leasedMates(clock, 1) {
				for i := range 40 {
					m = leasedBehindATick(t, m, rates[i%len(rates)])
				}
				for _, r := range m.Runs {
					if impl.MateAlive(r) && r.Want.Hold != "" {
						t.Errorf("rates %v: %+v lives without a lease at %d", rates, r, m.Clock)
					}
				}
			}
		}
	}
}

// A lease lets a run live up to the last tick that it lasts for, and no less.
func TestPromise3LeasesAreUsed(t *testing.T) {
	for rate := 1; rate <= 4; rate++ {
		for off := -1; off <= 1; off++ {
			for _, up := range []bool{true, false} {
				r := impl.MateRun{Want: holdWant(), State: impl.MateReady, Until: 54 + rate + off}
				m := impl.Mate{Name: "a", Up: up, Clock: 50, Runs: []impl.MateRun{r}}
				if got := leasedBehindATick(t, m, rate); impl.MateAlive(got.Runs[0]) != (off >= 0) {
					t.Errorf("rate %d, Until %d: %+v at %d", rate, r.Until, got.Runs[0], got.Clock)
				}
			}
		}
	}
}

// The clock goes on by its rate, and never above its end.
func TestPromise3Clock(t *testing.T) {
	for _, up := range []bool{true, false} {
		for rate := 1; rate <= 4; rate++ {
			m := impl.Mate{Name: "a", Up: up, Clock: impl.MateMaxClock - 10}
			for range 20 {
				want := min(m.Clock+rate, impl.MateMaxClock)
				if m = leasedBehindATick(t, m, rate); m.Clock != want {
					t.Errorf("rate %d: the clock is %d, not %d", rate, m.Clock, want)
				}
			}
			if m.Up {
				t.Errorf("rate %d: up behind the end of the clock", rate)
			}
		}
	}
}
