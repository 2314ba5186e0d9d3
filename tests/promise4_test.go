package tests

import (
	"testing"

	"loop.example/wharfmate/impl"
)

// unwanting is what a run may be told that makes it unwanted.
type unwanting struct {
	w      impl.MateWant
	wanted bool
}

func unwantings(w impl.MateWant) []unwanting {
	list := []unwanting{{w, false}, {impl.MateWant{}, false}, {impl.MateWant{}, true}}
	for _, o := range otherWants(w) {
		list = append(list, unwanting{o, true}, unwanting{o, false})
	}
	return list
}

// ticksToEnd counts the ticks behind which a run is gone, at most as many as
// Promise 4 gives it; the k-th tick is told by[k mod len(by)].
func ticksToEnd(r impl.MateRun, by []unwanting, clock, rate int) (int, bool) {
	most := r.Want.Grace + 2
	for n := range most {
		u := by[n%len(by)]
		next, there := impl.MateLive(r, u.w, u.wanted, clock+n*rate)
		if !there {
			return n + 1, true
		}
		r = next
	}
	return most, false
}

// lasts is how many ticks an unwanted run takes to be gone, by chapter 3: what
// lives has all of its Grace, and what does not is gone at once.
func lasts(r impl.MateRun) int {
	switch {
	case r.State == impl.MateStopping:
		return max(r.Left, 1)
	case impl.MateAlive(r):
		return 1 + max(r.Want.Grace, 1)
	}
	return 1
}

// runsOfGrace gives runs in each of the six States that are ok at the clock 50.
func runsOfGrace(grace int) []impl.MateRun {
	var list []impl.MateRun
	for _, w := range []impl.MateWant{plainWant(), holdWant()} {
		w.Grace = grace
		for _, s := range states {
			for _, left := range []int{0, 1, 2, grace - 1, grace, grace + 1, grace + 2, impl.MateMaxTicks} {
				r := impl.MateRun{Want: w, State: s, Left: left, Falls: 3}
				if w.Hold != "" {
					r.Until = 60
				}
				tooLong := s == impl.MateStopping && left > grace+2 // nothing that MateLive leads to
				if !tooLong && impl.MateRunsOk([]impl.MateRun{r}, 50) {
					list = append(list, r)
				}
			}
		}
	}
	return list
}

func TestPromise4UnwantedRunsEnd(t *testing.T) {
	for _, grace := range []int{0, 1, 2, 7, impl.MateMaxTicks} {
		seen := map[int]bool{}
		for _, r := range runsOfGrace(grace) {
			seen[r.State] = true
			reasons := unwantings(r.Want)
			ways := [][]unwanting{reasons} // another reason at each tick
			for _, u := range reasons {
				ways = append(ways, []unwanting{u})
			}
			for _, by := range ways {
				for rate := range 5 {
					n, gone := ticksToEnd(r, by, 50, rate)
					if !gone {
						t.Errorf("Grace %d: %+v is still there behind %d ticks", grace, r, n)
					} else if n != lasts(r) {
						t.Errorf("Grace %d: %+v is gone behind %d ticks, not %d", grace, r, n, lasts(r))
					}
				}
			}
		}
		if len(seen) != len(states) {
			t.Errorf("Grace %d: only the States %v are tried", grace, seen)
		}
	}
}

// The Grace is that of the Want it was started for, not that of what is wanted now.
func TestPromise4TakesTheGraceOfItsOwnWant(t *testing.T) {
	for _, c := range []struct{ own, other int }{{0, impl.MateMaxTicks}, {3, 0}, {impl.MateMaxTicks, 0}} {
		w := plainWant()
		w.Grace = c.own
		o := w
		o.Grace, o.Version = c.other, 2
		got, there := impl.MateLive(impl.MateRun{Want: w, State: impl.MateReady}, o, true, 50)
		if want := (impl.MateRun{Want: w, State: impl.MateStopping, Left: c.own}); !there || got != want {
			t.Errorf("Grace %d, wanted with %d: %+v", c.own, c.other, got)
		}
	}
}

// A run that is led to its State by MateLive itself, and is unwanted from there on, ends as well.
func TestPromise4FromEachTickOfALife(t *testing.T) {
	for _, grace := range []int{0, 1, impl.MateMaxTicks} {
		w := impl.MateWant{Copy: "c", Version: 1, Pull: 3, Start: 3, Dies: 3, Grace: grace}
		r := impl.MateRun{Want: w, State: impl.MatePulling, Left: w.Pull}
		for tick := range 40 {
			if n, gone := ticksToEnd(r, unwantings(w), 50, 2); !gone {
				t.Errorf("Grace %d, tick %d: %+v is still there behind %d ticks", grace, tick, r, n)
			}
			var there bool
			if r, there = impl.MateLive(r, w, true, 50); !there {
				t.Fatalf("Grace %d: gone at tick %d though wanted", grace, tick)
			}
		}
	}
}
