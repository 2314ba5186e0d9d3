package tests

import (
	"fmt"
	"slices"
	"testing"

	"loop.example/wharfmate/impl"
)

// runOf gives a run that is ok at the clock 50.
func runOf(copy, hold string, state int) impl.MateRun {
	r := impl.MateRun{Want: impl.MateWant{Copy: copy, Version: 1, Hold: hold, Grace: 3}, State: state}
	if hold != "" {
		r.Until = 54
	}
	return r
}

// runsWorld has a mate for each list of runs.
func runsWorld(lists ...[]impl.MateRun) impl.MateWorld {
	var w impl.MateWorld
	for i, runs := range lists {
		w.Mates = append(w.Mates, impl.Mate{Name: berths[i], Up: true, Clock: 50, Runs: runs})
	}
	return w
}

// safeOrNot sees whether a world, which must be ok, is safe.
func safeOrNot(t *testing.T, w impl.MateWorld, want bool) {
	t.Helper()
	if !impl.MateWorldOk(w) {
		t.Fatalf("not ok: %+v", w)
	}
	if impl.MateSafe(w) != want {
		t.Errorf("safe is not %v: %+v", want, w.Mates)
	}
}

func TestTwoRunsOfOneHold(t *testing.T) {
	for _, one := range states {
		for _, two := range states {
			for _, holds := range []struct {
				first, second string
				one           bool
			}{{"h", "h", true}, {"h", "k", false}, {"h", "hh", false}, {"", "", false}, {"h", "", false}, {"", "h", false}} {
				x, y := runOf("x", holds.first, one), runOf("y", holds.second, two)
				want := !holds.one || !impl.MateAlive(x) || !impl.MateAlive(y)
				safeOrNot(t, runsWorld([]impl.MateRun{x, y}), want)
				safeOrNot(t, runsWorld([]impl.MateRun{x}, []impl.MateRun{y}), want)
				safeOrNot(t, runsWorld([]impl.MateRun{x}, []impl.MateRun{runOf("x", holds.second, two)}), want)
				others := []impl.MateRun{runOf("z", "other", impl.MateReady)}
				safeOrNot(t, runsWorld([]impl.MateRun{y}, nil, others, []impl.MateRun{x}), want)
			}
		}
	}
}

// Runs of one copy on many mates are safe, as long as they hold nothing.
func TestRunsWithoutAHoldAreSafe(t *testing.T) {
	plain := []impl.MateRun{runOf("c", "", impl.MateReady), runOf("d", "", impl.MateStarting)}
	safeOrNot(t, runsWorld(plain, plain, plain, plain), true)
	safeOrNot(t, runsWorld(nil, nil), true)
}

// Also mates that are down, and what neither the book nor a mate knows of, count.
func TestSafeLooksAtRunsAlone(t *testing.T) {
	run := []impl.MateRun{runOf("c", "h", impl.MateReady)}
	for up := range 4 {
		w := runsWorld(run, run)
		w.Mates[0].Up, w.Mates[1].Up = up&1 != 0, up&2 != 0
		safeOrNot(t, w, false)
		w.Land = busyLand()
		safeOrNot(t, w, false)
	}
	w := impl.MateNewWorld(berths)
	w.Land.Grants = grantsOf(impl.MateMaxHolds, "i", 32)
	w.Flight = []string{"given a i01 c 0\n", "given b i01 c 0\n"}
	safeOrNot(t, w, true)
}

func TestSafeOfManyRuns(t *testing.T) {
	var lists [][]impl.MateRun
	for k := range impl.MateMaxBerths {
		var runs []impl.MateRun
		for i := range 2 * impl.MateMaxWants {
			runs = append(runs, runOf(fmt.Sprintf("c%02d", i), fmt.Sprint("h", k, "/", i), impl.MateStopping))
		}
		lists = append(lists, runs)
	}
	safeOrNot(t, runsWorld(lists...), true)
	last := len(lists[3]) - 1
	lists[3][last].Want.Hold = lists[0][0].Want.Hold
	safeOrNot(t, runsWorld(lists...), false)
	lists[3][last].State = impl.MateWaiting
	safeOrNot(t, runsWorld(lists...), true)
}

// settledWorld has two mates that run just what is wanted there, and a third one
// of which nothing is wanted.
func settledWorld() impl.MateWorld {
	x, y, z := runOf("x", "h", impl.MateReady), runOf("y", "", impl.MateReady), runOf("z", "k", impl.MateReady)
	w := runsWorld([]impl.MateRun{x, y}, []impl.MateRun{z}, nil)
	w.Land.Places = []impl.MatePlace{{Berth: "a", Seen: 1, Wants: []impl.MateWant{x.Want, y.Want}}, {Berth: "b", Seen: 5, Wants: []impl.MateWant{z.Want}}}
	return w
}

// settledOrNot sees whether a world, which must be ok, is settled.
func settledOrNot(t *testing.T, what string, want bool, change func(w *impl.MateWorld)) {
	t.Helper()
	w := settledWorld()
	change(&w)
	if !impl.MateWorldOk(w) {
		t.Fatalf("%s: not ok: %+v", what, w)
	}
	if impl.MateSettled(w) != want {
		t.Errorf("%s: settled is not %v", what, want)
	}
}

// What does not count for a world that is settled.
func TestSettledWorlds(t *testing.T) {
	for what, change := range map[string]func(w *impl.MateWorld){
		"as it is":               func(w *impl.MateWorld) {},
		"falls":                  func(w *impl.MateWorld) { w.Mates[0].Runs[0].Falls, w.Mates[1].Runs[0].Falls = 1, impl.MateMaxFalls },
		"left":                   func(w *impl.MateWorld) { w.Mates[0].Runs[0].Left = 9 },
		"until":                  func(w *impl.MateWorld) { w.Mates[0].Runs[0].Until = 70 },
		"what is in flight":      func(w *impl.MateWorld) { w.Flight = []string{"told a 1\n", "x"} },
		"what a mate has heard":  func(w *impl.MateWorld) { w.Mates[0].Known, w.Mates[0].Seen, w.Mates[0].Wants = true, 9, wantsOf(3) },
		"grants, asks and gives": func(w *impl.MateWorld) { w.Land.Grants = grantsOf(3, "i", 30); w.Mates[0].Gives = asksOf(3, "i") },
		"a place of no mate": func(w *impl.MateWorld) {
			w.Land.Places = append(w.Land.Places, impl.MatePlace{Berth: "q", Seen: 1, Wants: wantsOf(3)})
		},
		"a place without wants":     func(w *impl.MateWorld) { w.Land.Places = append(w.Land.Places, impl.MatePlace{Berth: "c", Seen: 1}) },
		"no places, and no runs":    func(w *impl.MateWorld) { w.Land.Places, w.Mates = nil, w.Mates[2:] },
		"clocks that differ by far": func(w *impl.MateWorld) { w.Mates[2].Clock = impl.MateMaxClock },
	} {
		settledOrNot(t, what, true, change)
	}
}

func TestWorldsThatAreNotSettled(t *testing.T) {
	for what, change := range map[string]func(w *impl.MateWorld){
		"the first mate is down":         func(w *impl.MateWorld) { w.Mates[0].Up = false },
		"the last mate is down":          func(w *impl.MateWorld) { w.Mates[2].Up = false },
		"no place, but runs":             func(w *impl.MateWorld) { w.Land.Places = w.Land.Places[:1] },
		"no places, but runs":            func(w *impl.MateWorld) { w.Land.Places = nil },
		"a place of another name":        func(w *impl.MateWorld) { w.Land.Places[1].Berth = "ba" },
		"a run at a place without wants": func(w *impl.MateWorld) { w.Land.Places[1].Wants = nil },
		"a run behind the wants":         func(w *impl.MateWorld) { w.Land.Places[0].Wants = w.Land.Places[0].Wants[:1] },
		"a run ahead of the wants":       func(w *impl.MateWorld) { w.Land.Places[0].Wants = w.Land.Places[0].Wants[1:] },
		"the first run is missing":       func(w *impl.MateWorld) { w.Mates[0].Runs = w.Mates[0].Runs[1:] },
		"the last run is missing":        func(w *impl.MateWorld) { w.Mates[0].Runs = w.Mates[0].Runs[:1] },
		"no runs":                        func(w *impl.MateWorld) { w.Mates[1].Runs = nil },
		"a run of a mate without a place": func(w *impl.MateWorld) {
			w.Mates[2].Runs = []impl.MateRun{runOf("z", "", impl.MateReady)}
		},
		"runs that have changed berths": func(w *impl.MateWorld) {
			w.Mates[0].Runs, w.Mates[1].Runs = w.Mates[1].Runs, w.Mates[0].Runs
		},
	} {
		settledOrNot(t, what, false, change)
	}
}

func TestSettledRunsAreReady(t *testing.T) {
	for _, state := range states {
		for _, c := range []struct{ mate, run int }{{0, 0}, {0, 1}, {1, 0}} {
			settledOrNot(t, fmt.Sprint("state ", state, " at ", c), state == impl.MateReady, func(w *impl.MateWorld) {
				w.Mates[c.mate].Runs[c.run].State = state
			})
		}
	}
}

func TestSettledRunsAreJustTheWants(t *testing.T) {
	for i, other := range otherWants(settledWorld().Mates[0].Runs[1].Want) {
		settledOrNot(t, fmt.Sprint("a want of the book ", i), false, func(w *impl.MateWorld) { w.Land.Places[0].Wants[1] = other })
		settledOrNot(t, fmt.Sprint("a want of a run ", i), false, func(w *impl.MateWorld) {
			r := runOf(other.Copy, other.Hold, impl.MateReady)
			r.Want = other
			w.Mates[0].Runs[1] = r
		})
	}
}

func TestSettledAtTheLimits(t *testing.T) {
	w := impl.MateNewWorld(berths)
	for i := range w.Mates {
		var wants []impl.MateWant
		for n := range impl.MateMaxWants {
			wants = append(wants, impl.MateWant{Copy: fmt.Sprint("c", n), Version: 1, Hold: fmt.Sprintf("h%d%d", i, n)})
		}
		w = putAt(w, i, wants...)
	}
	if impl.MateSettled(w) {
		t.Error("settled ahead of the first round")
	}
	w = impl.MateCalm(w, 8, nil)
	if !impl.MateSettled(w) || !impl.MateSafe(w) || len(w.Land.Grants) != impl.MateMaxHolds {
		t.Errorf("behind eight rounds: %+v", w)
	}
	w.Mates[3].Runs = slices.Clone(w.Mates[3].Runs)
	w.Mates[3].Runs[impl.MateMaxWants-1].State = impl.MateStopping
	if impl.MateSettled(w) {
		t.Error("settled with a run that stops")
	}
}
