package tests

import (
	"math"
	"slices"
	"testing"

	"loop.example/wharfmate/impl"
)

// calmRound is a calm round, event by event.
func calmRound(w impl.MateWorld, rates []int) impl.MateWorld {
	w = impl.MateDo(w, impl.MateEvent{Kind: impl.MateEvTick, Rates: rates})
	for range 2 {
		for n := len(w.Flight); n > 0; n-- {
			w = impl.MateDo(w, impl.MateEvent{Kind: impl.MateEvBring})
		}
	}
	return w
}

// calmTo sees that so many rounds lead from a world to another one that is ok.
func calmTo(t *testing.T, w impl.MateWorld, rounds int, rates []int, want impl.MateWorld) {
	t.Helper()
	got := impl.MateCalm(w, rounds, rates)
	if !sameWorld(got, want) || !impl.MateWorldOk(got) {
		t.Errorf("%d rounds at %v lead from\n%+v to\n%+v, not\n%+v", rounds, rates, w, got, want)
	}
}

// calmWorlds are worlds of all sorts, also such as no events lead to.
func calmWorlds() []impl.MateWorld {
	moved := impl.MateNewWorld([]string{"a", "b"})
	moved = impl.MateCalm(putAt(moved, 0, wantsOf(impl.MateMaxWants)...), 6, nil)
	moved = putAt(putAt(moved, 0, wantsOf(5)...), 1, wantsOf(impl.MateMaxWants)[5:]...)
	late := busyWorld()
	late.Land.Time = 2*impl.MateMaxClock - 4
	late.Mates[0] = impl.Mate{Name: "a", Up: true, Clock: impl.MateMaxClock - 9}
	return []impl.MateWorld{impl.MateNewWorld([]string{"a"}), impl.MateNewWorld(berths), busyWorld(), bringWorld(), fullWorld(), moved, late}
}

// ratesOfCalm are Rates of all sorts.
func ratesOfCalm() [][]int {
	return [][]int{nil, {1, 1, 1, 1}, {4, 4, 4, 4}, {1, 4, 2, 3}, {3}, {0, 5, -1}, {math.MaxInt, 4, 1, 1, 1}}
}

func TestCalmRounds(t *testing.T) {
	for _, w := range calmWorlds() {
		for _, rates := range ratesOfCalm() {
			want := w
			for rounds := range 6 {
				calmTo(t, w, rounds, rates, want)
				want = calmRound(want, rates)
			}
		}
	}
}

func TestNoCalmRounds(t *testing.T) {
	for _, w := range calmWorlds() {
		for _, rounds := range []int{math.MinInt, -impl.MateMaxCalm, -1, 0} {
			calmTo(t, w, rounds, []int{1, 4}, w)
		}
	}
}

// More rounds than there may be at once are as many as there may be.
func TestTheMostCalmRounds(t *testing.T) {
	w := putAt(impl.MateNewWorld([]string{"a"}), 0, holdWant())
	want := w
	for range impl.MateMaxCalm {
		want = calmRound(want, []int{3})
	}
	if want.Land.Time != 2*impl.MateMaxCalm || want.Mates[0].Clock != 3*impl.MateMaxCalm {
		t.Fatalf("the rounds lead to %+v", want)
	}
	for _, rounds := range []int{impl.MateMaxCalm, impl.MateMaxCalm + 1, 2 * impl.MateMaxCalm, math.MaxInt} {
		calmTo(t, w, rounds, []int{3}, want)
	}
	less := impl.MateCalm(w, impl.MateMaxCalm-1, []int{3})
	if less.Land.Time != 2*impl.MateMaxCalm-2 {
		t.Errorf("one round less leads to %+v", less)
	}
}

// All that was in flight is brought, and so are the answers.
func TestCalmEmptiesTheFlight(t *testing.T) {
	for _, w := range calmWorlds() {
		w.Flight = slices.Repeat([]string{"x", "asked a h c 46\n", "", "told a 9\n", "back b k e 50\n"}, impl.MateMaxFlight/5)
		if got := impl.MateCalm(w, 1, nil); len(got.Flight) != 0 {
			t.Errorf("behind a calm round there is in flight %q", got.Flight)
		}
	}
}
