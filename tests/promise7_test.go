package tests

import (
	"fmt"
	"slices"
	"testing"

	"loop.example/wharfmate/impl"
)

// raised is the world with all its mates risen.
func raised(w impl.MateWorld) impl.MateWorld {
	for i := range w.Mates {
		w = impl.MateDo(w, impl.MateEvent{Kind: impl.MateEvRise, A: i})
	}
	return w
}

// settles sees that a world is settled behind 400 rounds, and stays so.
func settles(t *testing.T, w impl.MateWorld, rates []int, what string) impl.MateWorld {
	t.Helper()
	w = impl.MateCalm(raised(w), 400, rates)
	for _, more := range []int{0, 1, 2, 17} {
		w = impl.MateCalm(w, more, rates)
		keepsPromises5And6(t, w, what)
		if !impl.MateSettled(w) {
			t.Fatalf("%s, rates %v: not settled: %+v", what, rates, w)
		}
	}
	return w
}

// ratesOfPromise7 are the slowest, the fastest and others.
func ratesOfPromise7() [][]int {
	return [][]int{{1, 1, 1, 1}, {4, 4, 4, 4}, {1, 4, 2, 3}, {4, 0, 1}}
}

// Promise 7, from worlds that walks lead to. What dies is no longer wanted then.
func TestPromise7WalksSettle(t *testing.T) {
	t.Parallel()
	for n := 1; n <= impl.MateMaxBerths; n++ {
		t.Run(fmt.Sprint(n, " berths"), func(t *testing.T) {
			t.Parallel()
			for seed := range 6 {
				x := newWorldWalk(60*n+seed).goOn(t, berths[:n], 600)
				for i := range x.Mates {
					x = putAt(x, i, withoutDeath(x, i)...)
				}
				for _, rates := range ratesOfPromise7()[seed%3:][:2] {
					settles(t, x, rates, fmt.Sprintf("%d berths, seed %d", n, seed))
				}
			}
		})
	}
}

// withoutDeath are the wants of a mate's place, none of which dies.
func withoutDeath(w impl.MateWorld, mate int) []impl.MateWant {
	var list []impl.MateWant
	for _, p := range w.Land.Places {
		if p.Berth == w.Mates[mate].Name {
			list = slices.Clone(p.Wants)
		}
	}
	for i := range list {
		list[i].Dies = 0
	}
	return list
}

// slowWants take as long as they may for everything.
func slowWants(n int, front string, hold bool) []impl.MateWant {
	var list []impl.MateWant
	for i := range n {
		w := impl.MateWant{Copy: fmt.Sprintf("%s%02d", front, i), Version: 1, Pull: impl.MateMaxTicks, Start: impl.MateMaxTicks, Grace: impl.MateMaxTicks}
		if hold {
			w.Hold = w.Copy
		}
		list = append(list, w)
	}
	return list
}

// quick is the wants with nothing to pull or to start.
func quick(list []impl.MateWant) []impl.MateWant {
	for i := range list {
		list[i].Pull, list[i].Start = 0, 0
	}
	return list
}

// Twenty copies have to stop ahead of ten others, and all of it takes its time.
func TestPromise7TheSlowest(t *testing.T) {
	t.Parallel()
	for _, rates := range ratesOfPromise7() {
		for _, hold := range []bool{false, true} {
			w := impl.MateNewWorld([]string{"a"})
			w = impl.MateCalm(putAt(w, 0, quick(slowWants(impl.MateMaxWants, "x", hold))...), 8, rates)
			w = impl.MateCalm(putAt(w, 0, quick(slowWants(impl.MateMaxWants, "y", hold))...), 4, rates)
			if alive := len(living(w.Mates[0])); !hold && alive != 2*impl.MateMaxWants {
				t.Fatalf("%d runs are alive", alive)
			}
			w = putAt(w, 0, slowWants(impl.MateMaxWants, "z", hold)...)
			settles(t, w, rates, "the slowest")
		}
	}
}

// All holds go to the next berth at once, under a flight that is full of what is old.
func TestPromise7AllHoldsMove(t *testing.T) {
	t.Parallel()
	w := impl.MateNewWorld(berths)
	for i := range w.Mates {
		w = putAt(w, i, quick(slowWants(impl.MateMaxWants, berths[i], true))...)
	}
	w = impl.MateCalm(w, 8, nil)
	if !impl.MateSettled(w) {
		t.Fatalf("not settled: %+v", w)
	}
	for range 12 {
		w = impl.MateDo(w, impl.MateEvent{Kind: impl.MateEvTick})
	}
	for i := range w.Mates {
		w = putAt(w, i)
	}
	for i := range w.Mates {
		w = putAt(w, i, slowWants(impl.MateMaxWants, berths[(i+1)%4], true)...)
	}
	for n := 0; len(w.Flight) < impl.MateMaxFlight; n++ {
		w = impl.MateDo(w, impl.MateEvent{Kind: impl.MateEvDouble, A: n})
	}
	for _, rates := range ratesOfPromise7()[:2] {
		settles(t, w, rates, "all holds move")
	}
}

// As late as the promise allows for.
func TestPromise7AtTheEndOfTheClock(t *testing.T) {
	w := impl.MateNewWorld([]string{"a", "b"})
	w.Land.Time = impl.MateMaxClock
	w.Mates[0].Clock, w.Mates[1].Clock = impl.MateMaxClock-4*420, impl.MateMaxClock-4*420
	w = putAt(putAt(w, 0, slowWants(impl.MateMaxWants, "x", true)...), 1, slowWants(impl.MateMaxWants, "y", false)...)
	for _, rates := range [][]int{{1, 1}, {4, 4}, {4, 1}} {
		got := settles(t, w, rates, "the end of the clock")
		if got.Mates[0].Clock != impl.MateMaxClock-4*420+rates[0]*420 {
			t.Errorf("the clock shows %d", got.Mates[0].Clock)
		}
	}
}

// Who has fallen while it held something, and risen, settles again.
func TestPromise7BehindFalls(t *testing.T) {
	t.Parallel()
	calm := impl.MateNewWorld([]string{"a", "b"})
	calm = impl.MateCalm(putAt(putAt(calm, 0, quick(slowWants(2, "x", true))...), 1, slowWants(1, "y", true)...), 150, nil)
	for _, machine := range []int{0, 1} {
		for i, ticks := range []int{0, 1, 5, 30} {
			for _, rates := range ratesOfPromise7()[i%3:][:2] {
				w := impl.MateDo(calm, impl.MateEvent{Kind: impl.MateEvFall, B: machine})
				for range ticks {
					w = impl.MateDo(w, impl.MateEvent{Kind: impl.MateEvTick, Rates: rates})
				}
				settles(t, w, rates, fmt.Sprint("a fall, machine ", machine, ", ", ticks, " ticks"))
			}
		}
	}
}
