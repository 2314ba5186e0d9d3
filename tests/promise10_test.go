package tests

import (
	"testing"

	"loop.example/wharfmate/impl"
)

// keepsPromise10 sees that a and then b rounds are a + b rounds.
func keepsPromise10(t *testing.T, w impl.MateWorld, a, b int, rates []int) {
	t.Helper()
	parts := impl.MateCalm(impl.MateCalm(w, a, rates), b, rates)
	if whole := impl.MateCalm(w, a+b, rates); !sameWorld(parts, whole) {
		t.Errorf("%d and %d rounds at %v lead to\n%+v, together to\n%+v", a, b, rates, parts, whole)
	}
}

func TestPromise10RoundsTogether(t *testing.T) {
	for _, w := range calmWorlds() {
		for _, rates := range ratesOfCalm() {
			for _, c := range [][2]int{{0, 0}, {0, 1}, {1, 0}, {1, 1}, {1, 2}, {2, 1}, {3, 5}} {
				keepsPromise10(t, w, c[0], c[1], rates)
			}
		}
	}
}

func TestPromise10FromWalks(t *testing.T) {
	for seed := range 12 {
		w := newWorldWalk(1000 + seed)
		x := w.goOn(t, berths[:1+seed%4], 400)
		for _, rates := range ratesOfCalm() {
			keepsPromise10(t, x, seed%3, 1+seed%5, rates)
			keepsPromise10(t, x, 11, seed, rates)
		}
	}
}

func TestPromise10AtTheMostRounds(t *testing.T) {
	w := putAt(impl.MateNewWorld([]string{"a", "b"}), 0, holdWant())
	w = impl.MateDo(w, impl.MateEvent{Kind: impl.MateEvTick})
	for _, a := range []int{0, 1, 400, 500, impl.MateMaxCalm - 1, impl.MateMaxCalm} {
		keepsPromise10(t, w, a, impl.MateMaxCalm-a, []int{1, 4})
	}
	w.Mates[0].Clock = impl.MateMaxClock - 700 // its clock ends under way
	keepsPromise10(t, w, 300, impl.MateMaxCalm-300, []int{3, 2})
}
