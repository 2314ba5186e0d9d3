package tests

import (
	"slices"
	"testing"

	"loop.example/wharfmate/impl"
)

func living(m impl.Mate) []impl.MateRun {
	return slices.DeleteFunc(slices.Clone(m.Runs), func(r impl.MateRun) bool { return !impl.MateAlive(r) })
}

// keepsPromise8 sees how a mate falls, and that it is valid behind it.
func keepsPromise8(t *testing.T, m impl.Mate) {
	t.Helper()
	if !impl.MateValid(m) {
		t.Fatalf("not valid: %+v", m)
	}
	mate, machine := impl.MateFall(m, false), impl.MateFall(m, true)
	if !slices.Equal(living(mate), living(m)) {
		t.Errorf("of %+v there lives %+v", m.Runs, living(mate))
	}
	if len(living(machine)) != 0 {
		t.Errorf("of %+v there lives %+v, though its machine fell", m.Runs, living(machine))
	}
	for _, f := range []impl.Mate{mate, machine} {
		if !impl.MateValid(f) || f.Up || f.Clock != m.Clock || f.Name != m.Name {
			t.Errorf("%+v falls to %+v", m, f)
		}
	}
}

func TestPromise8Falls(t *testing.T) {
	for _, m := range oneRunMates() {
		keepsPromise8(t, m)
	}
	for _, clock := range []int{0, 50, impl.MateMaxClock - 1, impl.MateMaxClock} {
		for _, m := range leasedMates(clock, 1) {
			keepsPromise8(t, m)
			keepsPromise8(t, impl.MateRise(m))
			keepsPromise8(t, impl.MateFall(m, true))
		}
	}
	for _, m := range []impl.Mate{quietMate(), busyMate(), downMate(), deafMate(), {Name: "a"}} {
		keepsPromise8(t, m)
	}
}

func TestPromise8FallsAtTheLimits(t *testing.T) {
	m := busyMate()
	m.Runs = runsOf(2 * impl.MateMaxWants)
	m.Asks, m.Gives = asksOf(impl.MateMaxHolds, "i"), asksOf(impl.MateMaxHolds, "j")
	keepsPromise8(t, m)
	for i := range m.Runs {
		m.Runs[i].State = states[i%len(states)]
	}
	keepsPromise8(t, m)
}
