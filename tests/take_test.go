package tests

import (
	"math"
	"slices"
	"testing"

	"loop.example/wharfmate/impl"
)

// takeTo sees that m, when it takes p, is as wanted, and valid.
func takeTo(t *testing.T, m impl.Mate, p impl.MateParcel, want impl.Mate) {
	t.Helper()
	got := impl.MateTake(m, p)
	if !same(got, want) {
		t.Errorf("%+v leads to\n%+v, not\n%+v", p, got, want)
	}
	if !impl.MateValid(got) {
		t.Errorf("%+v leads to %+v, which is not valid", p, got)
	}
}

func told(seen int, wants []impl.MateWant) impl.MateParcel {
	return impl.MateParcel{Kind: impl.MateTold, Berth: "a", Seen: seen, Wants: wants}
}

func given(hold, copy string, at int) impl.MateParcel {
	return impl.MateParcel{Kind: impl.MateGiven, Berth: "a", Hold: hold, Copy: copy, At: at}
}

func gotBack(hold string, at int) impl.MateParcel {
	return impl.MateParcel{Kind: impl.MateGotBack, Berth: "a", Hold: hold, At: at}
}

func TestTold(t *testing.T) {
	for _, c := range []struct {
		known      bool
		seen, told int
		heard      bool
	}{
		{true, 7, 8, true}, {true, 7, 7, false}, {true, 7, 6, false}, {true, 7, 1, false}, {true, 0, 1, true}, {true, 0, 0, false}, {true, 7, 0, false}, {true, 7, -8, false},
		{true, 7, impl.MateMaxVersion, true}, {true, 7, impl.MateMaxVersion + 1, false}, {true, 7, math.MaxInt, false}, {true, impl.MateMaxVersion, impl.MateMaxVersion, false},
		{false, 7, 8, true}, {false, 7, 7, true}, {false, 7, 6, true}, {false, 7, 1, true}, {false, 0, 1, true}, {false, 7, 0, false}, {false, 0, 0, false}, {false, 7, -1, false}, {false, 0, math.MinInt, false},
		{false, 7, impl.MateMaxVersion, true}, {false, 7, impl.MateMaxVersion + 1, false}, {false, 0, math.MaxInt, false},
	} {
		for _, wants := range [][]impl.MateWant{nil, {}, wantsOf(1), wantsOf(impl.MateMaxWants)} {
			m := busyMate()
			m.Seen = c.seen
			if !c.known {
				m.Known, m.Wants = false, nil
			}
			want := m
			if c.heard {
				want.Known, want.Seen, want.Wants = true, c.told, wants
			}
			takeTo(t, m, told(c.told, wants), want)
		}
	}
}

func TestToldOfWantsThatAreNotOk(t *testing.T) {
	twice := wantsOf(3)
	twice[2].Hold = twice[0].Hold
	none := wantsOf(3)
	none[1] = impl.MateWant{}
	reversed := wantsOf(3)
	slices.Reverse(reversed)
	for _, wants := range [][]impl.MateWant{wantsOf(impl.MateMaxWants + 1), twice, none, reversed, slices.Repeat(wantsOf(5), 1000)} {
		for _, m := range []impl.Mate{quietMate(), busyMate(), deafMate()} {
			takeTo(t, m, told(9, wants), m)
		}
	}
}

// A parcel of one Kind may have parts that this Kind does not use: they count nothing.
func TestPartsThatAKindDoesNotUse(t *testing.T) {
	m := busyMate()
	p := told(8, wantsOf(2))
	p.Hold, p.Copy, p.At = "h", "c", 46
	want := m
	want.Seen, want.Wants = 8, wantsOf(2)
	takeTo(t, m, p, want)

	p = given("h", "c", 46)
	p.Seen, p.Wants = 8, wantsOf(2)
	m.Runs[0].Until = 60
	want = busyMate()
	want.Runs[0].Until = 62
	takeTo(t, m, p, want)

	p = gotBack("b", 26)
	p.Seen, p.Wants, p.Copy = 8, wantsOf(2), "c"
	want = m
	want.Gives = m.Gives[1:]
	takeTo(t, m, p, want)
}

// leasedMate has one run of the copy c with the hold i, and asks for it from 30 to 42.
func leasedMate(state, until int) impl.Mate {
	w := impl.MateWant{Copy: "c", Version: 1, Hold: "i", Grace: 9}
	other := impl.MateWant{Copy: "d", Version: 1, Hold: "j"}
	return impl.Mate{
		Name: "a", Up: true, Clock: 50, Known: true, Seen: 4, Wants: []impl.MateWant{w},
		Runs: []impl.MateRun{{Want: w, State: state, Until: until}, {Want: other, State: impl.MateWaiting, Until: 20}},
		Asks: []impl.MateAsk{{Hold: "i", Copy: "c", First: 30, At: 42}, {Hold: "j", Copy: "x", First: 0, At: 50}},
	}
}

// What is given counts for asks from First to At alone, and never shortens a lease.
func TestGivenForAnAsk(t *testing.T) {
	for _, at := range []int{math.MinInt, -1, 0, 28, 29, 30, 31, 38, 41, 42, 43, 50, 51, math.MaxInt - 15, math.MaxInt} {
		for _, state := range []int{impl.MatePulling, impl.MateWaiting, impl.MateBackoff} {
			for _, until := range []int{0, 44, 45, 46, 57, 58, 59, 200} {
				m := leasedMate(state, until)
				want := leasedMate(state, until)
				if at >= 30 && at <= 42 {
					want.Runs[0].Until = max(until, at+16)
				}
				takeTo(t, m, given("i", "c", at), want)
			}
		}
		for _, state := range []int{impl.MateStarting, impl.MateReady, impl.MateStopping} {
			for _, until := range []int{54, 55, 57, 58, 59} {
				want := leasedMate(state, until)
				if at >= 30 && at <= 42 {
					want.Runs[0].Until = max(until, at+16)
				}
				takeTo(t, leasedMate(state, until), given("i", "c", at), want)
			}
		}
	}
}

func TestGivenForAnAskOfOneMoment(t *testing.T) {
	for _, at := range []int{0, 17, 50} {
		for off := -1; off <= 1; off++ {
			m := leasedMate(impl.MateWaiting, 0)
			m.Asks[0].First, m.Asks[0].At = at, at
			want := m
			if off == 0 {
				want.Runs = slices.Clone(m.Runs)
				want.Runs[0].Until = at + 16
			}
			takeTo(t, m, given("i", "c", at+off), want)
		}
	}
}

// The Hold and the Copy are those of an ask and of a run, both.
func TestGivenToAnother(t *testing.T) {
	m := leasedMate(impl.MateWaiting, 0)
	for _, p := range []impl.MateParcel{
		given("i", "d", 42), given("j", "c", 42), given("j", "d", 42), given("j", "x", 42), given("i", "x", 42),
		given("", "c", 42), given("i", "", 42), given("", "", 42), given("x", "c", 42), given("*", "c", 42), given("i", "i", 42), given("c", "i", 42),
	} {
		takeTo(t, m, p, m)
	}
	plain := m
	plain.Runs = []impl.MateRun{{Want: impl.MateWant{Copy: "c", Version: 1}, State: impl.MateReady}}
	takeTo(t, plain, given("i", "c", 42), plain)
	takeTo(t, plain, given("", "c", 42), plain)
	none := m
	none.Runs = nil
	takeTo(t, none, given("i", "c", 42), none)
	back := m
	back.Asks, back.Gives = m.Asks[1:], m.Asks[:1]
	takeTo(t, back, given("i", "c", 42), back)
	silent := m
	silent.Asks = nil
	takeTo(t, silent, given("i", "c", 42), silent)
}

// A run that is no longer wanted, or not yet known to be, has its lease all the same.
func TestGivenToWhatIsNotWanted(t *testing.T) {
	for _, wants := range [][]impl.MateWant{nil, {{Copy: "c", Version: 2, Hold: "i"}}, {{Copy: "c", Version: 2}}} {
		m := leasedMate(impl.MateStopping, 54)
		m.Wants = wants
		want := leasedMate(impl.MateStopping, 58)
		want.Wants = wants
		takeTo(t, m, given("i", "c", 42), want)
	}
	m := leasedMate(impl.MateReady, 54)
	m.Known, m.Wants = false, nil
	want := leasedMate(impl.MateReady, 58)
	want.Known, want.Wants = false, nil
	takeTo(t, m, given("i", "c", 42), want)
}

func TestGivenAtTheEndOfTheClock(t *testing.T) {
	m := leasedMate(impl.MateWaiting, 0)
	m.Clock = impl.MateMaxClock
	m.Asks[0].At = impl.MateMaxClock
	want := m
	want.Runs = slices.Clone(m.Runs)
	want.Runs[0].Until = impl.MateMaxClock + impl.MateLease
	takeTo(t, m, given("i", "c", impl.MateMaxClock), want)
	takeTo(t, m, given("i", "c", impl.MateMaxClock+1), m)
}

func TestGotBack(t *testing.T) {
	m := busyMate()
	m.Gives = []impl.MateAsk{{Hold: "b", Copy: "q", First: 20, At: 26}, {Hold: "m", Copy: "q", First: 26, At: 26}, {Hold: "w", Copy: "q", First: 9, At: 9}}
	for i, g := range m.Gives {
		want := m
		want.Gives = slices.Delete(slices.Clone(m.Gives), i, i+1)
		takeTo(t, m, gotBack(g.Hold, g.At), want)
	}
	for _, p := range []impl.MateParcel{
		gotBack("b", 25), gotBack("b", 27), gotBack("b", 20), gotBack("b", 9), gotBack("b", 0), gotBack("b", math.MaxInt), gotBack("b", math.MinInt),
		gotBack("w", 26), gotBack("h", 46), gotBack("k", 50), gotBack("z", 44), gotBack("", 0), gotBack("", 26), gotBack("q", 26), gotBack("*", 26),
	} {
		takeTo(t, m, p, m)
	}
	m.Gives = asksOf(impl.MateMaxHolds, "i")
	want := m
	want.Gives = m.Gives[:impl.MateMaxHolds-1]
	takeTo(t, m, gotBack("i39", 20), want)
}

// telling are parcels each of which changes busyMate when it is brought to it.
func telling() []impl.MateParcel {
	return []impl.MateParcel{told(8, wantsOf(2)), given("k", "e", 50), gotBack("b", 26)}
}

func TestParcelsForAnotherBerth(t *testing.T) {
	for _, p := range telling() {
		if m := busyMate(); same(impl.MateTake(m, p), m) {
			t.Errorf("%+v changes nothing", p)
		}
		for _, berth := range []string{"", "b", "A", "aa", " a", "a\x00"} {
			p.Berth = berth
			takeTo(t, busyMate(), p, busyMate())
		}
	}
}

// One that is down hears nothing.
func TestParcelsForAMateThatIsDown(t *testing.T) {
	m := downMate()
	for _, p := range append(telling(), told(1, nil), given("h", "c", 46), given("h", "v", 40)) {
		takeTo(t, m, p, m)
	}
	takeTo(t, impl.Mate{Name: "a"}, told(1, nil), impl.Mate{Name: "a"})
}

// A Kind that is none of the six, or a berth's own, changes nothing.
func TestParcelsOfOtherKinds(t *testing.T) {
	for _, kind := range []int{math.MinInt, -1, 0, impl.MateAsked, impl.MateBack, impl.MateHere, 7, 8, 256 + impl.MateTold, math.MaxInt} {
		for _, p := range telling() {
			p.Kind = kind
			takeTo(t, busyMate(), p, busyMate())
			takeTo(t, quietMate(), p, quietMate())
		}
	}
}

// From the first word to a lease, and back: what was given for an older ask
// counts no more.
func TestLifeOfALease(t *testing.T) {
	w := impl.MateWant{Copy: "c", Version: 1, Hold: "i"}
	m := impl.MateTake(quietMate(), told(1, []impl.MateWant{w}))
	m, _ = impl.MateTick(m, 2) // pulled and asked for at 52
	m, _ = impl.MateTick(m, 2) // waiting at 54
	m = impl.MateTake(m, given("i", "c", 52))
	if m.Runs[0].Until != 68 {
		t.Fatalf("until %d", m.Runs[0].Until)
	}
	m, _ = impl.MateTick(m, 2) // starting at 56
	m = impl.MateTake(m, told(2, nil))
	m, _ = impl.MateTick(m, 2) // stopping at 58
	m, _ = impl.MateTick(m, 2) // gone at 60
	if len(m.Runs) != 0 || len(m.Asks) != 0 || !same(m.Gives, []impl.MateAsk{{Hold: "i", Copy: "c", First: 52, At: 52}}) {
		t.Fatalf("%+v", m)
	}
	m = impl.MateTake(m, told(3, []impl.MateWant{w}))
	m, sent := impl.MateTick(m, 2)
	if !same(sent, []impl.MateParcel{back("i", "c", 52), here(3)}) {
		t.Errorf("sent %+v", sent)
	}
	m = impl.MateTake(m, gotBack("i", 52))
	m, sent = impl.MateTick(m, 2)
	if !same(sent, []impl.MateParcel{asked("i", "c", 64), here(3)}) {
		t.Errorf("sent %+v", sent)
	}
	m = impl.MateTake(m, given("i", "c", 52)) // the old one, once more
	if m.Runs[0].Until != 0 {
		t.Errorf("an old lease counts: %+v", m.Runs)
	}
	if m = impl.MateTake(m, given("i", "c", 64)); m.Runs[0].Until != 80 {
		t.Errorf("the new one does not: %+v", m.Runs)
	}
}
