package tests

import (
	"math"
	"slices"
	"strings"
	"testing"

	"loop.example/wharfmate/impl"
)

// to gives the parcel with another Berth.
func to(berth string, p impl.MateParcel) impl.MateParcel {
	p.Berth = berth
	return p
}

// landTakeTo sees that l, when it takes p, is as wanted and answers so, that
// all of it is ok, and that promise 9 holds.
func landTakeTo(t *testing.T, l impl.MateLand, p impl.MateParcel, want impl.MateLand, answers ...impl.MateParcel) {
	t.Helper()
	got, sent := impl.MateLandTake(l, p)
	if !same(got, want) {
		t.Errorf("%+v leads from\n%+v to\n%+v, not\n%+v", p, l, got, want)
	}
	if !same(sent, answers) {
		t.Errorf("%+v is answered\n%+v, not\n%+v", p, sent, answers)
	}
	keepsPromise9(t, l, p)
}

// askLand has a place for a, which wants the hold h for c, and one for b; and
// grants of other holds.
func askLand(grants ...impl.MateGrant) impl.MateLand {
	l := busyLand()
	l.Grants = append(slices.Clone(grants), l.Grants[1:]...)
	return l
}

// granted is the book with the grant of a hold, in its place.
func granted(l impl.MateLand, g impl.MateGrant) impl.MateLand {
	list := slices.DeleteFunc(slices.Clone(l.Grants), func(o impl.MateGrant) bool { return o.Hold == g.Hold })
	l.Grants = append(list, g)
	slices.SortFunc(l.Grants, func(a, b impl.MateGrant) int { return strings.Compare(a.Hold, b.Hold) })
	return l
}

func TestAskForAHoldThatIsFree(t *testing.T) {
	for _, at := range []int{0, 1, 49, 50, 51, impl.MateMaxClock} {
		l := askLand()
		landTakeTo(t, l, asked("h", "c", at), granted(l, impl.MateGrant{Hold: "h", Berth: "a", Copy: "c", At: at, Until: 82}), given("h", "c", at))
		landTakeTo(t, l, to("b", asked("j", "c", at)), granted(l, impl.MateGrant{Hold: "j", Berth: "b", Copy: "c", At: at, Until: 82}), to("b", given("j", "c", at)))
	}
	l := askLand()
	l.Grants = nil
	landTakeTo(t, l, asked("h", "c", 4), granted(l, impl.MateGrant{Hold: "h", Berth: "a", Copy: "c", At: 4, Until: 82}), given("h", "c", 4))
}

func TestAskAtAnyTime(t *testing.T) {
	for _, time := range []int{0, 2, 1000, 2*impl.MateMaxClock - 2, 2 * impl.MateMaxClock} {
		l := askLand()
		l.Time, l.Grants = time, nil
		landTakeTo(t, l, asked("h", "c", 4), granted(l, impl.MateGrant{Hold: "h", Berth: "a", Copy: "c", At: 4, Until: time + 32}), given("h", "c", 4))
	}
}

// What has a grant already is given again if that is over, or to the one who
// has it for an ask that is no older.
func TestAskForAHoldThatIsGiven(t *testing.T) {
	p := asked("h", "c", 40)
	for _, berth := range []string{"a", "b", "q"} {
		for _, copy := range []string{"c", "d"} {
			for _, at := range []int{0, 39, 40, 41, impl.MateMaxClock} {
				for _, until := range []int{0, 1, 48, 49, 50, 51, 52, 82} {
					l := askLand(impl.MateGrant{Hold: "h", Berth: berth, Copy: copy, At: at, Until: until})
					if until <= 50 || berth == "a" && copy == "c" && at <= 40 {
						landTakeTo(t, l, p, granted(l, impl.MateGrant{Hold: "h", Berth: "a", Copy: "c", At: 40, Until: 82}), given("h", "c", 40))
					} else {
						landTakeTo(t, l, p, l)
					}
				}
			}
		}
	}
}

func TestAskThatIsOlder(t *testing.T) {
	l := askLand(impl.MateGrant{Hold: "h", Berth: "a", Copy: "c", At: 40, Until: 60})
	for _, at := range []int{0, 10, 38, 39} {
		landTakeTo(t, l, asked("h", "c", at), l)
		over := l
		over.Time = 60
		landTakeTo(t, over, asked("h", "c", at), granted(over, impl.MateGrant{Hold: "h", Berth: "a", Copy: "c", At: at, Until: 92}), given("h", "c", at))
	}
}

func TestAskForWhatIsNotWanted(t *testing.T) {
	for _, l := range []impl.MateLand{busyLand(), askLand(), {Time: 50}} {
		for _, p := range []impl.MateParcel{
			asked("h", "d", 45), asked("j", "c", 45), asked("j", "d", 45), asked("k", "e", 45), asked("h", "cc", 45), asked("hh", "c", 45), asked("H", "c", 45), asked("i", "c", 45),
			to("b", asked("h", "c", 45)), to("b", asked("k", "c", 45)), to("b", asked("j", "e", 45)), to("c", asked("h", "c", 45)), to("aa", asked("h", "c", 45)), to("q", asked("z", "x", 45)),
		} {
			landTakeTo(t, l, p, l)
		}
	}
}

// The place that wants the hold no longer is given it no more, and another
// that wants it not before the grant is over or back.
func TestAskForAHoldThatHasMoved(t *testing.T) {
	l := busyLand()
	l.Places = []impl.MatePlace{{Berth: "a", Seen: 8}, {Berth: "b", Seen: 2, Wants: []impl.MateWant{holdWant()}}}
	for l.Time < 70 {
		landTakeTo(t, l, asked("h", "c", 99), l)
		landTakeTo(t, l, to("b", asked("h", "c", 99)), l)
		l, _ = impl.MateLandTick(l)
	}
	landTakeTo(t, l, asked("h", "c", 99), l)
	landTakeTo(t, l, to("b", asked("h", "c", 3)), granted(l, impl.MateGrant{Hold: "h", Berth: "b", Copy: "c", At: 3, Until: 102}), to("b", given("h", "c", 3)))

	l.Time = 52
	l, _ = impl.MateLandTake(l, back("h", "c", 40))
	landTakeTo(t, l, to("b", asked("h", "c", 3)), granted(l, impl.MateGrant{Hold: "h", Berth: "b", Copy: "c", At: 3, Until: 84}), to("b", given("h", "c", 3)))
}

// fullLand has as many grants as may be, none of h, which a wants, of which so
// many are over by just now.
func fullLand(over int) impl.MateLand {
	l := busyLand()
	l.Grants = grantsOf(impl.MateMaxHolds, "i", 51)
	for i := range over {
		l.Grants[(7*i+5)%impl.MateMaxHolds].Until = 50 - i%2
	}
	return l
}

func TestAskOfAFullBook(t *testing.T) {
	for _, over := range []int{0, 1, 2, 39, 40} {
		l := fullLand(over)
		if over == 0 {
			landTakeTo(t, l, asked("h", "c", 45), l)
			continue
		}
		want := fullLand(over)
		want.Grants = slices.DeleteFunc(want.Grants, func(g impl.MateGrant) bool { return g.Until <= 50 })
		if len(want.Grants) != impl.MateMaxHolds-over {
			t.Fatalf("%d grants last", len(want.Grants))
		}
		want = granted(want, impl.MateGrant{Hold: "h", Berth: "a", Copy: "c", At: 45, Until: 82})
		landTakeTo(t, l, asked("h", "c", 45), want, given("h", "c", 45))
	}
}

// What is not given takes nothing out, and what has its place already needs no room.
func TestAskOfAFullBookThatNeedsNoRoom(t *testing.T) {
	for _, over := range []int{0, 1, 40} {
		l := fullLand(over)
		landTakeTo(t, l, asked("h", "d", 45), l)
		landTakeTo(t, l, to("b", asked("h", "c", 45)), l)
		for _, g := range []impl.MateGrant{{Hold: "h", Berth: "a", Copy: "c", At: 40, Until: 51}, {Hold: "h", Berth: "a", Copy: "c", At: 40, Until: 50}, {Hold: "h", Berth: "q", Copy: "x", At: 40, Until: 49}} {
			l := fullLand(over)
			l.Grants = l.Grants[1:]
			l = granted(l, g)
			landTakeTo(t, l, asked("h", "c", 45), granted(l, impl.MateGrant{Hold: "h", Berth: "a", Copy: "c", At: 45, Until: 82}), given("h", "c", 45))
		}
		l.Grants = l.Grants[1:]
		landTakeTo(t, l, asked("h", "c", 45), granted(l, impl.MateGrant{Hold: "h", Berth: "a", Copy: "c", At: 45, Until: 82}), given("h", "c", 45))
		l = granted(l, impl.MateGrant{Hold: "h", Berth: "q", Copy: "c", At: 1, Until: 51})
		landTakeTo(t, l, asked("h", "c", 45), l)
	}
}

func TestGiveBack(t *testing.T) {
	for _, berth := range []string{"a", "b", "q"} {
		for _, copy := range []string{"c", "other"} {
			for _, at := range []int{0, 39, 40, 41, impl.MateMaxClock} {
				for _, until := range []int{0, 50, 51, 82} {
					l := askLand(impl.MateGrant{Hold: "h", Berth: berth, Copy: "c", At: at, Until: until})
					want := l
					if berth == "a" && at <= 40 {
						want = askLand()
					}
					landTakeTo(t, l, back("h", copy, 40), want, gotBack("h", 40))
				}
			}
		}
	}
}

func TestGiveBackAtTheEndsOfTheClock(t *testing.T) {
	for _, at := range []int{0, impl.MateMaxClock} {
		l := askLand(impl.MateGrant{Hold: "h", Berth: "a", Copy: "c", At: at, Until: 60})
		landTakeTo(t, l, back("h", "c", at), askLand(), gotBack("h", at))
	}
}

// The book answers also where it has no such grant, and where it has no such place.
func TestGiveBackOfWhatIsNotThere(t *testing.T) {
	for _, l := range []impl.MateLand{{}, askLand(), busyLand(), fullLand(0), fullLand(40)} {
		for _, berth := range []string{"a", "b", "nobody", "*"} {
			landTakeTo(t, l, to(berth, back("none", "c", 45)), l, to(berth, gotBack("none", 45)))
			landTakeTo(t, l, to(berth, back("none", "*", 0)), l, to(berth, gotBack("none", 0)))
		}
	}
}

// What is over does not count for a give: it is of the berth or not.
func TestGiveBackOfWhatIsOver(t *testing.T) {
	l := busyLand()
	want := busyLand()
	want.Grants = slices.Delete(want.Grants, 1, 2)
	landTakeTo(t, l, to("b", back("k", "e", 30)), want, to("b", gotBack("k", 30)))
	landTakeTo(t, l, to("b", back("k", "e", 29)), l, to("b", gotBack("k", 29)))
	landTakeTo(t, l, back("k", "e", 30), l, gotBack("k", 30))
}

// wrongParcels are parcels of a kind of which one part is not as the book asks.
func wrongParcels(kind int) []impl.MateParcel {
	good := impl.MateParcel{Kind: kind, Berth: "a", Hold: "h", Copy: "c", At: 45}
	var list []impl.MateParcel
	add := func(change func(p *impl.MateParcel)) {
		p := good
		change(&p)
		list = append(list, p)
	}
	for _, c := range names {
		if !c.name {
			add(func(p *impl.MateParcel) { p.Berth = c.text })
			add(func(p *impl.MateParcel) { p.Copy = c.text })
			add(func(p *impl.MateParcel) { p.Hold = c.text })
		}
	}
	add(func(p *impl.MateParcel) { p.Hold = "*" })
	for _, at := range []int{math.MinInt, -1, impl.MateMaxClock + 1, math.MaxInt} {
		add(func(p *impl.MateParcel) { p.At = at })
	}
	return list
}

func TestParcelsThatAreNotAsTheBookAsks(t *testing.T) {
	for _, l := range []impl.MateLand{busyLand(), askLand(), {Time: 50}} {
		for kind := -1; kind <= 7; kind++ {
			for _, p := range wrongParcels(kind) {
				landTakeTo(t, l, p, l)
			}
		}
	}
}

func TestParcelsThatAreNotForTheBook(t *testing.T) {
	for _, l := range []impl.MateLand{busyLand(), askLand(), {Time: 50}} {
		for _, kind := range []int{math.MinInt, -1, 0, impl.MateTold, impl.MateGiven, impl.MateGotBack, impl.MateHere, 7, 8, math.MaxInt} {
			p := asked("h", "c", 45)
			p.Kind = kind
			landTakeTo(t, l, p, l)
			p.Seen, p.Wants = 9, wantsOf(1)
			landTakeTo(t, l, p, l)
		}
		landTakeTo(t, l, told(9, wantsOf(1)), l)
		landTakeTo(t, l, here(7), l)
		landTakeTo(t, l, impl.MateParcel{}, l)
	}
}

// A parcel may have parts that its Kind does not use: they count nothing, and
// are not answered.
func TestPartsThatTheBookDoesNotUse(t *testing.T) {
	l := busyLand()
	for _, wants := range [][]impl.MateWant{wantsOf(2), {{}}} {
		p, q := asked("h", "c", 45), back("h", "c", 45)
		p.Seen, p.Wants = -3, wants
		q.Seen, q.Wants = 12, wants
		landTakeTo(t, l, p, granted(l, impl.MateGrant{Hold: "h", Berth: "a", Copy: "c", At: 45, Until: 82}), given("h", "c", 45))
		landTakeTo(t, l, q, askLand(), gotBack("h", 45))
	}
}

// A mate and the book with what they send to each other, from the first want
// to the last give.
func TestABookAndAMate(t *testing.T) {
	w := impl.MateWant{Copy: "c", Version: 1, Hold: "h", Pull: 1, Start: 1, Grace: 2}
	l, code := impl.MatePut(impl.MateLand{}, "a", []impl.MateWant{w})
	if code != 0 {
		t.Fatal(code)
	}
	m := impl.Mate{Name: "a", Up: true}
	round := func() {
		next, words := impl.MateLandTick(l)
		l = next
		var sent []impl.MateParcel
		m, sent = impl.MateTick(m, 2)
		for _, p := range sent {
			var answers []impl.MateParcel
			l, answers = impl.MateLandTake(l, p)
			words = append(words, answers...)
		}
		for _, p := range words {
			m = impl.MateTake(m, p)
		}
	}
	for range 20 {
		round()
	}
	if len(m.Runs) != 1 || m.Runs[0].State != impl.MateReady || len(l.Grants) != 1 || l.Grants[0].Until <= l.Time {
		t.Errorf("behind 20 rounds: %+v %+v", m, l)
	}
	l, _ = impl.MatePut(l, "a", nil)
	for range 6 {
		round()
	}
	if len(m.Runs)+len(m.Asks)+len(m.Gives)+len(l.Grants) != 0 {
		t.Errorf("behind the last want: %+v %+v", m, l)
	}
}
