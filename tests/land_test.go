package tests

import (
	"fmt"
	"math"
	"slices"
	"strings"
	"testing"

	"loop.example/wharfmate/impl"
)

// busyLand has two places, and grants that last, are over just now and have
// lasted for no time yet.
func busyLand() impl.MateLand {
	c, d := holdWant(), plainWant()
	d.Copy = "d"
	other, e := plainWant(), plainWant()
	other.Hold = "j"
	e.Copy, e.Hold = "e", "k"
	return impl.MateLand{
		Time: 50,
		Grants: []impl.MateGrant{
			{Hold: "h", Berth: "a", Copy: "c", At: 40, Until: 70},
			{Hold: "k", Berth: "b", Copy: "e", At: 30, Until: 50},
			{Hold: "z", Berth: "q", Copy: "x", At: 0, Until: 82},
		},
		Places: []impl.MatePlace{{Berth: "a", Seen: 7, Wants: []impl.MateWant{c, d}}, {Berth: "b", Seen: 1, Wants: []impl.MateWant{other, e}}},
	}
}

// grantsOf gives n grants that are ok at each Time, of the holds front0, front1 ..
// in their order.
func grantsOf(n int, front string, until int) []impl.MateGrant {
	var list []impl.MateGrant
	for i := range n {
		list = append(list, impl.MateGrant{Hold: fmt.Sprintf("%s%02d", front, i), Berth: "b", Copy: "c", At: 3, Until: until})
	}
	return list
}

// placesOf gives n places without wants, of the berths a, b ..
func placesOf(n int) []impl.MatePlace {
	var list []impl.MatePlace
	for i := range n {
		list = append(list, impl.MatePlace{Berth: string(rune('a' + i)), Seen: 1})
	}
	return list
}

func TestOrdinaryBooksAreOk(t *testing.T) {
	for i, l := range []impl.MateLand{{}, {Time: 2}, busyLand(), {Grants: []impl.MateGrant{}, Places: []impl.MatePlace{}}} {
		if !impl.MateLandOk(l) {
			t.Errorf("book %d is not ok: %+v", i, l)
		}
	}
}

// What may be met exactly, and what no condition bars.
func TestBooksAtTheLimits(t *testing.T) {
	longest := strings.Repeat("~", impl.MateMaxName)
	for name, change := range map[string]func(l *impl.MateLand){
		"last Time":             func(l *impl.MateLand) { l.Time = 2 * impl.MateMaxClock },
		"no grants":             func(l *impl.MateLand) { l.Grants = nil },
		"most grants":           func(l *impl.MateLand) { l.Grants = grantsOf(impl.MateMaxHolds, "i", 82) },
		"grants in bytes":       func(l *impl.MateLand) { l.Grants[0].Hold, l.Grants[1].Hold, l.Grants[2].Hold = "B", "a", "ab" },
		"longest Hold":          func(l *impl.MateLand) { l.Grants[2].Hold = longest },
		"longest Copy":          func(l *impl.MateLand) { l.Grants[0].Copy = longest },
		"Copy *":                func(l *impl.MateLand) { l.Grants[0].Copy = "*" },
		"Berth of a grant *":    func(l *impl.MateLand) { l.Grants[0].Berth = "*" },
		"longest Berth":         func(l *impl.MateLand) { l.Grants[0].Berth = longest },
		"one grant for two":     func(l *impl.MateLand) { l.Grants[1].Berth, l.Grants[1].Copy = "a", "c" },
		"At 0":                  func(l *impl.MateLand) { l.Grants[0].At = 0 },
		"last At":               func(l *impl.MateLand) { l.Grants[0].At = impl.MateMaxClock },
		"Until 0":               func(l *impl.MateLand) { l.Grants[0].Until = 0 },
		"last Until":            func(l *impl.MateLand) { l.Grants[0].Until = 82 },
		"Until that is odd":     func(l *impl.MateLand) { l.Grants[0].Until = 71 },
		"no places":             func(l *impl.MateLand) { l.Places = nil },
		"most places":           func(l *impl.MateLand) { l.Places = placesOf(impl.MateMaxBerths) },
		"places in bytes":       func(l *impl.MateLand) { l.Places[0].Berth, l.Places[1].Berth = "B", "a" },
		"a place *":             func(l *impl.MateLand) { l.Places[0].Berth = "*" },
		"longest place":         func(l *impl.MateLand) { l.Places[1].Berth = longest },
		"Seen 1":                func(l *impl.MateLand) { l.Places[0].Seen = 1 },
		"last Seen":             func(l *impl.MateLand) { l.Places[0].Seen = impl.MateMaxVersion },
		"no wants":              func(l *impl.MateLand) { l.Places[0].Wants = nil },
		"most wants":            func(l *impl.MateLand) { l.Places[0].Wants = wantsOf(impl.MateMaxWants) },
		"one copy at two":       func(l *impl.MateLand) { l.Places[1].Wants[0].Copy = "c" },
		"no holds at two":       func(l *impl.MateLand) { l.Places[0].Wants[0].Hold, l.Places[1].Wants[0].Hold = "", "" },
		"a grant not wanted":    func(l *impl.MateLand) { l.Places[0].Wants[0].Hold = "unknown" },
		"a hold as a beginning": func(l *impl.MateLand) { l.Places[1].Wants[0].Hold = "h2" },
	} {
		l := busyLand()
		change(&l)
		if !impl.MateLandOk(l) {
			t.Errorf("%s: not ok: %+v", name, l)
		}
	}
	for _, time := range []int{0, 2, 1000, 2*impl.MateMaxClock - 2, 2 * impl.MateMaxClock} {
		for _, off := range []int{-1, 0, 1} {
			l := impl.MateLand{Time: time, Grants: grantsOf(2, "i", time+32+off)}
			if impl.MateLandOk(l) != (off <= 0) {
				t.Errorf("Time %d, Until %d: not %v", time, time+32+off, off <= 0)
			}
		}
	}
}

// spoiledLands gives books that are not ok, each by one condition alone.
func spoiledLands() map[string]impl.MateLand {
	out := map[string]impl.MateLand{}
	add := func(name string, l impl.MateLand, change func(l *impl.MateLand)) {
		change(&l)
		out[name] = l
	}
	for _, time := range []int{math.MinInt, math.MinInt + 1, -2, -1, 1, 51, 2*impl.MateMaxClock - 1, 2*impl.MateMaxClock + 1, 2*impl.MateMaxClock + 2, math.MaxInt - 1, math.MaxInt} {
		add(fmt.Sprint("Time ", time), impl.MateLand{Places: placesOf(2)}, func(l *impl.MateLand) { l.Time = time })
	}
	for name, change := range spoilGrants() {
		add("Grants "+name, busyLand(), change)
	}
	for name, change := range spoilPlaces() {
		add("Places "+name, busyLand(), change)
	}
	for _, c := range names {
		if !c.name {
			add("a Berth of a grant "+c.text, busyLand(), func(l *impl.MateLand) { l.Grants[1].Berth = c.text })
			add("a Copy of a grant "+c.text, busyLand(), func(l *impl.MateLand) { l.Grants[1].Copy = c.text })
			add("the Hold of a grant "+c.text, busyLand(), func(l *impl.MateLand) { l.Grants = l.Grants[:1]; l.Grants[0].Hold = c.text })
			add("the Berth of a place "+c.text, busyLand(), func(l *impl.MateLand) { l.Places = l.Places[:1]; l.Places[0].Berth = c.text })
		}
	}
	return out
}

func spoilGrants() map[string]func(l *impl.MateLand) {
	return map[string]func(l *impl.MateLand){
		"too many":      func(l *impl.MateLand) { l.Grants = grantsOf(impl.MateMaxHolds+1, "i", 70) },
		"far too many":  func(l *impl.MateLand) { l.Grants = grantsOf(100, "i", 70) },
		"not in order":  func(l *impl.MateLand) { slices.Reverse(l.Grants) },
		"last too low":  func(l *impl.MateLand) { l.Grants[2].Hold = "a" },
		"of one hold":   func(l *impl.MateLand) { l.Grants[1].Hold = "h" },
		"of the hold *": func(l *impl.MateLand) { l.Grants[0].Hold = "*" },
		"At below":      func(l *impl.MateLand) { l.Grants[1].At = -1 },
		"At above":      func(l *impl.MateLand) { l.Grants[1].At = impl.MateMaxClock + 1 },
		"Until below":   func(l *impl.MateLand) { l.Grants[2].Until = -1 },
		"Until above":   func(l *impl.MateLand) { l.Grants[0].Until = 83 },
		"At far below":  func(l *impl.MateLand) { l.Grants[1].At = math.MinInt },
		"Until far up":  func(l *impl.MateLand) { l.Grants[2].Until = math.MaxInt },
	}
}

func spoilPlaces() map[string]func(l *impl.MateLand) {
	return map[string]func(l *impl.MateLand){
		"too many":        func(l *impl.MateLand) { l.Places = placesOf(impl.MateMaxBerths + 1) },
		"far too many":    func(l *impl.MateLand) { l.Places = placesOf(20) },
		"not in order":    func(l *impl.MateLand) { slices.Reverse(l.Places) },
		"of one berth":    func(l *impl.MateLand) { l.Places[1].Berth = "a" },
		"Seen 0":          func(l *impl.MateLand) { l.Places[1].Seen = 0 },
		"Seen below":      func(l *impl.MateLand) { l.Places[0].Seen = math.MinInt },
		"Seen above":      func(l *impl.MateLand) { l.Places[0].Seen = impl.MateMaxVersion + 1 },
		"too many wants":  func(l *impl.MateLand) { l.Places[0].Wants = wantsOf(impl.MateMaxWants + 1) },
		"a wrong want":    func(l *impl.MateLand) { l.Places[1].Wants[1].Version = 0 },
		"wants astray":    func(l *impl.MateLand) { slices.Reverse(l.Places[0].Wants) },
		"one hold twice":  func(l *impl.MateLand) { l.Places[0].Wants[1].Hold = "h" },
		"one hold at two": func(l *impl.MateLand) { l.Places[1].Wants[1].Hold = "h" },
		"one hold at the first and the last": func(l *impl.MateLand) {
			l.Places = placesOf(impl.MateMaxBerths)
			l.Places[0].Wants, l.Places[3].Wants = wantsOf(impl.MateMaxWants), wantsOf(1)
		},
	}
}

func TestEachConditionOfABook(t *testing.T) {
	for name, l := range spoiledLands() {
		if impl.MateLandOk(l) {
			t.Errorf("%.60s: ok: %+v", name, l)
		}
	}
}

func TestOfABookThatIsNotOkThereIsNothing(t *testing.T) {
	for name, l := range spoiledLands() {
		for _, berth := range []string{"a", "c", ""} {
			for _, wants := range [][]impl.MateWant{nil, wantsOf(1), {{}}} {
				if got, code := impl.MatePut(l, berth, wants); code != 1 || !same(got, impl.MateLand{}) {
					t.Errorf("%.60s: put gives %+v and code %d", name, got, code)
				}
			}
		}
		if got, sent := impl.MateLandTick(l); len(sent) != 0 || !same(got, impl.MateLand{}) {
			t.Errorf("%.60s: a tick gives %+v and sends %+v", name, got, sent)
		}
		for kind := -1; kind <= 7; kind++ {
			p := impl.MateParcel{Kind: kind, Berth: "a", Hold: "h", Copy: "c", At: 46}
			if got, sent := impl.MateLandTake(l, p); len(sent) != 0 || !same(got, impl.MateLand{}) {
				t.Errorf("%.60s: kind %d gives %+v and answers %+v", name, kind, got, sent)
			}
		}
	}
}

// landTickTo sees that a tick of l leads to want and tells so, and that all of it is ok.
func landTickTo(t *testing.T, l, want impl.MateLand, parcels ...impl.MateParcel) {
	t.Helper()
	got, sent := impl.MateLandTick(l)
	if !same(got, want) || !impl.MateLandOk(got) {
		t.Errorf("a tick leads to\n%+v, not\n%+v", got, want)
	}
	if !same(sent, parcels) {
		t.Errorf("a tick sends\n%+v, not\n%+v", sent, parcels)
	}
	haveForms(t, sent)
}

func TestTickOfABook(t *testing.T) {
	l := busyLand()
	want := busyLand()
	want.Time = 52
	landTickTo(t, l, want, told(7, l.Places[0].Wants), to("b", told(1, l.Places[1].Wants)))
	landTickTo(t, impl.MateLand{}, impl.MateLand{Time: 2})
	empty := impl.MateLand{Time: 6, Places: placesOf(1)}
	landTickTo(t, empty, impl.MateLand{Time: 8, Places: placesOf(1)}, told(1, nil))
}

func TestTickOfAFullBook(t *testing.T) {
	l := impl.MateLand{Time: 8, Grants: grantsOf(impl.MateMaxHolds, "i", 3), Places: placesOf(impl.MateMaxBerths)}
	var sent []impl.MateParcel
	for i := range l.Places {
		l.Places[i].Seen = impl.MateMaxVersion - i
		l.Places[i].Wants = wantsOf(impl.MateMaxWants)
		for n := range l.Places[i].Wants {
			l.Places[i].Wants[n].Hold += l.Places[i].Berth
		}
		sent = append(sent, to(l.Places[i].Berth, told(l.Places[i].Seen, l.Places[i].Wants)))
	}
	want := l
	want.Time = 10
	landTickTo(t, l, want, sent...)
}

func TestTickAtTheEndOfTime(t *testing.T) {
	l := busyLand()
	l.Time = 2*impl.MateMaxClock - 2
	want := busyLand()
	want.Time = 2 * impl.MateMaxClock
	landTickTo(t, l, want, told(7, l.Places[0].Wants), to("b", told(1, l.Places[1].Wants)))
	landTickTo(t, want, want)
	bare := impl.MateLand{Time: 2 * impl.MateMaxClock}
	landTickTo(t, bare, bare)
}

// putTo sees that a put of wants leads to a book and a code.
func putTo(t *testing.T, l impl.MateLand, berth string, wants []impl.MateWant, want impl.MateLand, code int) {
	t.Helper()
	got, c := impl.MatePut(l, berth, wants)
	if !same(got, want) || c != code {
		t.Errorf("put %.30q %+v leads to code %d and\n%+v, not %d and\n%+v", berth, wants, c, got, code, want)
	}
	if !impl.MateLandOk(got) {
		t.Errorf("put %.30q %+v leads to %+v, which is not ok", berth, wants, got)
	}
}

func TestPutAtAPlace(t *testing.T) {
	for _, wants := range [][]impl.MateWant{nil, {}, {plainWant()}, {holdWant()}, busyLand().Places[0].Wants, wantsOf(impl.MateMaxWants)} {
		want := busyLand()
		want.Places[0].Seen, want.Places[0].Wants = 8, wants
		putTo(t, busyLand(), "a", wants, want, 0)
	}
}

func TestPutAtANewPlace(t *testing.T) {
	for i, berth := range []string{"A", "ab", "c"} {
		for _, wants := range [][]impl.MateWant{nil, {plainWant()}, wantsOf(impl.MateMaxWants)} {
			want := busyLand()
			want.Places = slices.Insert(want.Places, i, impl.MatePlace{Berth: berth, Seen: 1, Wants: wants})
			putTo(t, busyLand(), berth, wants, want, 0)
		}
	}
	putTo(t, impl.MateLand{}, "a", nil, impl.MateLand{Places: placesOf(1)}, 0)
}

func TestPutOfNoNameOrOfWrongWants(t *testing.T) {
	for _, c := range names {
		_, code := impl.MatePut(busyLand(), c.text, nil)
		if code == 2 == c.name || c.name && code != 0 {
			t.Errorf("put at %.30q: code %d", c.text, code)
		}
		if !c.name {
			putTo(t, busyLand(), c.text, wantsOf(1), busyLand(), 2)
		}
	}
	astray, twice := wantsOf(3), wantsOf(3)
	slices.Reverse(astray)
	twice[2].Hold = twice[0].Hold
	for _, wants := range [][]impl.MateWant{{{}}, wantsOf(impl.MateMaxWants + 1), astray, twice, {{Copy: "c", Version: 1, Hold: "*"}}, slices.Repeat(wantsOf(5), 1000)} {
		for _, berth := range []string{"a", "c", ""} {
			putTo(t, busyLand(), berth, wants, busyLand(), 2)
		}
	}
}

func TestPutOfAHoldThatIsWantedElsewhere(t *testing.T) {
	l := busyLand()
	for _, hold := range []string{"j", "k"} {
		w := plainWant()
		w.Hold = hold
		putTo(t, l, "a", []impl.MateWant{w}, l, 3)
		putTo(t, l, "c", []impl.MateWant{w}, l, 3)
		w.Copy = "another"
		putTo(t, l, "a", []impl.MateWant{w, plainWant()}, l, 3)
		want := busyLand()
		want.Places[1] = impl.MatePlace{Berth: "b", Seen: 2, Wants: []impl.MateWant{w}}
		putTo(t, l, "b", []impl.MateWant{w}, want, 0)
	}
}

// A hold may go from a place to another once the first wants it no longer,
// also where its grant lasts on.
func TestPutOfAHoldThatMoves(t *testing.T) {
	l, code := impl.MatePut(busyLand(), "a", nil)
	if code != 0 {
		t.Fatal(code)
	}
	want := busyLand()
	want.Places = []impl.MatePlace{{Berth: "a", Seen: 8}, {Berth: "b", Seen: 2, Wants: []impl.MateWant{holdWant()}}}
	putTo(t, l, "b", []impl.MateWant{holdWant()}, want, 0)
}

func TestPutAtAFifthPlace(t *testing.T) {
	l := impl.MateLand{Places: placesOf(impl.MateMaxBerths - 1)}
	putTo(t, l, "d", nil, impl.MateLand{Places: placesOf(impl.MateMaxBerths)}, 0)
	l.Places = placesOf(impl.MateMaxBerths)
	for _, berth := range []string{"A", "ab", "e"} {
		putTo(t, l, berth, nil, l, 3)
		putTo(t, l, berth, wantsOf(impl.MateMaxWants), l, 3)
	}
	for i, p := range l.Places {
		want := impl.MateLand{Places: placesOf(impl.MateMaxBerths)}
		want.Places[i].Seen, want.Places[i].Wants = 2, wantsOf(2)
		putTo(t, l, p.Berth, wantsOf(2), want, 0)
	}
}

func TestPutAtTheLastSeen(t *testing.T) {
	l, want := busyLand(), busyLand()
	l.Places[0].Seen = impl.MateMaxVersion - 1
	want.Places[0].Seen, want.Places[0].Wants = impl.MateMaxVersion, nil
	putTo(t, l, "a", nil, want, 0)
	putTo(t, want, "a", nil, want, 3)
	putTo(t, want, "a", wantsOf(1), want, 3)
	putTo(t, want, "a", []impl.MateWant{{}}, want, 2)
}

func TestPutManyTimes(t *testing.T) {
	l := impl.MateLand{Time: 4, Grants: grantsOf(3, "i", 30)}
	for n := range 20 {
		want := l
		want.Places = []impl.MatePlace{{Berth: "a", Seen: n + 1, Wants: wantsOf(n % 3)}}
		putTo(t, l, "a", wantsOf(n%3), want, 0)
		l, _ = impl.MatePut(l, "a", wantsOf(n%3))
	}
}
