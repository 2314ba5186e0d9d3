package tests

import (
	"fmt"
	"math"
	"slices"
	"strings"
	"testing"

	"loop.example/wharfmate/impl"
)

// berths are the names of as many mates as a world may have.
var berths = []string{"a", "b", "c", "d"}

// busyWorld has two mates, one of them down, a book with something in each of
// its lists, and all sorts of texts in flight.
func busyWorld() impl.MateWorld {
	b := downMate()
	b.Name = "b"
	return impl.MateWorld{
		Land:  busyLand(),
		Mates: []impl.Mate{busyMate(), b},
		Flight: []string{
			impl.MateForm(told(8, wantsOf(2))), impl.MateForm(asked("h", "c", 46)), "nothing", impl.MateForm(given("h", "c", 46)),
			impl.MateForm(back("h", "c", 46)), "", impl.MateForm(gotBack("b", 26)), impl.MateForm(here(7)),
		},
	}
}

// fullWorld has as much of everything as it may.
func fullWorld() impl.MateWorld {
	w := impl.MateWorld{Land: fullLand(2), Flight: slices.Repeat([]string{"nothing", ""}, impl.MateMaxFlight/2)}
	w.Land.Places = placesOf(impl.MateMaxBerths)
	for _, name := range berths {
		m := busyMate()
		m.Name = name
		m.Runs = runsOf(2 * impl.MateMaxWants)
		m.Asks, m.Gives = asksOf(impl.MateMaxHolds, "i"), asksOf(impl.MateMaxHolds, "j")
		w.Mates = append(w.Mates, m)
	}
	return w
}

// sameWorld is same of worlds. (What is in flight may hold spaces.)
func sameWorld(a, b impl.MateWorld) bool {
	return sameLand(a.Land, b.Land) && slices.EqualFunc(a.Mates, b.Mates, sameMate) && slices.Equal(a.Flight, b.Flight)
}

func sameMate(a, b impl.Mate) bool {
	return a.Name == b.Name && a.Up == b.Up && a.Clock == b.Clock && a.Known == b.Known && a.Seen == b.Seen &&
		slices.Equal(a.Wants, b.Wants) && slices.Equal(a.Runs, b.Runs) && slices.Equal(a.Asks, b.Asks) && slices.Equal(a.Gives, b.Gives)
}

func TestNewWorlds(t *testing.T) {
	for n := 1; n <= impl.MateMaxBerths; n++ {
		want := impl.MateWorld{}
		for _, name := range berths[:n] {
			want.Mates = append(want.Mates, impl.Mate{Name: name, Up: true})
		}
		if got := impl.MateNewWorld(berths[:n]); !sameWorld(got, want) || !impl.MateWorldOk(got) || !impl.MateSafe(got) || !impl.MateSettled(got) {
			t.Errorf("of %d names there is %+v", n, got)
		}
	}
	for _, list := range [][]string{{"B", "a"}, {"*", "a", "ab", "b"}, {"10", "9"}, {strings.Repeat("n", impl.MateMaxName-1), strings.Repeat("n", impl.MateMaxName)}} {
		if got := impl.MateNewWorld(list); len(got.Mates) != len(list) || got.Mates[1].Name != list[1] || !impl.MateWorldOk(got) {
			t.Errorf("of %q there is %+v", list, got)
		}
	}
}

func TestNamesOfNoWorld(t *testing.T) {
	lists := [][]string{
		nil, {}, {"a", "b", "c", "d", "e"}, slices.Repeat([]string{"a"}, 1000), {"b", "a"}, {"a", "a"}, {"a", "b", "b"}, {"a", "b", "c", "c"},
		{"a", "b", "d", "c"}, {"ab", "a"}, {"a", "B"}, {"a", "b", ""}, {"", "a"}, {"a", "b c"},
	}
	for _, c := range names {
		if w := impl.MateNewWorld([]string{c.text}); impl.MateWorldOk(w) != c.name {
			t.Errorf("a world of %.30q: %+v", c.text, w)
		}
		if !c.name {
			lists = append(lists, []string{c.text}, []string{c.text, "~~"}, []string{"!", c.text})
		}
	}
	for _, list := range lists {
		if w := impl.MateNewWorld(list); !sameWorld(w, impl.MateWorld{}) {
			t.Errorf("of %.60q there is %+v", list, w)
		}
	}
}

func TestOrdinaryWorldsAreOk(t *testing.T) {
	alone := busyWorld()
	alone.Mates, alone.Land.Places = alone.Mates[:1], nil
	apart := busyWorld()
	apart.Mates[0].Name, apart.Mates[1].Name = "x", "y"
	for i, w := range []impl.MateWorld{busyWorld(), fullWorld(), alone, apart, {Mates: []impl.Mate{{Name: "a"}}}} {
		if !impl.MateWorldOk(w) {
			t.Errorf("world %d is not ok: %+v", i, w)
		}
	}
}

// A text in flight may be any one.
func TestTextsOfAWorldThatIsOk(t *testing.T) {
	for _, text := range []string{"", "\n", "\x00\xff", strings.Repeat("x", 1000000)} {
		for _, n := range []int{0, 1, impl.MateMaxFlight - 1, impl.MateMaxFlight, impl.MateMaxFlight + 1, 1000} {
			w := busyWorld()
			w.Flight = slices.Repeat([]string{text}, n)
			if impl.MateWorldOk(w) != (n <= impl.MateMaxFlight) {
				t.Errorf("%d texts %.10q in flight: not %v", n, text, n <= impl.MateMaxFlight)
			}
		}
	}
}

// spoiledWorlds gives worlds that are not ok, each by one condition alone.
func spoiledWorlds() map[string]impl.MateWorld {
	out := map[string]impl.MateWorld{}
	for name, change := range map[string]func(w *impl.MateWorld){
		"no mates":               func(w *impl.MateWorld) { w.Mates = nil },
		"no mates, but a list":   func(w *impl.MateWorld) { w.Mates = []impl.Mate{} },
		"mates not in order":     func(w *impl.MateWorld) { slices.Reverse(w.Mates) },
		"mates of one name":      func(w *impl.MateWorld) { w.Mates[1].Name = "a" },
		"a mate of no name":      func(w *impl.MateWorld) { w.Mates[0].Name = "" },
		"the last mate spoiled":  func(w *impl.MateWorld) { w.Mates[1].Known = true },
		"one text too many":      func(w *impl.MateWorld) { w.Flight = make([]string, impl.MateMaxFlight+1) },
		"far too many texts":     func(w *impl.MateWorld) { w.Flight = make([]string, 100000) },
		"one mate too many":      func(w *impl.MateWorld) { w.Mates = manyMates(impl.MateMaxBerths + 1) },
		"far too many mates":     func(w *impl.MateWorld) { w.Mates = manyMates(26) },
		"the last of four alike": func(w *impl.MateWorld) { w.Mates = manyMates(4); w.Mates[3].Name = "c" },
	} {
		w := busyWorld()
		change(&w)
		out[name] = w
	}
	for name, l := range spoiledLands() {
		w := busyWorld()
		w.Land = l
		out["book: "+name] = w
	}
	for name, m := range spoiled() {
		w := busyWorld()
		w.Mates[0] = m
		out["mate: "+name] = w
	}
	return out
}

func manyMates(n int) []impl.Mate {
	var list []impl.Mate
	for i := range n {
		list = append(list, impl.Mate{Name: string(rune('a' + i)), Up: true})
	}
	return list
}

func TestEachConditionOfAWorld(t *testing.T) {
	for name, w := range spoiledWorlds() {
		if impl.MateWorldOk(w) || impl.MateSafe(w) || impl.MateSettled(w) {
			t.Errorf("%.60s: ok %v, safe %v, settled %v", name, impl.MateWorldOk(w), impl.MateSafe(w), impl.MateSettled(w))
		}
	}
	quiet := impl.MateNewWorld(berths)
	quiet.Flight = make([]string, impl.MateMaxFlight+1)
	if impl.MateSafe(quiet) || impl.MateSettled(quiet) || impl.MateSafe(impl.MateWorld{}) || impl.MateSettled(impl.MateWorld{}) {
		t.Error("a world that is not ok is safe, or settled")
	}
}

func TestOfAWorldThatIsNotOkThereIsNothing(t *testing.T) {
	for name, w := range spoiledWorlds() {
		for kind := -1; kind <= 8; kind++ {
			if got := impl.MateDo(w, impl.MateEvent{Kind: kind}); !sameWorld(got, impl.MateWorld{}) {
				t.Errorf("%.60s: kind %d gives %+v", name, kind, got)
			}
		}
		for _, rounds := range []int{math.MinInt, -1, 0, 1, impl.MateMaxCalm + 1} {
			if got := impl.MateCalm(w, rounds, nil); !sameWorld(got, impl.MateWorld{}) {
				t.Errorf("%.60s: %d rounds give %+v", name, rounds, got)
			}
		}
	}
}

// putAt is the world with wants put at the place of a mate.
func putAt(w impl.MateWorld, mate int, wants ...impl.MateWant) impl.MateWorld {
	return impl.MateDo(w, impl.MateEvent{Kind: impl.MateEvPut, A: mate, Wants: wants})
}

// shows sees that a mate's clock and runs are as told.
func shows(t *testing.T, w impl.MateWorld, mate int, want string) {
	t.Helper()
	got := fmt.Sprint(w.Mates[mate].Clock, ":")
	for _, r := range w.Mates[mate].Runs {
		got += fmt.Sprintf(" %s.%d/%d", r.Want.Copy, r.Want.Version, r.State)
	}
	if got != want {
		t.Errorf("mate %d shows %s, not %s", mate, got, want)
	}
}

// What the session in the document shows.
func TestExampleOfTheDocument(t *testing.T) {
	c1 := impl.MateWant{Copy: "c1", Version: 1, Hold: "vol", Pull: 1, Start: 1, Grace: 3}
	w := impl.MateCalm(putAt(impl.MateNewWorld([]string{"a", "b"}), 0, c1), 5, nil)
	shows(t, w, 0, "10: c1.1/4")
	if !same(w.Land.Grants, []impl.MateGrant{{Hold: "vol", Berth: "a", Copy: "c1", At: 10, Until: 42}}) {
		t.Errorf("granted: %+v", w.Land.Grants)
	}
	w = putAt(w, 0)
	c1.Version = 2
	w = impl.MateCalm(putAt(w, 1, c1), 2, nil)
	shows(t, w, 0, "14: c1.1/6")
	shows(t, w, 1, "14: c1.2/1")
	w = impl.MateCalm(w, 8, nil)
	shows(t, w, 0, "30:")
	shows(t, w, 1, "30: c1.2/4")
	if !impl.MateSafe(w) || !impl.MateSettled(w) || len(w.Flight) != 0 {
		t.Errorf("safe %v, settled %v, in flight %q", impl.MateSafe(w), impl.MateSettled(w), w.Flight)
	}
}
