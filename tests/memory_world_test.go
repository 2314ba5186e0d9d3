package tests

import (
	"fmt"
	"runtime"
	"slices"
	"testing"
	"time"

	"loop.example/wharfmate/impl"
)

// roomyWorld is the world with something behind the end of each of its lists.
func roomyWorld(w impl.MateWorld) impl.MateWorld {
	w.Land = roomyLand(w.Land)
	w.Mates = withRoom(w.Mates, impl.Mate{Name: "behind", Up: true})
	for i, m := range w.Mates {
		w.Mates[i] = roomyMate(m)
	}
	w.Flight = withRoom(w.Flight, "behind")
	return w
}

// wholeWorld tells a world with all that lies behind the ends of its lists.
func wholeWorld(w impl.MateWorld) string {
	text := wholeLand(w.Land) + fmt.Sprintf("%q", w.Flight[:cap(w.Flight)])
	for _, m := range w.Mates[:cap(w.Mates)] {
		text += wholeMate(m)
	}
	return text
}

// memoryWorlds are worlds of every kind: ok or not, with lists that are empty or full.
func memoryWorlds() []impl.MateWorld {
	wrong, empty := busyWorld(), impl.MateNewWorld(berths)
	wrong.Land.Time = 51
	empty.Flight = []string{}
	last := busyWorld()
	last.Mates[0] = impl.Mate{Name: "a", Up: true, Clock: impl.MateMaxClock - 1}
	return []impl.MateWorld{{}, empty, wrong, last, busyWorld(), bringWorld(), fullWorld()}
}

// callsOfWorld are the functions of chapter 8 with all sorts of other arguments;
// each gives what it answered.
func callsOfWorld() map[string]func(w impl.MateWorld) []any {
	calls := map[string]func(w impl.MateWorld) []any{
		"ok":      func(w impl.MateWorld) []any { impl.MateWorldOk(w); return nil },
		"safe":    func(w impl.MateWorld) []any { impl.MateSafe(w); return nil },
		"settled": func(w impl.MateWorld) []any { impl.MateSettled(w); return nil },
	}
	for rounds := -1; rounds <= 2; rounds++ {
		calls[fmt.Sprint("calm ", rounds)] = func(w impl.MateWorld) []any { return []any{impl.MateCalm(w, rounds, nil)} }
	}
	for kind := range 9 {
		for place := -1; place <= 8; place++ {
			e := impl.MateEvent{Kind: kind, A: place, B: place % 2, Wants: wantsOf(place + 1)}
			calls[fmt.Sprintf("%+v", e)] = func(w impl.MateWorld) []any { return []any{impl.MateDo(w, e)} }
		}
	}
	return calls
}

func TestWorldsAreLeftAlone(t *testing.T) {
	leftAlone(t, memoryWorlds(), callsOfWorld(), roomyWorld, wholeWorld)
}

// The lists of a world that is handed in may share memory; those of the answer do not.
func TestListsOfAWorldAreApart(t *testing.T) {
	w := bringWorld()
	w.Mates[1] = w.Mates[0]
	w.Mates[1].Name = "b"
	w.Land.Places[0].Wants = w.Mates[0].Wants
	w.Flight = slices.Repeat([]string{"told a 9\nwant c 1 * 1 1 1 1\n"}, 9)
	for name, call := range callsOfWorld() {
		if !apart(spansOf(call(w)...), spansOf(w)) {
			t.Errorf("%s shares memory", name)
		}
	}
}

func TestEventsAreNotWrittenInto(t *testing.T) {
	for _, w := range memoryWorlds() {
		for kind := range 9 {
			wants, rates := withRoom(wantsOf(3), impl.MateWant{Copy: "behind"}), withRoom([]int{0, 4, 9}, 7)
			e := impl.MateEvent{Kind: kind, A: 1, Wants: wants, Rates: rates}
			before := fmt.Sprint(wants[:cap(wants)], rates[:cap(rates)])
			got, calm := impl.MateDo(w, e), impl.MateCalm(w, 2, rates)
			if after := fmt.Sprint(wants[:cap(wants)], rates[:cap(rates)]); after != before {
				t.Errorf("kind %d writes into %s: %s", kind, before, after)
			}
			if !apart(spansOf(got, calm), spansOf(w, e)) {
				t.Errorf("kind %d shares memory with its event", kind)
			}
		}
	}
	w := bringWorld()
	own := impl.MateEvent{Kind: impl.MateEvPut, A: 1, Wants: w.Land.Places[1].Wants}
	if got := impl.MateDo(w, own); got.Land.Places[1].Seen != 2 || !apart(spansOf(got), spansOf(w)) {
		t.Error("a put of a place's own wants shares memory")
	}
}

func TestNamesAreNotWrittenInto(t *testing.T) {
	for n := range 6 {
		list := []string{"a", "b", "c", "d", "e"}[:min(n, 5)]
		untouched(t, list, "behind", func(list []string) {
			if w := impl.MateNewWorld(list); !apart(spansOf(w), spansOf(list)) {
				t.Errorf("a world of %q shares memory", list)
			}
		})
	}
}

// However its goroutines run, a call answers the same.
func TestTheSameEachTime(t *testing.T) {
	defer runtime.GOMAXPROCS(runtime.GOMAXPROCS(0))
	for _, w := range []impl.MateWorld{impl.MateNewWorld(berths), busyWorld(), bringWorld(), fullWorld()} {
		w.Flight = nil
		rates := []int{4, 1, 3, 2}
		once, calm := ticked(w, rates...), impl.MateCalm(w, 4, rates)
		for _, procs := range []int{1, 2, 8} {
			runtime.GOMAXPROCS(procs)
			for range 50 {
				doTo(t, w, impl.MateEvent{Kind: impl.MateEvTick, Rates: rates}, once)
			}
			for range 5 {
				calmTo(t, w, 4, rates, calm)
			}
		}
	}
}

// When a call has answered, all that it started has ended. (What has ended may
// still be counted for a moment.)
func TestNothingRunsOn(t *testing.T) {
	before := runtime.NumGoroutine()
	for _, w := range memoryWorlds() {
		impl.MateDo(w, impl.MateEvent{Kind: impl.MateEvTick})
		impl.MateCalm(w, 20, nil)
	}
	for range 100 {
		if runtime.NumGoroutine() <= before {
			return
		}
		time.Sleep(10 * time.Millisecond)
	}
	t.Errorf("%d goroutines run, before %d", runtime.NumGoroutine(), before)
}
