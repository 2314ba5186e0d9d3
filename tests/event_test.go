package tests

import (
	"math"
	"slices"
	"testing"

	"loop.example/wharfmate/impl"
)

// doTo sees that an event leads from a world to another one that is ok.
func doTo(t *testing.T, w impl.MateWorld, e impl.MateEvent, want impl.MateWorld) {
	t.Helper()
	got := impl.MateDo(w, e)
	if !sameWorld(got, want) {
		t.Errorf("%+v leads from\n%+v to\n%+v, not\n%+v", e, w, got, want)
	}
	if !impl.MateWorldOk(got) {
		t.Errorf("%+v leads from %+v to %+v, which is not ok", e, w, got)
	}
}

// ticked is the world behind a tick with these rates, one for each mate.
func ticked(w impl.MateWorld, rates ...int) impl.MateWorld {
	land, sent := impl.MateLandTick(w.Land)
	w.Land, w.Mates = land, slices.Clone(w.Mates)
	for i, m := range w.Mates {
		next, more := impl.MateTick(m, rates[i])
		w.Mates[i] = next
		sent = append(sent, more...)
	}
	w.Flight = slices.Clone(w.Flight)
	for _, p := range sent {
		w.Flight = append(w.Flight, impl.MateForm(p))
	}
	w.Flight = w.Flight[:min(len(w.Flight), impl.MateMaxFlight)]
	return w
}

func TestTickOfAWorld(t *testing.T) {
	w := impl.MateNewWorld([]string{"a", "b"})
	w = putAt(putAt(w, 1, holdWant()), 0, plainWant())
	want := w
	want.Mates = slices.Clone(w.Mates)
	want.Land.Time, want.Mates[0].Clock, want.Mates[1].Clock = 2, 3, 1
	want.Flight = []string{"told a 1\nwant c 1 * 3 5 7 9\n", "told b 1\nwant c 1 h 3 5 7 9\n", "here a 0\n", "here b 0\n"}
	doTo(t, w, impl.MateEvent{Kind: impl.MateEvTick, Rates: []int{3, 1}}, want)
}

func TestRatesOfATick(t *testing.T) {
	for _, c := range []struct{ rates, used []int }{
		{nil, []int{2, 2, 2, 2}}, {[]int{}, []int{2, 2, 2, 2}}, {[]int{1, 2, 3, 4}, []int{1, 2, 3, 4}}, {[]int{4, 3, 2, 1}, []int{4, 3, 2, 1}},
		{[]int{1}, []int{1, 2, 2, 2}}, {[]int{3, 3}, []int{3, 3, 2, 2}}, {[]int{4, 4, 4}, []int{4, 4, 4, 2}},
		{[]int{0, 5, 1, 4}, []int{2, 2, 1, 4}}, {[]int{-1, 4, 6, 1}, []int{2, 4, 2, 1}}, {[]int{math.MinInt, math.MaxInt, 4, 0}, []int{2, 2, 4, 2}},
		{[]int{1, 1, 1, 1, 4, 4, 9}, []int{1, 1, 1, 1}},
	} {
		for n := 1; n <= impl.MateMaxBerths; n++ {
			w := impl.MateDo(impl.MateNewWorld(berths[:n]), impl.MateEvent{Kind: impl.MateEvTick, Rates: c.rates})
			for i, m := range w.Mates {
				if m.Clock != c.used[i] || w.Land.Time != 2 {
					t.Errorf("rates %v: the clock of mate %d of %d shows %d", c.rates, i, n, m.Clock)
				}
			}
		}
		doTo(t, fullWorld(), impl.MateEvent{Kind: impl.MateEvTick, Rates: c.rates}, ticked(fullWorld(), c.used...))
		doTo(t, busyWorld(), impl.MateEvent{Kind: impl.MateEvTick, Rates: c.rates}, ticked(busyWorld(), c.used...))
	}
}

// What finds no room in flight is left out, the last of it first.
func TestTickAtAFlightThatIsFull(t *testing.T) {
	sent := ticked(busyWorld(), 2, 2).Flight[len(busyWorld().Flight):]
	if len(sent) < 6 {
		t.Fatalf("sent: %q", sent)
	}
	for room := 0; room <= len(sent)+1; room++ {
		w := busyWorld()
		w.Flight = slices.Repeat([]string{"x"}, impl.MateMaxFlight-room)
		want := ticked(w, 2, 2)
		want.Flight = slices.Concat(w.Flight, sent[:min(room, len(sent))])
		doTo(t, w, impl.MateEvent{Kind: impl.MateEvTick}, want)
	}
}

// As much as four mates and the book can send at once.
func TestTickThatSendsTheMost(t *testing.T) {
	w := fullWorld()
	w.Flight = nil
	for i := range w.Mates {
		w.Mates[i].Asks, w.Mates[i].Runs, w.Mates[i].Wants = nil, nil, wantsOf(impl.MateMaxWants)
	}
	want := ticked(w, 2, 2, 2, 2)
	doTo(t, w, impl.MateEvent{Kind: impl.MateEvTick}, want)
	if len(want.Flight) != 4+4*(impl.MateMaxWants+impl.MateMaxHolds+1) || want.Flight[4] != "asked a ha a 52\n" || want.Flight[4+51] != "asked b ha a 52\n" {
		t.Errorf("sent: %q", want.Flight)
	}
}

func TestTickOfMatesThatAreDown(t *testing.T) {
	w := busyWorld()
	w.Mates[0] = impl.MateFall(w.Mates[0], false)
	want := ticked(w, 4, 1)
	want.Flight = append(slices.Clone(w.Flight), want.Flight[len(w.Flight)], want.Flight[len(w.Flight)+1]) // what the book tells
	doTo(t, w, impl.MateEvent{Kind: impl.MateEvTick, Rates: []int{4, 1}}, want)
	if want.Mates[0].Clock != 54 || want.Mates[1].Clock != 51 {
		t.Errorf("clocks: %+v", want.Mates)
	}
}

func TestTickAtTheEndOfAClock(t *testing.T) {
	for _, left := range []int{0, 1, 2, 3, 4} {
		for rate := 1; rate <= 4; rate++ {
			w := impl.MateNewWorld([]string{"a", "b"})
			w.Mates[0].Clock = impl.MateMaxClock - left
			w.Mates[0].Runs = []impl.MateRun{{Want: plainWant(), State: impl.MateReady}}
			want := w
			want.Land.Time, want.Flight = 2, []string{"here a 0\n", "here b 0\n"}
			want.Mates = slices.Clone(w.Mates)
			want.Mates[0].Clock += rate
			want.Mates[1].Clock = 1
			if rate > left {
				want.Mates[0] = impl.Mate{Name: "a", Clock: impl.MateMaxClock}
				want.Flight = want.Flight[1:]
			}
			doTo(t, w, impl.MateEvent{Kind: impl.MateEvTick, Rates: []int{rate, 1}}, want)
		}
	}
}

// At its end the book tells nothing more; the mates tick on.
func TestTickAtTheEndOfTimeOfAWorld(t *testing.T) {
	w := busyWorld()
	w.Land.Time = 2 * impl.MateMaxClock
	want := w
	want.Mates = ticked(w, 3, 3).Mates
	want.Flight = slices.Concat(w.Flight, []string{"asked a h c 53\n", "back a b q 26\n", "back a w q 9\n", "here a 7\n"})
	doTo(t, w, impl.MateEvent{Kind: impl.MateEvTick, Rates: []int{3, 3}}, want)
}

// farPlaces are places that are not there in a list of n.
func farPlaces(n int) []int {
	return []int{math.MinInt, -n - 1, -1, n, n + 1, 1000, math.MaxInt}
}

func TestEventsOfNoPlaceOrMate(t *testing.T) {
	empty := busyWorld()
	empty.Flight = nil
	for _, w := range []impl.MateWorld{busyWorld(), empty, fullWorld()} {
		for _, kind := range []int{impl.MateEvBring, impl.MateEvDouble, impl.MateEvLose} {
			for _, place := range farPlaces(len(w.Flight)) {
				doTo(t, w, impl.MateEvent{Kind: kind, A: place, B: 1, Wants: wantsOf(1), Rates: []int{1}}, w)
			}
		}
		for _, kind := range []int{impl.MateEvFall, impl.MateEvRise, impl.MateEvPut} {
			for _, place := range farPlaces(len(w.Mates)) {
				doTo(t, w, impl.MateEvent{Kind: kind, A: place, B: 1, Wants: wantsOf(1), Rates: []int{1}}, w)
			}
		}
	}
}

func TestEventsOfNoKind(t *testing.T) {
	for _, kind := range []int{math.MinInt, -7, -1, 0, 8, 9, 100, math.MaxInt} {
		for _, w := range []impl.MateWorld{busyWorld(), fullWorld(), impl.MateNewWorld(berths)} {
			doTo(t, w, impl.MateEvent{Kind: kind, B: 1, Wants: wantsOf(1), Rates: []int{1}}, w)
		}
	}
}

func TestDoublesAndLosses(t *testing.T) {
	w := busyWorld()
	for i, text := range w.Flight {
		want := busyWorld()
		want.Flight = append(want.Flight, text)
		doTo(t, w, impl.MateEvent{Kind: impl.MateEvDouble, A: i}, want)
		want.Flight = slices.Delete(busyWorld().Flight, i, i+1)
		doTo(t, w, impl.MateEvent{Kind: impl.MateEvLose, A: i}, want)
	}
}

func TestDoublesAndLossesAtAFlightThatIsFull(t *testing.T) {
	w := fullWorld()
	for _, place := range []int{0, 1, impl.MateMaxFlight / 2, impl.MateMaxFlight - 1} {
		doTo(t, w, impl.MateEvent{Kind: impl.MateEvDouble, A: place}, w)
		want := fullWorld()
		want.Flight = slices.Delete(want.Flight, place, place+1)
		doTo(t, w, impl.MateEvent{Kind: impl.MateEvLose, A: place}, want)
		doubled := want
		doubled.Flight = append(slices.Clone(want.Flight), want.Flight[0])
		doTo(t, want, impl.MateEvent{Kind: impl.MateEvDouble}, doubled)
	}
}

func TestFallsOfAWorld(t *testing.T) {
	for _, machine := range []int{math.MinInt, -1, 0, 1, 2, math.MaxInt} {
		for _, w := range []impl.MateWorld{busyWorld(), fullWorld(), impl.MateNewWorld(berths)} {
			for i, m := range w.Mates {
				want := w
				want.Mates = slices.Clone(w.Mates)
				want.Mates[i] = impl.MateFall(m, machine != 0)
				doTo(t, w, impl.MateEvent{Kind: impl.MateEvFall, A: i, B: machine}, want)
			}
		}
	}
}

func TestRisesOfAWorld(t *testing.T) {
	for _, clock := range []int{0, 40, impl.MateMaxClock - 1, impl.MateMaxClock} {
		w := impl.MateNewWorld([]string{"a", "b"})
		for i := range w.Mates {
			down := w
			down.Mates = slices.Clone(w.Mates)
			down.Mates[i] = impl.Mate{Name: berths[i], Clock: clock}
			want := down
			want.Mates = slices.Clone(down.Mates)
			want.Mates[i].Up = clock < impl.MateMaxClock
			doTo(t, down, impl.MateEvent{Kind: impl.MateEvRise, A: i}, want)
			doTo(t, down, impl.MateEvent{Kind: impl.MateEvRise, A: 1 - i}, down)
		}
	}
	w := busyWorld()
	want := busyWorld()
	want.Mates[1].Up = true
	doTo(t, w, impl.MateEvent{Kind: impl.MateEvRise, A: 1, B: 1}, want)
}

func TestPutsOfAWorld(t *testing.T) {
	far := busyWorld()
	far.Mates[1].Name = "x"
	for _, w := range []impl.MateWorld{busyWorld(), far, impl.MateNewWorld(berths)} {
		for i, m := range w.Mates {
			for _, wants := range [][]impl.MateWant{nil, {}, {plainWant()}, wantsOf(impl.MateMaxWants)} {
				want := w
				land, code := impl.MatePut(w.Land, m.Name, wants)
				want.Land = land
				if code != 0 {
					t.Fatalf("code %d", code)
				}
				doTo(t, w, impl.MateEvent{Kind: impl.MateEvPut, A: i, Wants: wants}, want)
			}
		}
	}
	w := impl.MateNewWorld(berths)
	want := impl.MateNewWorld(berths)
	want.Land.Places = []impl.MatePlace{{Berth: "c", Seen: 1, Wants: []impl.MateWant{plainWant()}}}
	doTo(t, w, impl.MateEvent{Kind: impl.MateEvPut, A: 2, Wants: []impl.MateWant{plainWant()}}, want)
}

func TestPutsThatHaveACode(t *testing.T) {
	w := busyWorld()
	reversed := wantsOf(3)
	slices.Reverse(reversed)
	for _, wants := range [][]impl.MateWant{{{}}, wantsOf(impl.MateMaxWants + 1), reversed} { // code 2
		doTo(t, w, impl.MateEvent{Kind: impl.MateEvPut, Wants: wants}, w)
	}
	doTo(t, w, impl.MateEvent{Kind: impl.MateEvPut, A: 1, Wants: []impl.MateWant{holdWant()}}, w) // code 3: a holds h
	w.Land.Places[0].Seen = impl.MateMaxVersion
	doTo(t, w, impl.MateEvent{Kind: impl.MateEvPut, Wants: []impl.MateWant{plainWant()}}, w)
	full := impl.MateNewWorld([]string{"x"})
	full.Land.Places = placesOf(impl.MateMaxBerths)
	doTo(t, full, impl.MateEvent{Kind: impl.MateEvPut}, full)
}
