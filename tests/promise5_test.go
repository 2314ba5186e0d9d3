package tests

import (
	"fmt"
	"slices"
	"testing"

	"loop.example/wharfmate/impl"
)

// worldWalk leads a world on by events of all sorts.
type worldWalk struct {
	walk
	ticks int  // what a copy takes for something is below this
	dies  bool // copies die
	loose bool // a Hold may be of any Copy of a berth
	turn  int  // how far the Copy of a Hold is from that of the berth before
	notes map[string]int
	mood
}

// mood is how a walk goes on for a while.
type mood struct {
	lag  int    // so much stays in flight
	cut  string // all that is from or for this berth is lost
	pace []int  // the Rates, nil if they change from tick to tick
}

func newWorldWalk(seed int) *worldWalk {
	ticks := []int{1, 3, 6, 8, 12, impl.MateMaxTicks + 1}
	return &worldWalk{walk: walk{dice: dice(seed)}, ticks: ticks[seed%6], turn: seed / 6 % 2, dies: seed%2 > 0, notes: map[string]int{}}
}

func (w *worldWalk) newMood() mood {
	return mood{
		lag:  []int{0, 0, 0, 0, 4, 15, 40, 100}[w.Intn(8)],
		cut:  []string{"", "", "a", "b", "c", "d"}[w.Intn(6)],
		pace: [][]int{nil, nil, {1, 1, 1, 1}, {4, 4, 4, 4}, {1, 4, 1, 4}, {4, 1, 4, 1}}[w.Intn(6)],
	}
}

// want gives one of a few copies. A Hold may be of another Copy on each berth,
// but unless the walk is loose it is of one alone there.
func (w *worldWalk) want(berth, i int) impl.MateWant {
	want := impl.MateWant{Copy: fmt.Sprint("c", i), Version: 1 + w.Intn(2), Pull: w.Intn(w.ticks), Start: w.Intn(w.ticks), Grace: w.Intn(w.ticks)}
	if w.dies {
		want.Dies = w.Intn(w.ticks)
	}
	hold := 2*((i+berth*w.turn)%5) + w.Intn(2)
	if w.loose {
		hold = w.Intn(6)
	}
	if w.Intn(4) > 0 {
		want.Hold = fmt.Sprint("h", hold)
	}
	return want
}

// put often wants what another berth wanted until now, and now and then what
// one still wants, so that it has a code.
func (w *worldWalk) put(x impl.MateWorld) impl.MateEvent {
	berth := w.Intn(len(x.Mates))
	var list []impl.MateWant
	for i := range 5 {
		want := w.want(berth, i)
		if w.Intn(3) > 0 && (w.Intn(30) == 0 || !wantedElsewhere(x.Land, x.Mates[berth].Name, want.Hold)) {
			list = append(list, want)
		}
	}
	return impl.MateEvent{Kind: impl.MateEvPut, A: berth, Wants: list}
}

func wantedElsewhere(l impl.MateLand, berth, hold string) bool {
	return slices.ContainsFunc(l.Places, func(p impl.MatePlace) bool {
		return p.Berth != berth && hold != "" && slices.ContainsFunc(p.Wants, func(w impl.MateWant) bool { return w.Hold == hold })
	})
}

// rates are mixed, missing and out of bounds, unless there is a pace.
func (w *worldWalk) rates() []int {
	list := w.pace
	if list != nil {
		return list
	}
	for range w.Intn(6) {
		list = append(list, w.Intn(7)-1)
	}
	return list
}

// event brings what is in flight as long as that is more than the mood's lag.
func (w *worldWalk) event(x impl.MateWorld) impl.MateEvent {
	if w.Intn(150) == 0 {
		w.mood = w.newMood()
	}
	if len(x.Flight) > w.lag {
		return w.eventInFlight(x)
	}
	mate := w.Intn(len(x.Mates))
	switch n := w.Intn(100); {
	case n < 8:
		return w.put(x)
	case n < 13:
		return impl.MateEvent{Kind: impl.MateEvFall, A: mate, B: []int{0, 0, 1, -1}[w.Intn(4)]}
	case n < 32:
		return impl.MateEvent{Kind: impl.MateEvRise, A: mate}
	case n < 36:
		return impl.MateEvent{Kind: w.Intn(10) - 1, A: w.Intn(2)*1000 - 1, Wants: wantsOf(1)}
	}
	return impl.MateEvent{Kind: impl.MateEvTick, Rates: w.rates()}
}

func (w *worldWalk) eventInFlight(x impl.MateWorld) impl.MateEvent {
	e := impl.MateEvent{Kind: impl.MateEvBring, A: w.Intn(len(x.Flight))}
	p, _ := impl.MateRead(x.Flight[e.A])
	switch n := w.Intn(20); {
	case p.Berth == w.cut:
		e.Kind = impl.MateEvLose
	case n == 0:
		e.Kind = impl.MateEvDouble
	case n <= 2:
		e.Kind = impl.MateEvLose
	}
	return e
}

// note counts what is of weight for the promises.
func (w *worldWalk) note(before impl.MateWorld, e impl.MateEvent, after impl.MateWorld) {
	for _, g := range before.Land.Grants {
		for _, n := range after.Land.Grants {
			if g.Hold == n.Hold && g.Berth != n.Berth {
				w.notes["holds moved"]++
			}
		}
	}
	for i, m := range after.Mates {
		w.notes["holders"] += holders(m)
		if !m.Up {
			w.notes["holders without a mate"] += holders(m)
		}
		if before.Mates[i].Up && !m.Up && holders(before.Mates[i]) > 0 {
			w.notes[fmt.Sprint("falls of a holder, machine ", e.B != 0)]++
		}
	}
}

func holders(m impl.Mate) int {
	n := 0
	for _, r := range living(m) {
		if r.Want.Hold != "" {
			n++
		}
	}
	return n
}

// keepsPromises5And6 sees that a world is ok and safe, and that its grants are as promise 6 says.
func keepsPromises5And6(t *testing.T, w impl.MateWorld, by string) {
	t.Helper()
	if !impl.MateSafe(w) {
		t.Fatalf("%s: not safe (ok: %v): %+v", by, impl.MateWorldOk(w), w)
	}
	for _, m := range w.Mates {
		for _, r := range living(m) {
			if r.Want.Hold != "" && !hasGrant(w.Land, m.Name, r.Want) {
				t.Fatalf("%s: %+v of %s lives without a grant: %+v", by, r, m.Name, w.Land)
			}
		}
	}
}

func hasGrant(l impl.MateLand, berth string, w impl.MateWant) bool {
	return slices.ContainsFunc(l.Grants, func(g impl.MateGrant) bool {
		return g.Hold == w.Hold && g.Berth == berth && g.Copy == w.Copy && g.Until > l.Time
	})
}

// goOn leads a new world on by so many events, and sees to the promises all along.
func (w *worldWalk) goOn(t *testing.T, berths []string, events int) impl.MateWorld {
	t.Helper()
	x := impl.MateNewWorld(berths)
	for n := range events {
		e := w.event(x)
		next := impl.MateDo(x, e)
		if w.loose && e.Kind == impl.MateEvTick && givesUnderARun(x, next) {
			continue
		}
		keepsPromises5And6(t, next, fmt.Sprintf("%d berths, event %d, %+v", len(berths), n, e))
		w.note(x, e, next)
		x = next
	}
	return x
}

// givesUnderARun says whether a run with a Hold has gone at a tick while another
// one of its berth lives with the same Hold. Such a tick is left out of a walk:
// by chapters 4 and 6 the berth gives back the ask that the first one had taken
// over, and with it the book takes the grant of the one that lives, which
// promises 5 and 6 do not reckon with.
func givesUnderARun(before, after impl.MateWorld) bool {
	for i, m := range after.Mates {
		for _, q := range before.Mates[i].Runs {
			gone := !slices.ContainsFunc(m.Runs, func(r impl.MateRun) bool { return r.Want == q.Want })
			if gone && slices.ContainsFunc(living(m), func(r impl.MateRun) bool { return r.Want.Hold != "" && r.Want.Hold == q.Want.Hold }) {
				return true
			}
		}
	}
	return false
}

// walkMany goes many walks in worlds of each size, and sees that they come to something.
func walkMany(t *testing.T, loose bool) {
	t.Parallel()
	for n := 1; n <= impl.MateMaxBerths; n++ {
		t.Run(fmt.Sprint(n, " berths"), func(t *testing.T) {
			t.Parallel()
			notes := map[string]int{}
			for seed := range 12 {
				w := newWorldWalk(240*n + seed)
				w.loose, w.notes = loose, notes
				w.goOn(t, berths[:n], 1500)
			}
			for _, what := range []string{"falls of a holder, machine false", "falls of a holder, machine true", "holders", "holders without a mate", "holds moved"} {
				if notes[what] < 3 && (n > 1 || what != "holds moved") {
					t.Errorf("the walks come to too little: %v", notes)
				}
			}
		})
	}
}

// Promises 2, 5 and 6 of worlds: from new ones of each size, behind each event.
func TestPromises5And6OneHolder(t *testing.T) {
	walkMany(t, false)
}

// A Hold that goes from copy to copy on one berth, too.
func TestPromises5And6OneHolderOfManyCopies(t *testing.T) {
	walkMany(t, true)
}

// oneHold moves the one hold of a world to another berth, or leaves it to nobody.
func (w *worldWalk) oneHold(x impl.MateWorld) impl.MateWorld {
	for i := range x.Mates {
		x = putAt(x, i)
	}
	c := impl.MateWant{Copy: "c", Version: 1 + w.Intn(2), Hold: "h", Grace: w.Intn(20)}
	return putAt(x, w.Intn(len(x.Mates)+1), c)
}

// All that was ever sent comes again and again, in any order.
func TestPromises5And6OldMail(t *testing.T) {
	t.Parallel()
	for seed := range 8 {
		w := newWorldWalk(seed)
		x := w.oneHold(impl.MateNewWorld([]string{"a", "b"}))
		var old []string
		for range 60 {
			if w.Intn(8) == 0 {
				x = w.oneHold(x)
			}
			if w.Intn(12) == 0 {
				x = raised(impl.MateDo(x, impl.MateEvent{Kind: impl.MateEvFall, A: w.Intn(2), B: w.Intn(2)}))
			}
			x = impl.MateDo(x, impl.MateEvent{Kind: impl.MateEvTick, Rates: ratesOfPromise7()[seed%4]})
			old = append(old, x.Flight...)
			old = old[max(0, len(old)-100):]
			x.Flight = slices.Clone(old)
			for len(x.Flight) > 0 {
				x = impl.MateDo(x, impl.MateEvent{Kind: impl.MateEvBring, A: w.Intn(len(x.Flight))})
				keepsPromises5And6(t, x, fmt.Sprint("seed ", seed))
			}
		}
	}
}

// tickCutOff is a tick with all brought that is not from or for the berth a.
func tickCutOff(w impl.MateWorld, rates []int) impl.MateWorld {
	w = impl.MateDo(w, impl.MateEvent{Kind: impl.MateEvTick, Rates: rates})
	for len(w.Flight) > 0 {
		kind := impl.MateEvBring
		if p, _ := impl.MateRead(w.Flight[0]); p.Berth == "a" {
			kind = impl.MateEvLose
		}
		w = impl.MateDo(w, impl.MateEvent{Kind: kind})
	}
	return w
}

// A berth that is cut off runs on by its lease and not longer, whichever clock
// is the faster; then the next one has the hold.
func TestPromises5And6CutOff(t *testing.T) {
	c := impl.MateWant{Copy: "c", Version: 1, Hold: "h", Grace: impl.MateMaxTicks}
	for a := 1; a <= 4; a++ {
		for b := 1; b <= 4; b++ {
			rates := []int{a, b}
			w := impl.MateCalm(putAt(impl.MateNewWorld([]string{"a", "b"}), 0, c), 9, rates)
			if holders(w.Mates[0]) != 1 {
				t.Fatalf("rates %v: a does not hold it: %+v", rates, w)
			}
			w = putAt(putAt(w, 0), 1, c)
			ticks := 0
			for ; holders(w.Mates[1]) == 0 && ticks < 30; ticks++ {
				w = tickCutOff(w, rates)
				keepsPromises5And6(t, w, fmt.Sprint("rates ", rates))
			}
			if ticks < 10 || ticks >= 30 {
				t.Errorf("rates %v: b holds it behind %d ticks", rates, ticks)
			}
		}
	}
}
