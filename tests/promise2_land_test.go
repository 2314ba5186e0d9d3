package tests

import (
	"fmt"
	"strings"
	"testing"

	"loop.example/wharfmate/impl"
)

// landWalk leads a book on by puts, ticks and parcels of all sorts.
type landWalk struct {
	walk
	codes [4]int
	gave  int
}

func (w *landWalk) berth() string {
	return string(rune('a' + w.Intn(5)))
}

// put often takes one hold from a place to another, and often too many berths.
func (w *landWalk) put(l impl.MateLand) (impl.MateLand, string) {
	berth, wants := w.berth(), w.wants()
	if len(wants) > 2 && w.Intn(4) > 0 {
		wants = wants[:2]
	}
	next, code := impl.MatePut(l, berth, wants)
	w.codes[code]++
	return next, fmt.Sprintf("a put at %s of %+v, code %d", berth, wants, code)
}

// parcel gives one that the book's places may well send.
func (w *landWalk) parcel(l impl.MateLand) impl.MateParcel {
	p := impl.MateParcel{Kind: w.Intn(8), Berth: w.berth(), Hold: w.name("h", 8), Copy: w.name("c", 8), At: w.Intn(60) - 1}
	if len(l.Places) > 0 && w.Intn(4) > 0 {
		place := l.Places[w.Intn(len(l.Places))]
		p.Berth = place.Berth
		if len(place.Wants) > 0 {
			want := place.Wants[w.Intn(len(place.Wants))]
			p.Kind, p.Hold, p.Copy = impl.MateAsked+2*w.Intn(2), want.Hold, want.Copy
		}
	}
	return p
}

func (w *landWalk) step(l impl.MateLand) (impl.MateLand, []impl.MateParcel, string) {
	switch n := w.Intn(20); {
	case n <= 2:
		next, by := w.put(l)
		return next, nil, by
	case n <= 6:
		next, sent := impl.MateLandTick(l)
		return next, sent, "a tick"
	}
	p := w.parcel(l)
	next, sent := impl.MateLandTake(l, p)
	w.gave += len(sent)
	return next, sent, fmt.Sprintf("%+v", p)
}

func startsOfLandWalks() []impl.MateLand {
	last := busyLand()
	last.Places[0].Seen = impl.MateMaxVersion - 5
	late := impl.MateLand{Time: 2*impl.MateMaxClock - 40}
	return []impl.MateLand{{}, busyLand(), fullLand(0), fullLand(3), last, late}
}

// Promise 2, of books: what is ok stays so, and all that it sends has a form.
func TestPromise2BooksStayOk(t *testing.T) {
	for i, l := range startsOfLandWalks() {
		w := &landWalk{walk: walk{dice: dice(1000 + i)}}
		for n := range 3000 {
			next, sent, by := w.step(l)
			if !impl.MateLandOk(next) || next.Time < l.Time {
				t.Fatalf("walk %d, step %d: %s leads from\n%+v to\n%+v", i, n, by, l, next)
			}
			haveForms(t, sent)
			l = next
		}
		if w.codes[0] == 0 || w.codes[1] != 0 || w.codes[2] == 0 || w.codes[3] == 0 || w.gave == 0 {
			t.Errorf("walk %d comes to too little: codes %v, %d answers", i, w.codes, w.gave)
		}
	}
}

// A mate that sends as much as it may, with each part at its most.
func TestPromise2WhatIsSentAtTheLimitsHasAForm(t *testing.T) {
	long := strings.Repeat("~", impl.MateMaxName)
	m := impl.Mate{Name: long, Up: true, Clock: impl.MateMaxClock - 4, Known: true, Seen: impl.MateMaxVersion, Gives: asksOf(impl.MateMaxHolds, "i")}
	for _, w := range wantsOf(impl.MateMaxWants) {
		w.Copy, w.Hold = w.Copy+long[1:], w.Hold+long[2:]
		m.Wants = append(m.Wants, w)
	}
	for i := range m.Gives {
		m.Gives[i].Hold += long[3:]
		m.Gives[i].Copy, m.Gives[i].At = long, m.Clock
	}
	for rate := 1; rate <= 4; rate++ {
		got, sent := impl.MateTick(m, rate)
		if len(sent) != impl.MateMaxWants+impl.MateMaxHolds+1 || !impl.MateValid(got) {
			t.Errorf("a tick of %d sends %+v", rate, sent)
		}
		haveForms(t, sent)
	}
}

// A book and two mates with links that lose, double and hold back: all that is
// sent has a form, the book stays ok and the mates valid.
func TestPromise2ABookAndTwoMates(t *testing.T) {
	for seed := range 30 {
		w := &landWalk{walk: walk{dice: dice(seed)}}
		l := impl.MateLand{}
		mates := []impl.Mate{{Name: "a", Up: true}, {Name: "b", Up: true}}
		var flight []impl.MateParcel
		for range 300 {
			if w.Intn(10) == 0 {
				l, _ = impl.MatePut(l, []string{"a", "b"}[w.Intn(2)], w.wants())
			}
			var sent []impl.MateParcel
			l, sent = impl.MateLandTick(l)
			flight = append(flight, sent...)
			for i := range mates {
				mates[i], sent = impl.MateTick(mates[i], 1+w.Intn(4))
				haveForms(t, sent)
				flight = append(flight, sent...)
			}
			flight = w.bring(t, &l, mates, flight)
			if !impl.MateLandOk(l) || !impl.MateValid(mates[0]) || !impl.MateValid(mates[1]) {
				t.Fatalf("seed %d: %+v %+v", seed, l, mates)
			}
		}
		if w.gave == 0 {
			t.Errorf("seed %d: nothing was given", seed)
		}
	}
}

// bring takes some of what is in flight to where it is for, and gives the rest.
func (w *landWalk) bring(t *testing.T, l *impl.MateLand, mates []impl.Mate, flight []impl.MateParcel) []impl.MateParcel {
	t.Helper()
	for range w.Intn(2*len(flight) + 1) {
		if len(flight) == 0 {
			break
		}
		i := w.Intn(len(flight))
		p, ok := impl.MateRead(impl.MateForm(flight[i]))
		if !ok {
			t.Fatalf("%+v has no form", flight[i])
		}
		if w.Intn(5) > 0 {
			flight = append(flight[:i], flight[i+1:]...)
		}
		if w.Intn(5) == 0 {
			continue
		}
		for i := range mates {
			mates[i] = impl.MateTake(mates[i], p)
		}
		var sent []impl.MateParcel
		*l, sent = impl.MateLandTake(*l, p)
		haveForms(t, sent)
		w.gave += len(sent)
		flight = append(flight, sent...)
	}
	return flight[max(0, len(flight)-60):]
}
