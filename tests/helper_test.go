package tests

import (
	"fmt"
	"slices"
	"testing"

	"loop.example/wharfmate/impl"
)

// states are the six States of a run.
var states = []int{impl.MatePulling, impl.MateWaiting, impl.MateStarting, impl.MateReady, impl.MateBackoff, impl.MateStopping}

func plainWant() impl.MateWant {
	return impl.MateWant{Copy: "c", Version: 1, Pull: 3, Start: 5, Dies: 7, Grace: 9}
}

func holdWant() impl.MateWant {
	w := plainWant()
	w.Hold = "h"
	return w
}

// wantsOf gives n wants that are ok, the i-th one being of the Copy a, b ..
func wantsOf(n int) []impl.MateWant {
	var list []impl.MateWant
	for i := range n {
		list = append(list, impl.MateWant{Copy: string(rune('a' + i)), Version: 1, Hold: "h" + string(rune('a'+i))})
	}
	return list
}

// runsOf gives n runs that are ok at the clock 50.
func runsOf(n int) []impl.MateRun {
	var list []impl.MateRun
	for _, w := range wantsOf(n) {
		list = append(list, impl.MateRun{Want: w, State: impl.MateReady, Until: 54})
	}
	return list
}

// otherWants are wants that differ from w in one part each.
func otherWants(w impl.MateWant) []impl.MateWant {
	var list []impl.MateWant
	for _, change := range []func(w *impl.MateWant){
		func(w *impl.MateWant) { w.Copy += "x" },
		func(w *impl.MateWant) { w.Version++ },
		func(w *impl.MateWant) { w.Hold += "x" },
		func(w *impl.MateWant) { w.Pull++ },
		func(w *impl.MateWant) { w.Start++ },
		func(w *impl.MateWant) { w.Dies++ },
		func(w *impl.MateWant) { w.Grace++ },
	} {
		o := w
		change(&o)
		list = append(list, o)
	}
	return list
}

// story tells a run that MateLive gave, "gone" if it is.
func story(r impl.MateRun, there bool) string {
	if !there {
		return "gone"
	}
	return fmt.Sprintf("%d/%d falls %d until %d", r.State, r.Left, r.Falls, r.Until)
}

// untouched calls f with list as the front part of a longer one, and sees that
// neither it nor what lies behind its end is written into.
func untouched[T comparable](t *testing.T, list []T, behind T, f func(list []T)) {
	t.Helper()
	whole := append(slices.Clone(list), behind, behind, behind)
	before := slices.Clone(whole)
	f(whole[:len(list)])
	if !slices.Equal(whole, before) {
		t.Errorf("written into: %+v, before %+v", whole, before)
	}
}

// quietMate is up, and has heard nothing yet.
func quietMate() impl.Mate {
	return impl.Mate{Name: "a", Up: true, Clock: 50}
}

// busyMate has something in each of its lists.
func busyMate() impl.Mate {
	c, d, e := plainWant(), plainWant(), plainWant()
	c.Hold = "h"
	d.Copy = "d"
	e.Copy, e.Hold = "e", "k"
	x := plainWant()
	x.Copy, x.Hold = "x", "z"
	return impl.Mate{
		Name: "a", Up: true, Clock: 50, Known: true, Seen: 7,
		Wants: []impl.MateWant{c, d, e},
		Runs: []impl.MateRun{
			{Want: c, State: impl.MateReady, Left: 3, Until: 62},
			{Want: d, State: impl.MatePulling, Left: 2},
			{Want: e, State: impl.MateWaiting, Falls: 1, Until: 30},
			{Want: x, State: impl.MateStopping, Left: 2, Until: 60},
		},
		Asks:  []impl.MateAsk{{Hold: "h", Copy: "c", First: 40, At: 46}, {Hold: "k", Copy: "e", First: 44, At: 50}, {Hold: "z", Copy: "x", First: 0, At: 44}},
		Gives: []impl.MateAsk{{Hold: "b", Copy: "q", First: 20, At: 26}, {Hold: "w", Copy: "q", First: 9, At: 9}},
	}
}

// downMate has all that is left of one that is down.
func downMate() impl.Mate {
	m := busyMate()
	waits := m.Runs[0]
	waits.Want.Copy = "v"
	waits.State, waits.Left, waits.Until = impl.MateWaiting, 0, 40
	plain := m.Runs[1]
	plain.State = impl.MateStarting
	return impl.Mate{Name: "a", Clock: 50, Runs: []impl.MateRun{m.Runs[0], plain, waits, m.Runs[3]}}
}

// deafMate has risen from a fall, and has heard nothing since.
func deafMate() impl.Mate {
	m := downMate()
	m.Up = true
	return m
}

// asksOf gives n asks that are ok at each clock from 20 on, of the holds
// front0, front1 .. in their order.
func asksOf(n int, front string) []impl.MateAsk {
	var list []impl.MateAsk
	for i := range n {
		list = append(list, impl.MateAsk{Hold: fmt.Sprintf("%s%02d", front, i), Copy: "c", First: 10, At: 20})
	}
	return list
}

// same says whether two values tell the same, the empty list and nil being one.
func same(a, b any) bool {
	return fmt.Sprintf("%+v", a) == fmt.Sprintf("%+v", b)
}
