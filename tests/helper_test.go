package tests

import (
	"fmt"
	"slices"
	"testing"

	"loop.example/wharfmate/impl"
)

// states are the six States of a run.
var states = []int{impl.MatePulling, impl.MateWaiting, impl.MateStarting, impl.MateReady, impl.MateBackoff, impl.MateStopping}

func plainWant() impl.MateWant {
	return impl.MateWant{Copy: "c", Version: 1, Pull: 3, Start: 5, Dies: 7, Grace: 9}
}

func holdWant() impl.MateWant {
	w := plainWant()
	w.Hold = "h"
	return w
}

// wantsOf gives n wants that are ok, the i-th one being of the Copy a, b ..
func wantsOf(n int) []impl.MateWant {
	var list []impl.MateWant
	for i := range n {
		list = append(list, impl.MateWant{Copy: string(rune('a' + i)), Version: 1, Hold: "h" + string(rune('a'+i))})
	}
	return list
}

// runsOf gives n runs that are ok at the clock 50.
func runsOf(n int) []impl.MateRun {
	var list []impl.MateRun
	for _, w := range wantsOf(n) {
		list = append(list, impl.MateRun{Want: w, State: impl.MateReady, Until: 54})
	}
	return list
}

// otherWants are wants that differ from w in one part each.
func otherWants(w impl.MateWant) []impl.MateWant {
	var list []impl.MateWant
	for _, change := range []func(w *impl.MateWant){
		func(w *impl.MateWant) { w.Copy += "x" },
		func(w *impl.MateWant) { w.Version++ },
		func(w *impl.MateWant) { w.Hold += "x" },
		func(w *impl.MateWant) { w.Pull++ },
		func(w *impl.MateWant) { w.Start++ },
		func(w *impl.MateWant) { w.Dies++ },
		func(w *impl.MateWant) { w.Grace++ },
	} {
		o := w
		change(&o)
		list = append(list, o)
	}
	return list
}

// story tells a run that MateLive gave, "gone" if it is.
func story(r impl.MateRun, there bool) string {
	if !there {
		return "gone"
	}
	return fmt.Sprintf("%d/%d falls %d until %d", r.State, r.Left, r.Falls, r.Until)
}

// untouched calls f with list as the front part of a longer one, and sees that
// neither it nor what lies behind its end is written into.
func untouched[T comparable](t *testing.T, list []T, behind T, f func(list []T)) {
	t.Helper()
	whole := append(slices.Clone(list), behind, behind, behind)
	before := slices.Clone(whole)
	f(whole[:len(list)])
	if !slices.Equal(whole, before) {
		t.Errorf("written into: %+v, before %+v", whole, before)
	}
}
