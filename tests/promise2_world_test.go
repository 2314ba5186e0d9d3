package tests

import (
	"slices"
	"testing"

	"loop.example/wharfmate/impl"
)

// startsOfWorldWalks are worlds of all sorts with nothing but forms in flight.
func startsOfWorldWalks() []impl.MateWorld {
	list := calmWorlds()
	for i := range list {
		list[i].Flight = slices.DeleteFunc(list[i].Flight, func(text string) bool {
			_, read := impl.MateRead(text)
			return !read
		})
	}
	return list
}

// worldStaysOk sees that a world is ok and that all that is in flight has a form.
func worldStaysOk(t *testing.T, w impl.MateWorld, by any) {
	t.Helper()
	if !impl.MateWorldOk(w) {
		t.Fatalf("%+v leads to a world that is not ok: %+v", by, w)
	}
	for _, text := range w.Flight {
		if _, read := impl.MateRead(text); !read {
			t.Fatalf("%+v: %q in flight is no form", by, text)
		}
	}
}

// Promise 2, of worlds: also of such as no events lead to. (There it may well be
// that two hold one thing.)
func TestPromise2WorldsStayOk(t *testing.T) {
	for i, start := range startsOfWorldWalks() {
		for seed := range 6 {
			w := newWorldWalk(60*i + seed)
			x := start
			for n := range 300 {
				e := w.event(x)
				x = impl.MateDo(x, e)
				worldStaysOk(t, x, e)
				if n%50 == 0 {
					rates := w.rates()
					worldStaysOk(t, impl.MateCalm(x, 1+w.Intn(4), rates), rates)
				}
			}
		}
	}
}
