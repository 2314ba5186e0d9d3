package tests

import (
	"math"
	"strings"
	"testing"

	"loop.example/wharfmate/impl"
)

func TestWantsOfAnyNumber(t *testing.T) {
	for n := 0; n <= impl.MateMaxWants; n++ {
		if !impl.MateWantsOk(wantsOf(n)) {
			t.Errorf("%d wants are refused", n)
		}
	}
	for _, n := range []int{impl.MateMaxWants + 1, 2 * impl.MateMaxWants} {
		if impl.MateWantsOk(wantsOf(n)) {
			t.Errorf("%d wants are taken", n)
		}
	}
	if !impl.MateWantsOk(nil) || !impl.MateWantsOk([]impl.MateWant{}) {
		t.Error("no wants are refused")
	}
}

func TestWantsAreAscending(t *testing.T) {
	for _, c := range []struct {
		copies string
		want   bool
	}{
		{"a b c", true}, {"a ab b", true}, {"B a", true}, {"10 9", true}, {"! ~", true},
		{"a a", false}, {"b a", false}, {"ab a", false}, {"a c b", false}, {"a b a", false}, {"a B", false},
	} {
		var list []impl.MateWant
		for _, s := range strings.Fields(c.copies) {
			list = append(list, impl.MateWant{Copy: s, Version: 1})
		}
		if impl.MateWantsOk(list) != c.want {
			t.Errorf("copies %s: not %v", c.copies, c.want)
		}
	}
}

// names are texts, each with whether it is a name.
var names = []struct {
	text string
	name bool
}{
	{"a", true}, {"*", true}, {"!", true}, {"~", true}, {"a*", true}, {"!azAZ09~", true}, {strings.Repeat("n", impl.MateMaxName), true},
	{"", false}, {" ", false}, {"a b", false}, {"a\n", false}, {"\x00", false}, {"\x1f", false}, {"a\x7f", false}, {"\x80", false}, {"\xff", false}, {"ä", false},
	{strings.Repeat("n", impl.MateMaxName+1), false}, {strings.Repeat("ä", impl.MateMaxName/2), false}, {strings.Repeat("n", 100000), false},
}

func TestCopyOfAWant(t *testing.T) {
	for _, c := range names {
		if impl.MateWantsOk([]impl.MateWant{{Copy: c.text, Version: 1}}) != c.name {
			t.Errorf("Copy %.30q: not %v", c.text, c.name)
		}
	}
}

func TestHoldOfAWant(t *testing.T) {
	for _, c := range names {
		want := c.name && c.text != "*" || c.text == ""
		if impl.MateWantsOk([]impl.MateWant{{Copy: "a", Version: 1, Hold: c.text}}) != want {
			t.Errorf("Hold %.30q: not %v", c.text, want)
		}
	}
}

func TestEachByteOfAName(t *testing.T) {
	for b := range 256 {
		text := "a" + string([]byte{byte(b)}) + "a"
		want := b >= 33 && b <= 126
		if impl.MateWantsOk([]impl.MateWant{{Copy: text, Version: 1}}) != want {
			t.Errorf("Copy %q: not %v", text, want)
		}
		if impl.MateWantsOk([]impl.MateWant{{Copy: "a", Version: 1, Hold: text}}) != want {
			t.Errorf("Hold %q: not %v", text, want)
		}
	}
}

func TestNumbersOfAWant(t *testing.T) {
	set := map[string]func(w *impl.MateWant, n int){
		"Version": func(w *impl.MateWant, n int) { w.Version = n },
		"Pull":    func(w *impl.MateWant, n int) { w.Pull = n },
		"Start":   func(w *impl.MateWant, n int) { w.Start = n },
		"Dies":    func(w *impl.MateWant, n int) { w.Dies = n },
		"Grace":   func(w *impl.MateWant, n int) { w.Grace = n },
	}
	for part, f := range set {
		low, high := 0, impl.MateMaxTicks
		if part == "Version" {
			low, high = 1, impl.MateMaxVersion
		}
		for _, n := range []int{math.MinInt, low - 1, low, low + 1, high - 1, high, high + 1, math.MaxInt} {
			w := plainWant()
			f(&w, n)
			want := low <= n && n <= high
			if impl.MateWantsOk([]impl.MateWant{w}) != want {
				t.Errorf("%s %d: not %v", part, n, want)
			}
		}
	}
}

func TestHoldsOfWantsDiffer(t *testing.T) {
	for i := range 4 {
		for j := range i {
			list := wantsOf(4)
			list[i].Hold = list[j].Hold
			if impl.MateWantsOk(list) {
				t.Errorf("one Hold at %d and %d is taken", j, i)
			}
			list[i].Hold, list[j].Hold = "", ""
			if !impl.MateWantsOk(list) {
				t.Errorf("no Hold at %d and %d is refused", j, i)
			}
		}
	}
}

func TestAWrongWantAtAnyPlace(t *testing.T) {
	for i := range impl.MateMaxWants {
		for _, spoil := range []func(w *impl.MateWant){
			func(w *impl.MateWant) { w.Copy += " " },
			func(w *impl.MateWant) { w.Version = 0 },
			func(w *impl.MateWant) { w.Hold = "*" },
			func(w *impl.MateWant) { w.Grace = -1 },
			func(w *impl.MateWant) { *w = impl.MateWant{} },
		} {
			list := wantsOf(impl.MateMaxWants)
			spoil(&list[i])
			if impl.MateWantsOk(list) {
				t.Errorf("%+v at %d is taken", list[i], i)
			}
		}
	}
}

func TestWantsAreNotWrittenInto(t *testing.T) {
	wrong := wantsOf(4)
	wrong[3].Hold = "ha"
	for _, list := range [][]impl.MateWant{nil, wantsOf(1), wantsOf(10), wantsOf(11), wrong} {
		untouched(t, list, impl.MateWant{Copy: "behind"}, func(list []impl.MateWant) { impl.MateWantsOk(list) })
	}
}
