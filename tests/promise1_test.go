package tests

import (
	"strings"
	"testing"

	"loop.example/wharfmate/impl"
)

// haveForms sees that each parcel has a form, and that this one is read as it.
func haveForms(t *testing.T, parcels []impl.MateParcel) {
	t.Helper()
	for _, p := range parcels {
		text := impl.MateForm(p)
		if text == "" || text != formAgain(p) {
			t.Errorf("the form of %+v is %q", p, text)
		}
		if got, ok := impl.MateRead(text); !ok || !same(got, p) {
			t.Errorf("%+v comes back by %q as %+v, %v", p, text, got, ok)
		}
	}
}

// parcelsAtLimits are parcels of each Kind with every part at its limits.
func parcelsAtLimits() []impl.MateParcel {
	var list []impl.MateParcel
	most := wantsOf(impl.MateMaxWants)
	for i, w := range most {
		most[i] = longestWant()
		most[i].Copy, most[i].Hold = strings.Repeat(w.Copy, 20), strings.Repeat(w.Copy, 20)
	}
	texts := []string{"!", "~", "*0", "told", strings.Repeat("n", 20)}
	numbers := []int{0, 1, 9, 10, 99999, 999999, 1000000}
	for _, berth := range append(texts, "*") {
		for _, n := range numbers {
			list = append(list, to(berth, here(n)))
			if n > 0 {
				list = append(list, to(berth, told(n, nil)), to(berth, told(n, most)), to(berth, told(n, []impl.MateWant{{Copy: berth, Version: n}})))
			}
			for _, hold := range texts {
				list = append(list, to(berth, gotBack(hold, n)))
				for _, copy := range append(texts, "*") {
					list = append(list, to(berth, asked(hold, copy, n)), to(berth, given(hold, copy, n)), to(berth, back(hold, copy, n)))
				}
			}
		}
	}
	return list
}

func TestPromise1FormsAreReadBack(t *testing.T) {
	haveForms(t, mailParcels())
	haveForms(t, parcelsAtLimits())
}

func TestPromise1EachWantIsReadBack(t *testing.T) {
	for _, n := range []int{0, 1, 9, 10, 99, 100} {
		for _, change := range []func(w *impl.MateWant){
			func(w *impl.MateWant) { w.Pull = n },
			func(w *impl.MateWant) { w.Start = n },
			func(w *impl.MateWant) { w.Dies = n },
			func(w *impl.MateWant) { w.Grace = n },
			func(w *impl.MateWant) { w.Version = 10*n + 1 },
			func(w *impl.MateWant) { w.Hold = "" },
		} {
			w := holdWant()
			change(&w)
			haveForms(t, []impl.MateParcel{told(3, []impl.MateWant{w}), told(3, append(wantsOf(2), w))})
		}
	}
}

// formsToSpoil are forms that are short enough to change each byte of them.
func formsToSpoil() []string {
	c, d := holdWant(), plainWant()
	d.Copy, d.Pull = "d", 10
	list := []string{impl.MateForm(told(10, []impl.MateWant{c, d})), impl.MateForm(told(1000000, nil)), impl.MateForm(here(0)), impl.MateForm(here(100))}
	for _, p := range mailParcels() {
		list = append(list, impl.MateForm(p))
	}
	return list
}

// Promise 1, its other half: each text that differs from a form by a byte that
// is another, is missing or is too many is read just if it is a form itself.
func TestPromise1NothingElseIsRead(t *testing.T) {
	forms, others := 0, 0
	try := func(text string) {
		if readJustForms(t, text) {
			forms++
		} else {
			others++
		}
	}
	bytes := "\x00\t\n\r !*+-.0189:_abcdeghkntw~\x7f\x80\xff"
	for _, form := range formsToSpoil() {
		try(form)
		for i := range len(form) {
			try(form[:i])
			try(form[i:])
			try(form[:i] + form[i+1:])
			for _, b := range []byte(bytes) {
				try(form[:i] + string([]byte{b}) + form[i:])
				try(form[:i] + string([]byte{b}) + form[i+1:])
			}
		}
		for _, b := range []byte(bytes) {
			try(form + string([]byte{b}))
		}
	}
	if forms < 100 || others < 1000 {
		t.Errorf("%d forms and %d other texts are too few", forms, others)
	}
}

func TestPromise1LinesOfFormsPutTogether(t *testing.T) {
	var lines []string
	for _, form := range formsToSpoil() {
		lines = append(lines, strings.SplitAfter(form, "\n")...)
	}
	for _, a := range lines {
		for _, b := range lines {
			readJustForms(t, a+b)
			readJustForms(t, a+"\n"+b)
			readJustForms(t, "told a 7\n"+a+b)
		}
	}
}

// Words of forms in any order, from a dice.
func TestPromise1WordsOfFormsPutTogether(t *testing.T) {
	words := []string{"told", "asked", "given", "back", "gotback", "here", "want", "a", "b", "h", "c", "*", "0", "1", "7", "100", "101", "1000000", "1000001", "01", "-1", "+1", ""}
	ends := []string{" ", " ", " ", " ", "\n", "\n", "  ", ""}
	d := dice(3)
	forms := 0
	for range 40000 {
		text := words[d.Intn(6)]
		for range 2 + d.Intn(4) {
			text += ends[d.Intn(4)] + words[7+d.Intn(len(words)-7)]
		}
		for d.Intn(3) == 0 {
			text += ends[d.Intn(len(ends))] + words[d.Intn(len(words))]
		}
		if d.Intn(10) > 0 {
			text += "\n"
		}
		if readJustForms(t, text) {
			forms++
		}
	}
	if forms < 100 {
		t.Errorf("%d forms are too few", forms)
	}
}
