package tests

import (
	"fmt"
	"math"
	"regexp"
	"slices"
	"strconv"
	"strings"
	"testing"

	"loop.example/wharfmate/impl"
)

// longestWant has each of its parts at its most.
func longestWant() impl.MateWant {
	n := impl.MateMaxTicks
	return impl.MateWant{Copy: strings.Repeat("~", 20), Version: impl.MateMaxVersion, Hold: strings.Repeat("~", 20), Pull: n, Start: n, Dies: n, Grace: n}
}

func TestForms(t *testing.T) {
	c, d := holdWant(), plainWant()
	d.Copy = "d"
	long := strings.Repeat("~", 20)
	for _, f := range []struct {
		p    impl.MateParcel
		text string
	}{
		{told(7, nil), "told a 7\n"},
		{told(7, []impl.MateWant{c}), "told a 7\nwant c 1 h 3 5 7 9\n"},
		{told(7, []impl.MateWant{c, d}), "told a 7\nwant c 1 h 3 5 7 9\nwant d 1 * 3 5 7 9\n"},
		{told(impl.MateMaxVersion, []impl.MateWant{longestWant()}), "told a 1000000\nwant " + long + " 1000000 " + long + " 100 100 100 100\n"},
		{to("want", told(1, []impl.MateWant{{Copy: "*", Version: 1, Hold: "**"}})), "told want 1\nwant * 1 ** 0 0 0 0\n"},
		{asked("h", "c", 10), "asked a h c 10\n"},
		{given("h", "c", 10), "given a h c 10\n"},
		{back("h", "c", 10), "back a h c 10\n"},
		{gotBack("h", 10), "gotback a h 10\n"},
		{here(0), "here a 0\n"},
		{here(120), "here a 120\n"},
		{to(long, asked(long, long, impl.MateMaxClock)), "asked " + long + " " + long + " " + long + " 1000000\n"},
		{to("*", given("0", "*", 0)), "given * 0 * 0\n"},
		{to("back", back("back", "back", 7)), "back back back back 7\n"},
		{to("-1", gotBack("+1", 1)), "gotback -1 +1 1\n"},
	} {
		if got := impl.MateForm(f.p); got != f.text {
			t.Errorf("the form of %+v is %q, not %q", f.p, got, f.text)
		}
		if got, ok := impl.MateRead(f.text); !ok || !same(got, f.p) {
			t.Errorf("%q is read as %+v, %v, not %+v", f.text, got, ok, f.p)
		}
	}
}

// mailParcels are parcels that have a form, one of each Kind.
func mailParcels() []impl.MateParcel {
	return []impl.MateParcel{told(7, []impl.MateWant{holdWant()}), asked("h", "c", 10), given("h", "c", 10), back("h", "c", 10), gotBack("h", 10), here(7)}
}

// usedBy says whether a Kind is one of those that use a part.
func usedBy(kind int, kinds ...int) bool {
	return slices.Contains(kinds, kind)
}

// formOrNone sees that p has a form, which is read back, or that it has none.
func formOrNone(t *testing.T, p impl.MateParcel, want bool) {
	t.Helper()
	text := impl.MateForm(p)
	if text != "" != want {
		t.Errorf("%+v has the form %q, not %v", p, text, want)
	}
	if want {
		haveForms(t, []impl.MateParcel{p})
	}
}

func TestNamesOfAForm(t *testing.T) {
	for _, p := range mailParcels() {
		for _, c := range names {
			berth, hold, copy := p, p, p
			berth.Berth, hold.Hold, copy.Copy = c.text, c.text, c.text
			formOrNone(t, berth, c.name)
			if usedBy(p.Kind, impl.MateAsked, impl.MateGiven, impl.MateBack, impl.MateGotBack) {
				formOrNone(t, hold, c.name && c.text != "*")
			} else {
				formOrNone(t, hold, c.text == "")
			}
			if usedBy(p.Kind, impl.MateAsked, impl.MateGiven, impl.MateBack) {
				formOrNone(t, copy, c.name)
			} else {
				formOrNone(t, copy, c.text == "")
			}
		}
	}
}

func TestNumbersOfAForm(t *testing.T) {
	for _, p := range mailParcels() {
		for _, n := range []int{math.MinInt, -1, 0, 1, 2, impl.MateMaxVersion - 1, impl.MateMaxVersion, impl.MateMaxVersion + 1, math.MaxInt} {
			seen, at := p, p
			seen.Seen, at.At = n, n
			inRange := n >= 0 && n <= 1000000
			switch {
			case p.Kind == impl.MateTold:
				formOrNone(t, seen, inRange && n > 0)
				formOrNone(t, at, n == 0)
			case p.Kind == impl.MateHere:
				formOrNone(t, seen, inRange)
				formOrNone(t, at, n == 0)
			default:
				formOrNone(t, seen, n == 0)
				formOrNone(t, at, inRange)
			}
		}
	}
}

func TestWantsOfAForm(t *testing.T) {
	astray, twice := wantsOf(3), wantsOf(3)
	slices.Reverse(astray)
	twice[2].Hold = twice[0].Hold
	lists := [][]impl.MateWant{nil, {}, wantsOf(1), wantsOf(2), wantsOf(impl.MateMaxWants), wantsOf(impl.MateMaxWants + 1), astray, twice, {{}}, slices.Repeat(wantsOf(5), 1000)}
	for _, w := range otherWants(longestWant()) {
		lists = append(lists, []impl.MateWant{w})
	}
	for _, hold := range []string{"", "*", "**", "a b"} {
		lists = append(lists, []impl.MateWant{{Copy: "c", Version: 1, Hold: hold}})
	}
	for _, p := range mailParcels() {
		for _, wants := range lists {
			p.Wants = wants
			if p.Kind == impl.MateTold {
				formOrNone(t, p, impl.MateWantsOk(wants))
			} else {
				formOrNone(t, p, len(wants) == 0)
			}
		}
	}
}

func TestOtherKindsHaveNoForm(t *testing.T) {
	for _, kind := range []int{math.MinInt, -1, 0, 7, 8, math.MaxInt} {
		for _, p := range mailParcels() {
			p.Kind = kind
			formOrNone(t, p, false)
		}
		formOrNone(t, impl.MateParcel{Kind: kind}, false)
	}
}

// A parcel of one Kind has parts that another does not use, or lacks some.
func TestPartsOfAnotherKindHaveNoForm(t *testing.T) {
	for _, p := range mailParcels() {
		for _, q := range mailParcels() {
			kind := p.Kind
			p := q
			p.Kind = kind
			alike := usedBy(kind, impl.MateAsked, impl.MateGiven, impl.MateBack) && usedBy(q.Kind, impl.MateAsked, impl.MateGiven, impl.MateBack)
			formOrNone(t, p, kind == q.Kind || alike || kind == impl.MateTold && q.Kind == impl.MateHere)
		}
	}
}

// nothingRead sees that a text is not read.
func nothingRead(t *testing.T, text string) {
	t.Helper()
	if p, ok := impl.MateRead(text); ok || !same(p, impl.MateParcel{}) {
		t.Errorf("%.80q is read as %+v, %v", text, p, ok)
	}
}

func TestTextsThatAreNoForm(t *testing.T) {
	for _, text := range []string{
		"", "\n", " ", " \n", "\n\n", "\x00", "*\n", "want\n", "want c 1 h 0 0 0 0\n",
		"told a 7", "told a 7\n\n", "\ntold a 7\n", " told a 7\n", "told a 7 \n", "told  a 7\n", "told a  7\n", "told\ta 7\n", "told a\n7\n", "told a 7\r\n",
		"told\n", "told \n", "told a\n", "told a \n", "told 7\n", "told a 7 8\n", "told a b 7\n", "Told a 7\n", "tol a 7\n", "tolda 7\n", "told a 7\ntold a 7\n",
		"told a 07\n", "told a +7\n", "told a -7\n", "told a 7.0\n", "told a 0x7\n", "told a 7_0\n", "told a 1e3\n", "told a 0\n", "told a 1000001\n", "told a 9223372036854775808\n", "told a 18446744073709551623\n", "told a x\n", "told a \xff\n",
		"here a\n", "here a 00\n", "here a -0\n", "here a +0\n", "here a 0", "here a 0\n\n", "here a 1000001\n", "here a 0 0\n", "here a h 0\n", "here  0\n", "here 0\n", "here a\n0\n", "here a 0\nhere a 0\n",
		"asked a h c\n", "asked a h 4\n", "asked a h c 04\n", "asked a h c +4\n", "asked a h c -4\n", "asked a h c -0\n", "asked a h c 1000001\n", "asked a h c 4 4\n", "asked a * c 4\n", "asked a h  4\n", "asked a  c 4\n", "asked  h c 4\n", "asked a h c \n", "asked a h c\n4\n", "asked a h c 4\n\n", "asked a h c 4",
		"given a h c 4 \n", "given a * c 4\n", "back a * c 4\n", "back a h c 4\nback a h c 4\n", "gotback a h c 4\n", "gotback a * 4\n", "gotback a h\n", "gotback a h 04\n", "gotback a h 1000001\n", "gotback a h -1\n", "gotback h 4\n",
		strings.Repeat("n", 100000), strings.Repeat("\n", 100000), strings.Repeat(" ", 100000), strings.Repeat("told a 7\n", 10000), "told a " + strings.Repeat("7", 100000) + "\n",
	} {
		nothingRead(t, text)
	}
}

func TestWantLinesThatAreNone(t *testing.T) {
	for _, line := range []string{
		"want c 1 h 0 0 0 0", "want c 1 h 0 0 0 0\n\n", "\nwant c 1 h 0 0 0 0\n", "want c 1 h 0 0 0\n", "want c 1 h 0 0 0 0 0\n", "want c 1 h  0 0 0 0\n", " want c 1 h 0 0 0 0\n", "want c 1 h 0 0 0 0 \n", "Want c 1 h 0 0 0 0\n", "c 1 h 0 0 0 0\n", "wont c 1 h 0 0 0 0\n", "want\n", "\n", " \n", "want c 1 h 0 0 0 0\r\n",
		"want c 0 h 0 0 0 0\n", "want c 01 h 0 0 0 0\n", "want c 1000001 h 0 0 0 0\n", "want c -1 h 0 0 0 0\n", "want c +1 h 0 0 0 0\n", "want c x h 0 0 0 0\n", "want c  h 0 0 0 0\n",
		"want c 1  0 0 0 0\n", "want  1 h 0 0 0 0\n", "want c 1 " + strings.Repeat("h", 21) + " 0 0 0 0\n", "want " + strings.Repeat("c", 21) + " 1 h 0 0 0 0\n",
		"want c 1 h 00 0 0 0\n", "want c 1 h 0 -0 0 0\n", "want c 1 h 0 0 +0 0\n", "want c 1 h 0 0 0 101\n", "want c 1 h 101 0 0 0\n", "want c 1 h 0 0 01 0\n", "want c 1 h 0 0 0 -1\n",
		"want c 1 h 0 0 0 0\nwant c 1 * 0 0 0 0\n", "want d 1 h 0 0 0 0\nwant c 1 * 0 0 0 0\n", "want c 1 h 0 0 0 0\nwant d 1 h 0 0 0 0\n", "want c 1 h 0 0 0 0\nwant d 1 * 0 0 0 0", "want c 1 h 0 0 0 0\ntold a 7\n", "want c 1 h 0 0 0 0\n\nwant d 1 * 0 0 0 0\n", "want c 1 h 0 0 0 0want d 1 * 0 0 0 0\n",
	} {
		nothingRead(t, "told a 7\n"+line)
	}
	ten := impl.MateForm(told(7, wantsOf(impl.MateMaxWants)))
	if _, ok := impl.MateRead(ten); !ok {
		t.Errorf("%q is not read", ten)
	}
	nothingRead(t, ten+"want z 1 * 0 0 0 0\n")
	nothingRead(t, ten+strings.Repeat("want z 1 * 0 0 0 0\n", 10000))
	for _, p := range mailParcels()[1:] {
		nothingRead(t, impl.MateForm(p)+"want c 1 h 0 0 0 0\n")
		nothingRead(t, "want c 1 h 0 0 0 0\n"+impl.MateForm(p))
	}
}

var (
	headPattern = regexp.MustCompile(`^(told|here) [!-~]{1,20} (0|[1-9][0-9]{0,6})$|^(asked|given|back) [!-~]{1,20} ([!-~]{1,20}) [!-~]{1,20} (0|[1-9][0-9]{0,6})$|^gotback [!-~]{1,20} ([!-~]{1,20}) (0|[1-9][0-9]{0,6})$`)
	wantPattern = regexp.MustCompile(`^want ([!-~]{1,20}) (0|[1-9][0-9]{0,6}) ([!-~]{1,20}) (0|[1-9][0-9]{0,2}) (0|[1-9][0-9]{0,2}) (0|[1-9][0-9]{0,2}) (0|[1-9][0-9]{0,2})$`)
)

// isForm says, in another way than the program, whether a text is a form.
func isForm(text string) bool {
	front, ends := strings.CutSuffix(text, "\n")
	lines := strings.Split(front, "\n")
	head := headPattern.FindStringSubmatch(lines[0])
	if !ends || head == nil || len(lines) > 1 && head[1] != "told" {
		return false
	}
	n, _ := strconv.Atoi(head[2] + head[5] + head[7])
	if n > 1000000 || n == 0 && head[1] == "told" || head[4]+head[6] == "*" {
		return false
	}
	return areWantLines(lines[1:])
}

func areWantLines(lines []string) bool {
	last, holds := "", map[string]bool{}
	for _, line := range lines {
		w := wantPattern.FindStringSubmatch(line)
		if w == nil || len(lines) > 10 || w[1] <= last || holds[w[3]] {
			return false
		}
		last, holds[w[3]] = w[1], w[3] != "*"
		for i, most := range map[int]int{2: 1000000, 4: 100, 5: 100, 6: 100, 7: 100} {
			if n, _ := strconv.Atoi(w[i]); n > most || n == 0 && i == 2 {
				return false
			}
		}
	}
	return true
}

// readJustForms sees that a text is read if it is a form, and as what it says.
func readJustForms(t *testing.T, text string) bool {
	t.Helper()
	if !isForm(text) {
		nothingRead(t, text)
		return false
	}
	p, ok := impl.MateRead(text)
	if !ok || formAgain(p) != text {
		t.Errorf("%q is read as %+v, %v", text, p, ok)
	}
	return true
}

// formAgain writes a parcel in another way than the program.
func formAgain(p impl.MateParcel) string {
	text := ""
	switch p.Kind {
	case impl.MateTold, impl.MateHere:
		text = fmt.Sprintf("%s %s %d\n", []string{1: "told", 6: "here"}[p.Kind], p.Berth, p.Seen)
	case impl.MateAsked, impl.MateGiven, impl.MateBack:
		text = fmt.Sprintf("%s %s %s %s %d\n", []string{2: "asked", 3: "given", 4: "back"}[p.Kind], p.Berth, p.Hold, p.Copy, p.At)
	case impl.MateGotBack:
		text = fmt.Sprintf("gotback %s %s %d\n", p.Berth, p.Hold, p.At)
	}
	for _, w := range p.Wants {
		hold := w.Hold
		if hold == "" {
			hold = "*"
		}
		text += fmt.Sprintf("want %s %d %s %d %d %d %d\n", w.Copy, w.Version, hold, w.Pull, w.Start, w.Dies, w.Grace)
	}
	return text
}
