package tests

import (
	"fmt"
	"regexp"
	"slices"
	"strconv"
	"strings"
	"testing"

	"loop.example/wharfmate/impl"
)

// row is a row of chapter 9's table: the form of its lines, and what it does and
// answers, given the words of such a line.
type row struct {
	form *regexp.Regexp
	do   func(w *impl.MateWorld, words []string) string
}

// rowOf has N for a decimal, B for a berth and W for any word in its form.
func rowOf(form string, do func(w *impl.MateWorld, words []string) string) row {
	form = strings.NewReplacer("N", "(?:0|[1-9][0-9]{0,3})", "B", "[ab]", "W", "[^ \\n]+").Replace(form)
	return row{regexp.MustCompile(`\A(?:` + form + `)\z`), do}
}

// table is chapter 9's, by what the other chapters' functions do.
func table() []row {
	return []row{
		rowOf("want B W N W N N N N", modelWant),
		rowOf("drop B W", modelDrop),
		rowOf("tick|tick N N", func(w *impl.MateWorld, words []string) string {
			return modelDo(w, impl.MateEvent{Kind: impl.MateEvTick, Rates: intsOf(words[1:])})
		}),
		rowOf("(?:bring|double|lose) N", func(w *impl.MateWorld, words []string) string {
			return modelDo(w, impl.MateEvent{Kind: 2 + slices.Index([]string{"bring", "double", "lose"}, words[0]), A: intsOf(words[1:])[0]})
		}),
		rowOf("(?:fall|crash) B", func(w *impl.MateWorld, words []string) string {
			return modelDo(w, impl.MateEvent{Kind: impl.MateEvFall, A: slices.Index(berths, words[1]), B: strings.Count(words[0], "crash")})
		}),
		rowOf("rise B", func(w *impl.MateWorld, words []string) string {
			return modelDo(w, impl.MateEvent{Kind: impl.MateEvRise, A: slices.Index(berths, words[1])})
		}),
		rowOf("calm N|calm N N N", modelCalm),
		rowOf("show B", modelShow),
		rowOf("holds", modelHolds),
		rowOf("safe", func(w *impl.MateWorld, _ []string) string {
			return map[bool]string{true: "safe", false: "not safe"}[impl.MateSafe(*w)] + map[bool]string{true: " settled"}[impl.MateSettled(*w)]
		}),
	}
}

func intsOf(words []string) []int {
	var list []int
	for _, word := range words {
		n, _ := strconv.Atoi(word)
		list = append(list, n)
	}
	return list
}

func modelDo(w *impl.MateWorld, e impl.MateEvent) string {
	*w = impl.MateDo(*w, e)
	return fmt.Sprint(len(w.Flight))
}

func modelPut(w *impl.MateWorld, berth string, wants []impl.MateWant) string {
	land, code := impl.MatePut(w.Land, berth, wants)
	w.Land = land
	return fmt.Sprint("code ", code)
}

// modelWants are the wants of a place but those of a Copy.
func modelWants(w *impl.MateWorld, berth, copy string) (others []impl.MateWant, there bool) {
	for _, p := range w.Land.Places {
		for _, x := range p.Wants {
			switch {
			case p.Berth == berth && x.Copy == copy:
				there = true
			case p.Berth == berth:
				others = append(others, x)
			}
		}
	}
	return others, there
}

func modelWant(w *impl.MateWorld, words []string) string {
	n := intsOf(words)
	x := impl.MateWant{Copy: words[2], Version: n[3], Hold: words[4], Pull: n[5], Start: n[6], Dies: n[7], Grace: n[8]}
	if x.Hold == "*" {
		x.Hold = ""
	}
	wants, _ := modelWants(w, words[1], x.Copy)
	wants = append(wants, x)
	slices.SortFunc(wants, func(x, y impl.MateWant) int { return strings.Compare(x.Copy, y.Copy) })
	return modelPut(w, words[1], wants)
}

func modelDrop(w *impl.MateWorld, words []string) string {
	wants, there := modelWants(w, words[1], words[2])
	if !there {
		return "none"
	}
	return modelPut(w, words[1], wants)
}

func modelCalm(w *impl.MateWorld, words []string) string {
	n := intsOf(words[1:])
	if n[0] > 200 {
		return "no"
	}
	*w = impl.MateCalm(*w, n[0], n[1:])
	return fmt.Sprint(len(w.Flight))
}

func modelShow(w *impl.MateWorld, words []string) string {
	m := w.Mates[slices.Index(berths, words[1])]
	said := []string{fmt.Sprint(m.Clock, ":")}
	if !m.Up {
		said = append(said, "down")
	}
	for _, r := range m.Runs {
		state := []string{"pulling", "waiting", "starting", "ready", "backoff", "stopping"}[r.State-1]
		said = append(said, fmt.Sprintf("%s.%d %s", r.Want.Copy, r.Want.Version, state))
	}
	return strings.Join(said, " ")
}

func modelHolds(w *impl.MateWorld, _ []string) string {
	var said []string
	for _, g := range w.Land.Grants {
		said = append(said, fmt.Sprintf("%s>%s/%s<%d", g.Hold, g.Berth, g.Copy, g.Until))
	}
	return strings.Join(append(said, "-")[:max(1, len(said))], " ")
}

// model is what a session answers to lines, by the table.
func model(lines []string) []string {
	w := impl.MateNewWorld(berths[:2])
	rows := table()
	var answers []string
	for _, line := range lines {
		said := "bad"
		for _, r := range rows {
			if r.form.MatchString(line) {
				said = r.do(&w, strings.Split(line, " "))
			}
		}
		answers = append(answers, said)
	}
	return answers
}

// talker draws lines.
type talker struct {
	dice
}

func (d *talker) one(words ...string) string {
	return words[d.Intn(len(words))]
}

// tableLine draws a line of the table, of a few copies and holds that come again
// and again.
func (d *talker) tableLine() string {
	b, c, n := d.one("a", "b"), d.one("c", "d", "e"), d.Intn(6)
	switch d.Intn(16) {
	case 0, 1, 2:
		return fmt.Sprintf("want %s %s %d %s %d %d %d %d", b, c, 1+d.Intn(3), d.one("*", "u", "v", "w"), d.Intn(3), d.Intn(4), d.Intn(4)*2, d.Intn(6))
	case 3:
		return fmt.Sprintf("drop %s %s", b, c)
	case 4, 5:
		return d.one("tick", fmt.Sprintf("tick %d %d", d.Intn(6), d.Intn(6)))
	case 6, 7, 8:
		return fmt.Sprintf("%s %d", d.one("bring", "bring", "bring", "bring", "double", "lose"), n)
	case 9:
		return d.one("fall ", "crash ", "rise ", "rise ") + b
	case 10:
		return fmt.Sprintf("calm %d %d %d", n, d.Intn(6), d.Intn(6))
	case 11:
		return "calm " + d.one("0", "1", "2", "3", "7", "12", "12", "201", "9999")
	case 12, 13:
		return "show " + b
	case 14:
		return "holds"
	}
	return "safe"
}

// word draws a word that makes a line of the table nearly one: still one at times.
func (d *talker) word() string {
	return d.one("", "a", "b", "c", "*", "0", "1", "00", "01", "-1", "+1", "10000", "200", "101", "tick", "want", "\xff", "\t", strings.Repeat("n", 20+d.Intn(2)), string([]byte{byte(d.Intn(256))}))
}

func (d *talker) nearLine() string {
	words := strings.Split(d.tableLine(), " ")
	place := d.Intn(len(words))
	switch d.Intn(4) {
	case 0:
		words[place] = d.word()
	case 1:
		words = slices.Insert(words, place, d.word())
	case 2:
		words = slices.Delete(words, place, place+1)
	case 3:
		words[place] += d.word()
	}
	return strings.Join(words, " ")
}

func (d *talker) bytes() string {
	var b []byte
	for range d.Intn(12) {
		b = append(b, byte(d.Intn(256)))
	}
	return string(b)
}

// text draws a text of all sorts of lines, with or without a last newline.
func (d *talker) text() string {
	var text string
	for range d.Intn(60) {
		switch n := d.Intn(12); {
		case n == 0:
			text += d.bytes()
		case n <= 2:
			text += d.nearLine()
		default:
			text += d.tableLine()
		}
		text += "\n"
	}
	return text + d.one("", "", d.nearLine(), d.tableLine(), d.bytes())
}

// cutAtNewlines are the lines of a text, by chapter 9's words.
func cutAtNewlines(text string) []string {
	pieces := strings.Split(text, "\n")
	if pieces[len(pieces)-1] == "" {
		pieces = pieces[:len(pieces)-1]
	}
	return pieces
}

// keepsPromise11 sees that a text is answered as the table says, line by line,
// and its first lines as if none were behind them.
func keepsPromise11(t *testing.T, text string) []string {
	t.Helper()
	lines := cutAtNewlines(text)
	answers := model(lines)
	front, said := "", ""
	for k := 0; ; k++ {
		if got := impl.MateSession(front); got != said {
			t.Fatalf("the first %d lines of %q are answered\n%q, not\n%q", k, text, got, said)
		}
		if k == len(lines) {
			break
		}
		front += lines[k]
		said += answers[k] + "\n"
		if got := impl.MateSession(front); got != said && lines[k] != "" {
			t.Fatalf("the first %d lines of %q without a last newline are answered\n%q, not\n%q", k+1, text, got, said)
		}
		front += "\n"
	}
	if got := impl.MateSession(text); got != said {
		t.Fatalf("%q is answered\n%q, not\n%q", text, got, said)
	}
	return answers
}

// Promise 11, of many texts: the answers to the first k lines are the first k
// answers to the whole, for each k.
func TestPromise11Sessions(t *testing.T) {
	t.Parallel()
	seen := map[string]int{}
	for seed := range 250 {
		d := talker{dice: dice(seed)}
		for _, answer := range keepsPromise11(t, d.text()) {
			for _, word := range strings.Fields(answer) {
				seen[word]++
			}
			seen[answer]++
		}
	}
	for _, what := range []string{"bad", "code 0", "code 2", "code 3", "none", "no", "0", "1", "2", "-", "safe", "safe settled", "down", "pulling", "waiting", "starting", "ready", "backoff", "stopping"} {
		if seen[what] < 5 {
			t.Errorf("the texts come to too little: %s %d times", what, seen[what])
		}
	}
}

// Lines that are nearly of the table, and bytes of all kinds.
func TestPromise11NearLines(t *testing.T) {
	t.Parallel()
	for seed := range 300 {
		d := talker{dice: dice(1000 + seed)}
		text := ""
		for range d.Intn(30) {
			text += d.nearLine() + "\n"
		}
		keepsPromise11(t, text)
		keepsPromise11(t, d.bytes()+d.bytes()+d.one("\n", "\n\n", "")+d.bytes())
	}
}

// The first lines are answered so also where the whole is too long.
func TestPromise11TooLong(t *testing.T) {
	for _, line := range []string{"tick", "safe", "", "x", "want a c 1 v 0 0 0 0", strings.Repeat("y", 60)} {
		most := min(impl.MateMaxLines, impl.MateMaxSession/(len(line)+1))
		lines := slices.Repeat([]string{line}, most)
		want := strings.Join(model(lines), "\n") + "\n"
		text := strings.Join(lines, "\n") + "\n"
		if got := impl.MateSession(text); got != want {
			t.Errorf("%d lines %q are answered %.80q", most, line, got)
		}
		if got := impl.MateSession(text + line + "\n"); got != "too long\n" {
			t.Errorf("%d lines %q are answered %.80q", most+1, line, got)
		}
	}
}
