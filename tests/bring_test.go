package tests

import (
	"slices"
	"strings"
	"testing"

	"loop.example/wharfmate/impl"
)

// bringWorld has the mates a and b, both up and busy with the same, a book that
// grants to a, and nothing in flight.
func bringWorld() impl.MateWorld {
	b := busyMate()
	b.Name = "b"
	return impl.MateWorld{Land: busyLand(), Mates: []impl.Mate{busyMate(), b}}
}

// bringTo sees that what is brought from any place of a flight leads to a world,
// as far as its book and mates go, and to answers behind the flight.
func bringTo(t *testing.T, w impl.MateWorld, text string, want impl.MateWorld, answers ...string) {
	t.Helper()
	for place := range 3 {
		others := []string{"one", "two"}
		w.Flight = slices.Insert(slices.Clone(others), place, text)
		want.Flight = append(others, answers...)
		doTo(t, w, impl.MateEvent{Kind: impl.MateEvBring, A: place}, want)
	}
}

func TestBroughtToAMate(t *testing.T) {
	for _, p := range []impl.MateParcel{told(8, wantsOf(2)), given("k", "e", 50), gotBack("b", 26), gotBack("w", 9)} {
		for i, berth := range []string{"a", "b"} {
			p := to(berth, p)
			want := bringWorld()
			want.Mates[i] = impl.MateTake(want.Mates[i], p)
			if sameMate(want.Mates[i], bringWorld().Mates[i]) {
				t.Fatalf("%+v changes nothing", p)
			}
			bringTo(t, bringWorld(), impl.MateForm(p), want)
		}
	}
	heard := bringWorld()
	heard.Mates[1].Seen, heard.Mates[1].Wants = 8, nil
	bringTo(t, bringWorld(), "told b 8\n", heard)
}

// An old word, a given hold that was not asked for, and one that is not being
// given back change nothing; nor does anything at a mate that is down.
func TestBroughtToAMateInVain(t *testing.T) {
	for _, text := range []string{"told a 7\n", "given a h c 39\n", "given a h x 46\n", "gotback a b 25\n", "gotback a h 46\n"} {
		bringTo(t, bringWorld(), text, bringWorld())
	}
	down := bringWorld()
	down.Mates[0] = downMate()
	for _, p := range telling() {
		bringTo(t, down, impl.MateForm(p), down)
	}
}

func TestBroughtToTheBook(t *testing.T) {
	for _, c := range []struct{ text, answer string }{
		{"asked a h c 46\n", "given a h c 46\n"}, {"asked b k e 3\n", "given b k e 3\n"}, {"asked b j c 50\n", "given b j c 50\n"},
		{"back a h c 40\n", "gotback a h 40\n"}, {"back b k e 1000000\n", "gotback b k 1000000\n"},
	} {
		p, ok := impl.MateRead(c.text)
		want := bringWorld()
		want.Land, _ = impl.MateLandTake(want.Land, p)
		if !ok || sameLand(want.Land, bringWorld().Land) {
			t.Fatalf("%q changes nothing", c.text)
		}
		bringTo(t, bringWorld(), c.text, want, c.answer)
	}
	for _, text := range []string{"asked a h c 39\n", "asked b h c 46\n", "asked a k e 46\n", "here a 7\n", "here b 0\n"} {
		bringTo(t, bringWorld(), text, bringWorld())
	}
	bringTo(t, bringWorld(), "back b h c 46\n", bringWorld(), "gotback b h 46\n")
}

// A parcel to the book may come from a berth that is no mate; what the book
// answers to it reaches nobody.
func TestBroughtForABerthThatIsNoMate(t *testing.T) {
	for _, p := range telling() {
		for _, berth := range []string{"A", "ab", "c", "zz"} {
			bringTo(t, bringWorld(), impl.MateForm(to(berth, p)), bringWorld())
		}
	}
	w := bringWorld()
	w.Mates[0].Name, w.Mates[1].Name = "x", "y"
	want := w
	want.Land, _ = impl.MateLandTake(w.Land, asked("h", "c", 46))
	bringTo(t, w, "asked a h c 46\n", want, "given a h c 46\n")
	bringTo(t, want, "given a h c 46\n", want)
	bringTo(t, w, "back q p c 46\n", w, "gotback q p 46\n")
}

func TestTextsThatAreNotBrought(t *testing.T) {
	w := bringWorld()
	for _, text := range []string{
		"", "\n", "nothing", "told", "told a 8", "told a 8\n\n", "told a 08\n", "told a 0\n", "asked a h c 46", "asked a * c 46\n", " asked a h c 46\n", "asked a h c -1\n",
		"asked a h c 46\nasked a h c 46\n", "given a k e 50 \n", "back a h c\n", "gotback a b 26 1\n", "here a -1\n", "here a 1000001\n", strings.Repeat("told a 8\n", 100000),
	} {
		bringTo(t, w, text, w)
	}
}

// What is taken out makes room for an answer.
func TestBroughtAtAFlightThatIsFull(t *testing.T) {
	for _, place := range []int{0, 1, 150, impl.MateMaxFlight - 1} {
		for _, c := range []struct{ text, answer string }{{"asked a h c 46\n", "given a h c 46\n"}, {"back b h c 46\n", "gotback b h 46\n"}} {
			w := bringWorld()
			rest := slices.Repeat([]string{"x"}, impl.MateMaxFlight-1)
			w.Flight = slices.Insert(slices.Clone(rest), place, c.text)
			p, _ := impl.MateRead(c.text)
			want := w
			want.Land, _ = impl.MateLandTake(w.Land, p)
			want.Flight = append(rest, c.answer)
			doTo(t, w, impl.MateEvent{Kind: impl.MateEvBring, A: place}, want)
		}
	}
}

func TestBroughtAgainAndAgain(t *testing.T) {
	w := bringWorld()
	w.Flight = []string{"told a 8\n", "told b 8\n", "asked a h c 46\n"}
	for range 5 {
		w = impl.MateDo(w, impl.MateEvent{Kind: impl.MateEvBring})
	}
	if len(w.Flight) != 0 || w.Mates[0].Seen != 8 || w.Mates[1].Seen != 8 || w.Land.Grants[0].At != 46 {
		t.Errorf("brought to %+v", w)
	}
}
