package tests

import (
	"fmt"
	"slices"
	"testing"

	"loop.example/wharfmate/impl"
)

// roomyLand is the book with something behind the end of each of its lists.
func roomyLand(l impl.MateLand) impl.MateLand {
	l.Grants = withRoom(l.Grants, impl.MateGrant{Hold: "behind", Berth: "behind", Copy: "behind"})
	l.Places = withRoom(l.Places, impl.MatePlace{Berth: "behind", Seen: 1})
	for i, p := range l.Places {
		l.Places[i].Wants = withRoom(p.Wants, impl.MateWant{Copy: "behind", Version: 1})
	}
	return l
}

// wholeLand tells a book with all that lies behind the ends of its lists.
func wholeLand(l impl.MateLand) string {
	parts := []any{l, l.Grants[:cap(l.Grants)], l.Places[:cap(l.Places)]}
	for _, p := range l.Places {
		parts = append(parts, p.Wants[:cap(p.Wants)])
	}
	return fmt.Sprintf("%+v", parts)
}

// memoryLands are books of every kind: ok or not, at the end of time, with
// lists that are empty or full.
func memoryLands() []impl.MateLand {
	last, wrong, bare := busyLand(), busyLand(), busyLand()
	last.Time = 2 * impl.MateMaxClock
	wrong.Time = 51
	bare.Places[0].Wants, bare.Places[1].Wants, bare.Grants = nil, []impl.MateWant{}, []impl.MateGrant{}
	full := fullLand(2)
	full.Places = placesOf(impl.MateMaxBerths)
	full.Places[0].Wants = append([]impl.MateWant{holdWant()}, wantsOf(impl.MateMaxWants)[3:]...)
	return []impl.MateLand{{}, {Grants: []impl.MateGrant{}, Places: []impl.MatePlace{}}, busyLand(), askLand(), fullLand(0), fullLand(1), full, last, wrong, bare}
}

// callsOfLand are the functions of chapter 6 with all sorts of other arguments;
// each gives what it answered.
func callsOfLand() map[string]func(l impl.MateLand) []any {
	calls := map[string]func(l impl.MateLand) []any{
		"ok": func(l impl.MateLand) []any { impl.MateLandOk(l); return nil },
		"tick": func(l impl.MateLand) []any {
			next, sent := impl.MateLandTick(l)
			return []any{next, sent}
		},
	}
	for _, berth := range []string{"", "a", "b", "c"} {
		for i, wants := range [][]impl.MateWant{nil, wantsOf(2), {holdWant()}, {{}}} {
			calls[fmt.Sprint("put ", berth, i)] = func(l impl.MateLand) []any {
				next, _ := impl.MatePut(l, berth, wants)
				return []any{next}
			}
		}
	}
	for kind := -1; kind <= 7; kind++ {
		for _, at := range []int{-1, 39, 40} {
			calls[fmt.Sprint("take ", kind, at)] = func(l impl.MateLand) []any {
				next, sent := impl.MateLandTake(l, impl.MateParcel{Kind: kind, Berth: "a", Hold: "h", Copy: "c", At: at})
				return []any{next, sent}
			}
		}
	}
	return calls
}

func TestBooksAreLeftAlone(t *testing.T) {
	leftAlone(t, memoryLands(), callsOfLand(), roomyLand, wholeLand)
}

// The lists of a book that is handed in may share memory; those of the answer do not.
func TestListsOfABookAreApart(t *testing.T) {
	wants := wantsOf(6)
	l := impl.MateLand{Places: placesOf(3)}
	l.Places[0].Wants, l.Places[1].Wants, l.Places[2].Wants = wants[:2], wants[2:3], wants[3:3]
	for name, call := range callsOfLand() {
		if !apart(spansOf(call(l)...), spansOf(l)) {
			t.Errorf("%s shares memory", name)
		}
	}
}

func TestWantsThatArePutAreNotWrittenInto(t *testing.T) {
	for _, l := range memoryLands() {
		for _, list := range [][]impl.MateWant{nil, {}, wantsOf(1), wantsOf(impl.MateMaxWants), {holdWant()}, {{}}} {
			for _, berth := range []string{"", "a", "b", "c"} {
				wants := withRoom(list, impl.MateWant{Copy: "behind", Version: 1})
				before := slices.Clone(wants[:cap(wants)])
				got, _ := impl.MatePut(l, berth, wants)
				if !slices.Equal(wants[:cap(wants)], before) {
					t.Errorf("put at %q writes into %+v", berth, before)
				}
				if !apart(spansOf(got), spansOf(l, wants)) {
					t.Errorf("put of %+v at %q shares memory", list, berth)
				}
			}
		}
	}
	l := busyLand()
	got, code := impl.MatePut(l, "a", l.Places[0].Wants)
	if code != 0 || !apart(spansOf(got), spansOf(l)) {
		t.Errorf("put of a place's own wants: code %d, or it shares memory", code)
	}
}

func TestParcelsForABookAreNotWrittenInto(t *testing.T) {
	for _, l := range memoryLands() {
		for kind := -1; kind <= 7; kind++ {
			p := roomyParcel(impl.MateParcel{Kind: kind, Berth: "a", Seen: 3, Wants: wantsOf(3), Hold: "h", Copy: "c", At: 46})
			before := wholeParcel(p)
			got, sent := impl.MateLandTake(l, p)
			if after := wholeParcel(p); after != before {
				t.Errorf("kind %d writes into %s: %s", kind, before, after)
			}
			if !apart(spansOf(got, sent), spansOf(l, p)) {
				t.Errorf("kind %d shares memory with its parcel", kind)
			}
		}
	}
}

func TestParcelsThatAreFormedAreNotWrittenInto(t *testing.T) {
	for _, p := range append(mailParcels(), told(7, nil), told(9, wantsOf(impl.MateMaxWants)), impl.MateParcel{}) {
		for kind := -1; kind <= 7; kind++ {
			p := roomyParcel(p)
			p.Kind = kind
			before := wholeParcel(p)
			impl.MateForm(p)
			if after := wholeParcel(p); after != before {
				t.Errorf("written into %s: %s", before, after)
			}
		}
	}
}

// Two readings of one text give lists of their own.
func TestWhatIsReadIsNewMemory(t *testing.T) {
	text := impl.MateForm(told(9, wantsOf(impl.MateMaxWants)))
	a, _ := impl.MateRead(text)
	b, _ := impl.MateRead(text)
	if len(a.Wants) == 0 || !apart(spansOf(a, b), nil) {
		t.Error("two readings share memory")
	}
}
