package tests

import (
	"fmt"
	"reflect"
	"slices"
	"testing"

	"loop.example/wharfmate/impl"
)

// span is the memory of a list, its spare room included.
type span struct{ from, to uintptr }

// spansOf are the spans of all lists in the values, of lists in lists, too.
func spansOf(values ...any) []span {
	var list []span
	for _, v := range values {
		addSpans(reflect.ValueOf(v), &list)
	}
	return list
}

func addSpans(v reflect.Value, list *[]span) {
	switch v.Kind() {
	case reflect.Struct:
		for i := range v.NumField() {
			addSpans(v.Field(i), list)
		}
	case reflect.Slice:
		if v.Cap() > 0 {
			from := v.Pointer()
			*list = append(*list, span{from, from + uintptr(v.Cap())*v.Type().Elem().Size()})
		}
		for i := range v.Len() {
			addSpans(v.Index(i), list)
		}
	}
}

// apart says whether no span of a list shares memory with another one of it,
// or with one of the others.
func apart(list, others []span) bool {
	for i, s := range list {
		for _, o := range slices.Concat(list[:i], others) {
			if s.from < o.to && o.from < s.to {
				return false
			}
		}
	}
	return true
}

func withRoom[T any](list []T, behind T) []T {
	return append(slices.Clip(slices.Clone(list)), behind, behind, behind)[:len(list)]
}

// roomyMate is the mate with something behind the end of each of its lists.
func roomyMate(m impl.Mate) impl.Mate {
	ask := impl.MateAsk{Hold: "behind", Copy: "behind", First: 1, At: 1}
	m.Wants = withRoom(m.Wants, impl.MateWant{Copy: "behind", Version: 1})
	m.Runs = withRoom(m.Runs, impl.MateRun{Want: holdWant(), State: impl.MateReady, Left: 8})
	m.Asks = withRoom(m.Asks, ask)
	m.Gives = withRoom(m.Gives, ask)
	return m
}

func roomyParcel(p impl.MateParcel) impl.MateParcel {
	p.Wants = withRoom(p.Wants, impl.MateWant{Copy: "behind", Version: 1})
	return p
}

// wholeMate tells a mate with all that lies behind the ends of its lists.
func wholeMate(m impl.Mate) string {
	return fmt.Sprintf("%+v", []any{m, m.Wants[:cap(m.Wants)], m.Runs[:cap(m.Runs)], m.Asks[:cap(m.Asks)], m.Gives[:cap(m.Gives)]})
}

func wholeParcel(p impl.MateParcel) string {
	return fmt.Sprintf("%+v", []any{p, p.Wants[:cap(p.Wants)]})
}

// memoryMates are mates of every kind: valid or not, up or down, at the end of
// their clock, with lists that are empty or full.
func memoryMates() []impl.Mate {
	list := []impl.Mate{{}, quietMate(), busyMate(), downMate(), deafMate()}
	full := busyMate()
	full.Asks, full.Gives = asksOf(impl.MateMaxHolds, "i"), asksOf(impl.MateMaxHolds, "j")
	last := downMate()
	last.Clock = impl.MateMaxClock
	last.Runs = last.Runs[1:3]
	wrong := busyMate()
	wrong.Clock = -1
	empty := quietMate()
	empty.Wants, empty.Runs, empty.Asks, empty.Gives = []impl.MateWant{}, []impl.MateRun{}, []impl.MateAsk{}, []impl.MateAsk{}
	return append(list, full, last, wrong, empty)
}

// callsOfMate are the functions of chapters 4 and 5 with all sorts of other
// arguments; each gives what it answered.
func callsOfMate() map[string]func(m impl.Mate) []any {
	calls := map[string]func(m impl.Mate) []any{
		"valid":   func(m impl.Mate) []any { impl.MateValid(m); return nil },
		"fall":    func(m impl.Mate) []any { return []any{impl.MateFall(m, false)} },
		"machine": func(m impl.Mate) []any { return []any{impl.MateFall(m, true)} },
		"rise":    func(m impl.Mate) []any { return []any{impl.MateRise(m)} },
	}
	for rate := -1; rate <= 5; rate++ {
		calls[fmt.Sprint("tick ", rate)] = func(m impl.Mate) []any {
			next, sent := impl.MateTick(m, rate)
			return []any{next, sent}
		}
	}
	for kind := -1; kind <= 7; kind++ {
		calls[fmt.Sprint("take ", kind)] = func(m impl.Mate) []any {
			return []any{impl.MateTake(m, impl.MateParcel{Kind: kind, Berth: "a", Hold: "h", Copy: "c", At: 46})}
		}
	}
	return calls
}

// leftAlone sees that calls write into no value, nor behind the ends of its
// lists, and that what they answer is new memory.
func leftAlone[T any](t *testing.T, values []T, calls map[string]func(v T) []any, roomy func(v T) T, whole func(v T) string) {
	t.Helper()
	for _, v := range values {
		for name, call := range calls {
			for _, v := range []T{v, roomy(v)} {
				before := whole(v)
				answers := call(v)
				if after := whole(v); after != before {
					t.Errorf("%s writes into %s: %s", name, before, after)
				}
				if !apart(spansOf(answers...), spansOf(v)) {
					t.Errorf("%s of %s shares memory", name, before)
				}
			}
		}
	}
}

func TestMatesAreLeftAlone(t *testing.T) {
	leftAlone(t, memoryMates(), callsOfMate(), roomyMate, wholeMate)
}

// The lists of a mate that is handed in may share memory; those of the answer do not.
func TestListsOfAnAnswerAreApart(t *testing.T) {
	m := busyMate()
	both := append(slices.Clone(m.Asks[:1]), m.Gives[1])
	m.Asks, m.Gives = both[:1], both[1:]
	p := impl.MateParcel{Kind: impl.MateTold, Berth: "a", Seen: 9, Wants: m.Wants}
	calls := callsOfMate()
	calls["take its own wants"] = func(m impl.Mate) []any { return []any{impl.MateTake(m, p)} }
	for name, call := range calls {
		if !apart(spansOf(call(m)...), spansOf(m, p)) {
			t.Errorf("%s shares memory", name)
		}
	}
}

func TestParcelsAreNotWrittenInto(t *testing.T) {
	for _, m := range memoryMates() {
		for kind := -1; kind <= 7; kind++ {
			for _, seen := range []int{0, 7, 8} {
				p := roomyParcel(impl.MateParcel{Kind: kind, Berth: "a", Seen: seen, Wants: wantsOf(5), Hold: "h", Copy: "c", At: 46})
				before := wholeParcel(p)
				got := impl.MateTake(m, p)
				if after := wholeParcel(p); after != before {
					t.Errorf("kind %d writes into %s: %s", kind, before, after)
				}
				if !apart(spansOf(got), spansOf(m, p)) {
					t.Errorf("kind %d shares memory with its parcel", kind)
				}
			}
		}
	}
}
