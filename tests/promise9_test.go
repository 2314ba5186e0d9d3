package tests

import (
	"slices"
	"testing"

	"loop.example/wharfmate/impl"
)

// sameLand is same of books, for where many are held against each other.
func sameLand(a, b impl.MateLand) bool {
	return a.Time == b.Time && slices.Equal(a.Grants, b.Grants) && slices.EqualFunc(a.Places, b.Places, func(p, q impl.MatePlace) bool {
		return p.Berth == q.Berth && p.Seen == q.Seen && slices.Equal(p.Wants, q.Wants)
	})
}

// keepsPromise9 sees that a parcel that is brought twice leaves the book as when
// it was brought once; and that the book stays ok and its answers have forms.
func keepsPromise9(t *testing.T, l impl.MateLand, p impl.MateParcel) impl.MateLand {
	t.Helper()
	if !impl.MateLandOk(l) {
		t.Fatalf("not ok: %+v", l)
	}
	once, first := impl.MateLandTake(l, p)
	twice, second := impl.MateLandTake(once, p)
	if !sameLand(once, twice) {
		t.Errorf("%+v leads from\n%+v to\n%+v, and then to\n%+v", p, l, once, twice)
	}
	if !impl.MateLandOk(once) {
		t.Errorf("%+v leads from %+v to %+v, which is not ok", p, l, once)
	}
	haveForms(t, first)
	haveForms(t, second)
	return once
}

// booksOfPromise9 are books with and without a grant of h, of all sorts.
func booksOfPromise9() []impl.MateLand {
	list := []impl.MateLand{{}, {Time: 50}, busyLand(), askLand(), fullLand(0), fullLand(1), fullLand(40)}
	for _, berth := range []string{"a", "b"} {
		for _, copy := range []string{"c", "d"} {
			for _, at := range []int{39, 40, 41} {
				for _, until := range []int{0, 48, 50, 51, 52, 82} {
					g := impl.MateGrant{Hold: "h", Berth: berth, Copy: copy, At: at, Until: until}
					list = append(list, askLand(g))
					if full := fullLand(1); until == 50 || until == 51 {
						full.Grants = full.Grants[1:]
						list = append(list, granted(full, g))
					}
				}
			}
		}
	}
	return list
}

// parcelsOfPromise9 are parcels of each Kind for these books.
func parcelsOfPromise9() []impl.MateParcel {
	var list []impl.MateParcel
	for kind := -1; kind <= 7; kind++ {
		for _, berth := range []string{"a", "b"} {
			for _, copy := range []string{"c", "d"} {
				for _, at := range []int{0, 40, impl.MateMaxClock} {
					p := impl.MateParcel{Kind: kind, Berth: berth, Hold: "h", Copy: copy, At: at}
					q := p
					q.Hold = "i03"
					list = append(list, p, q)
				}
			}
		}
	}
	return list
}

func TestPromise9ParcelsBroughtTwice(t *testing.T) {
	changes := map[int]int{}
	for _, l := range booksOfPromise9() {
		for _, p := range parcelsOfPromise9() {
			if once := keepsPromise9(t, l, p); !sameLand(once, l) {
				changes[p.Kind]++
			}
		}
	}
	if changes[impl.MateAsked] == 0 || changes[impl.MateBack] == 0 || len(changes) != 2 {
		t.Errorf("how many of each Kind change a book: %v", changes)
	}
}

func TestPromise9WrongParcels(t *testing.T) {
	for _, l := range booksOfPromise9() {
		for _, kind := range []int{0, impl.MateAsked, impl.MateBack} {
			for _, p := range wrongParcels(kind) {
				if once := keepsPromise9(t, l, p); !sameLand(once, l) {
					t.Errorf("%+v leads from\n%+v to\n%+v", p, l, once)
				}
			}
		}
	}
}
