package tests

import (
	"fmt"
	"testing"

	"loop.example/wharfmate/impl"
)

// dice give numbers that hang on where they start alone, so that a walk that
// fails can be gone again.
type dice uint64

func (d *dice) Intn(n int) int {
	*d = *d*6364136223846793005 + 1442695040888963407
	return int(uint64(*d)>>33) % n
}

// walk leads a mate on by ticks, parcels, falls and rises of all sorts.
type walk struct {
	dice
	seen int
	sent []impl.MateParcel
}

func (w *walk) name(front string, n int) string {
	return fmt.Sprint(front, w.Intn(n))
}

// wants gives wants that are nearly always ok, of a few copies and holds that
// come again and again.
func (w *walk) wants() []impl.MateWant {
	var list []impl.MateWant
	turn := w.Intn(8)
	for i := range 8 {
		want := impl.MateWant{Copy: fmt.Sprint("c", i), Version: 1 + w.Intn(2), Pull: w.Intn(3), Start: w.Intn(3), Dies: w.Intn(3) * 4, Grace: w.Intn(5)}
		if w.Intn(3) > 0 {
			want.Hold = fmt.Sprint("h", (i+turn)%8)
		}
		if w.Intn(2) > 0 {
			list = append(list, want)
		}
	}
	if len(list) > 0 && w.Intn(20) == 0 {
		list[0].Version = 0
	}
	return list
}

// parcel gives one to be brought: often an answer to what was sent.
func (w *walk) parcel() impl.MateParcel {
	p := impl.MateParcel{Kind: w.Intn(8), Berth: "a", Seen: w.Intn(9), Hold: w.name("h", 8), Copy: w.name("c", 8), At: w.Intn(60)}
	if len(w.sent) > 0 {
		p = w.sent[w.Intn(len(w.sent))]
		p.Kind++ // MateGiven behind MateAsked, MateGotBack behind MateBack
	}
	if w.Intn(4) == 0 {
		w.seen++
		p = impl.MateParcel{Kind: impl.MateTold, Berth: "a", Seen: w.seen, Wants: w.wants()}
	}
	if w.Intn(20) == 0 {
		p.Berth = "b"
	}
	return p
}

func (w *walk) step(m impl.Mate) (impl.Mate, string) {
	switch n := w.Intn(40); {
	case n == 0:
		machine := w.Intn(2) == 0
		return impl.MateFall(m, machine), fmt.Sprint("a fall, machine ", machine)
	case n <= 4:
		return impl.MateRise(m), "a rise"
	case n <= 20:
		rate := 1 + w.Intn(4)
		next, sent := impl.MateTick(m, rate)
		w.sent = append(w.sent, sent...)
		w.sent = w.sent[max(0, len(w.sent)-30):]
		return next, fmt.Sprint("a tick of ", rate)
	}
	p := w.parcel()
	return impl.MateTake(m, p), fmt.Sprintf("%+v", p)
}

func startsOfWalks() []impl.Mate {
	full := busyMate()
	full.Asks, full.Gives = asksOf(impl.MateMaxHolds-2, "i"), asksOf(impl.MateMaxHolds-2, "j")
	full.Runs = runsOf(2 * impl.MateMaxWants)
	return []impl.Mate{{Name: "a", Up: true}, busyMate(), downMate(), full, {Name: "a", Up: true, Clock: impl.MateMaxClock - 300}}
}

// Promise 2, of mates: what is valid stays so. Promises 3 and 8 hold all along.
func TestPromise2MatesStayValid(t *testing.T) {
	lived, asked, gave := 0, 0, 0
	for i, m := range startsOfWalks() {
		for seed := range 20 {
			m := m
			w := &walk{dice: dice(100*i + seed), seen: m.Seen}
			for n := range 400 {
				next, by := w.step(m)
				if !impl.MateValid(next) || next.Name != "a" {
					t.Fatalf("walk %d/%d, step %d: %s leads from\n%+v to\n%+v", i, seed, n, by, m, next)
				}
				m = next
				if n%7 == 0 {
					leasedBehindATick(t, m, 1+n%4)
					keepsPromise8(t, m)
				}
				asked, gave = asked+len(m.Asks), gave+len(m.Gives)
				for _, r := range living(m) {
					if r.Want.Hold != "" {
						lived++
					}
				}
			}
		}
	}
	if lived == 0 || asked == 0 || gave == 0 {
		t.Errorf("the walks come to too little: %d %d %d", lived, asked, gave)
	}
}
