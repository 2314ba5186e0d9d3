// Package impl: what runs on a berth.
package impl

// Limits of wants.
const (
	MateMaxName    = 20
	MateMaxTicks   = 100
	MateMaxWants   = 10
	MateMaxVersion = 1000000
)

// noHold is how a text says that nothing is held, so no hold may be called so.
const noHold = "*"

// MateWant is a copy that is wanted on a berth.
type MateWant struct {
	Copy    string
	Version int
	Hold    string
	Pull    int
	Start   int
	Dies    int
	Grace   int
}

// MateWantsOk says whether wants are such.
func MateWantsOk(list []MateWant) bool {
	// The number comes first: it bounds the work of the others.
	return passes(list, []func([]MateWant) bool{fewWants, eachWantOk, wantsAscend, holdsDiffer})
}

// passes says whether x stands up to each of the checks.
func passes[T any](x T, checks []func(T) bool) bool {
	for _, check := range checks {
		if !check(x) {
			return false
		}
	}
	return true
}

func fewWants(list []MateWant) bool {
	return len(list) <= MateMaxWants
}

func eachWantOk(list []MateWant) bool {
	return all(list, wantOk)
}

func wantsAscend(list []MateWant) bool {
	return ascends(list, wantCopy)
}

func wantCopy(w MateWant) string {
	return w.Copy
}

// all says whether each of a list is ok.
func all[T any](list []T, ok func(T) bool) bool {
	for _, x := range list {
		if !ok(x) {
			return false
		}
	}
	return true
}

// ascends says whether a list does so by the names of what stands in it.
func ascends[T any](list []T, name func(T) string) bool {
	for i := 1; i < len(list); i++ {
		if name(list[i-1]) >= name(list[i]) {
			return false
		}
	}
	return true
}

// holdsDiffer says whether no thing is to be held by two.
func holdsDiffer(list []MateWant) bool {
	for i, w := range list {
		for _, v := range list[:i] {
			if w.Hold != "" && v.Hold == w.Hold {
				return false
			}
		}
	}
	return true
}

// wantOk says whether a want is one that may be wanted alone.
func wantOk(w MateWant) bool {
	return passes(w, []func(MateWant) bool{copyOk, versionOk, holdOk, ticksOk})
}

func copyOk(w MateWant) bool {
	return isName(w.Copy)
}

func versionOk(w MateWant) bool {
	return within(w.Version, 1, MateMaxVersion)
}

func holdOk(w MateWant) bool {
	return w.Hold == "" || isHold(w.Hold)
}

func ticksOk(w MateWant) bool {
	for _, n := range [...]int{w.Pull, w.Start, w.Dies, w.Grace} {
		if !within(n, 0, MateMaxTicks) {
			return false
		}
	}
	return true
}

func isName(s string) bool {
	if !within(len(s), 1, MateMaxName) {
		return false
	}
	for i := range len(s) {
		if s[i] < 33 || s[i] > 126 {
			return false
		}
	}
	return true
}

func isHold(s string) bool {
	return isName(s) && s != noHold
}

func within(n, low, high int) bool {
	return low <= n && n <= high
}
