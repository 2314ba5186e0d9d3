package impl

// Limits of runs.
const (
	MateMaxFalls   = 1000
	MateMaxBackoff = 16
	MateMaxClock   = 1000000
	MateLease      = 16
	MateRenew      = 6
)

// States of runs.
const (
	MatePulling  = 1
	MateWaiting  = 2
	MateStarting = 3
	MateReady    = 4
	MateBackoff  = 5
	MateStopping = 6
)

// clockStep is the most by which a berth's clock goes on from tick to tick. A
// run is next looked at that much later, so its lease must last until then.
const clockStep = 4

// MateRun is a copy that runs, or is about to.
type MateRun struct {
	Want  MateWant
	State int
	Left  int
	Falls int
	Until int
}

// MateAlive says whether a run is alive.
func MateAlive(r MateRun) bool {
	return runState(r.State).alive()
}

// MateRunsOk says whether runs are such.
func MateRunsOk(list []MateRun, clock int) bool {
	return len(list) <= 2*MateMaxWants && ascends(list, runCopy) &&
		all(list, func(r MateRun) bool { return runOf(r).ok(clock) })
}

func runCopy(r MateRun) string {
	return r.Want.Copy
}

// runState is the State of a run.
type runState int

func (s runState) known() bool {
	return within(int(s), MatePulling, MateStopping)
}

func (s runState) alive() bool {
	return s == MateStarting || s == MateReady || s == MateStopping
}

// run is a MateRun as the program works on it.
type run struct {
	MateWant
	state runState
	left  int
	falls int
	until int
}

func runOf(r MateRun) run {
	return run{MateWant: r.Want, state: runState(r.State), left: r.Left, falls: r.Falls, until: r.Until}
}

func (r run) told() MateRun {
	return MateRun{Want: r.MateWant, State: int(r.state), Left: r.left, Falls: r.falls, Until: r.until}
}

// mayLive says whether nothing that the run holds can be another's before the next tick.
func (r run) mayLive(clock int) bool {
	return r.Hold == "" || r.until >= clock+clockStep
}

func (r run) ok(clock int) bool {
	return wantOk(r.MateWant) && r.state.known() && r.leftOk() && within(r.falls, 0, MateMaxFalls) &&
		r.untilOk() && (!r.state.alive() || r.mayLive(clock))
}

func (r run) leftOk() bool {
	if r.state == MateWaiting {
		return r.left == 0
	}
	return within(r.left, 0, MateMaxTicks)
}

func (r run) untilOk() bool {
	if r.Hold == "" {
		return r.until == 0
	}
	return within(r.until, 0, MateMaxClock+MateLease)
}
