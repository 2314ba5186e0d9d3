package impl

// MateWatchdog kills what has no lease for long enough.
func MateWatchdog(list []MateRun, clock int) []MateRun {
	out := make([]MateRun, len(list))
	for i, r := range list {
		out[i] = runOf(r).watched(clock).told()
	}
	return out
}

func (r run) watched(clock int) run {
	if r.state.alive() && !r.mayLive(clock) {
		return r.waiting()
	}
	return r
}

func (r run) waiting() run {
	r.state = MateWaiting
	r.left = 0
	return r
}

// MateLive is a tick of a run.
func MateLive(r MateRun, w MateWant, wanted bool, clock int) (MateRun, bool) {
	l := life{run: runOf(r), clock: clock}
	for step := l.firstStep(wanted && w == r.Want); step != nil; {
		step = step(&l)
	}
	if l.gone {
		return MateRun{}, false
	}
	return l.told(), true
}

// life is a run while its tick lasts.
type life struct {
	run
	clock int
	gone  bool
}

// lifeStep does what a state does at a tick, and tells what comes next within
// this tick: nil if nothing does.
type lifeStep func(l *life) lifeStep

// lifeSteps are the steps of the states, each at the place of its State; at
// place 0 stands that of every other State.
func lifeSteps() [MateStopping + 1]lifeStep {
	return [MateStopping + 1]lifeStep{
		0:            stay,
		MatePulling:  beginInTime,
		MateWaiting:  begin,
		MateStarting: getReady,
		MateReady:    dieInTime,
		MateBackoff:  beginInTime,
		MateStopping: endInTime,
	}
}

// firstStep tells how the tick starts. What is being stopped goes on so even
// where it is wanted again: it must be seen to its end before it starts anew.
func (l *life) firstStep(wanted bool) lifeStep {
	if wanted || l.state == MateStopping {
		return l.ownStep()
	}
	if l.state.alive() {
		return stop
	}
	return end
}

func (l *life) ownStep() lifeStep {
	steps := lifeSteps()
	if l.state.known() {
		return steps[l.state]
	}
	return steps[0]
}

// countDown lets a tick of what is left go by; then is next when none is left.
func (l *life) countDown(then lifeStep) lifeStep {
	if l.left > 1 {
		l.left--
		return nil
	}
	return then
}

func stay(l *life) lifeStep {
	return l.countDown(nil)
}

func beginInTime(l *life) lifeStep {
	return l.countDown(begin)
}

func begin(l *life) lifeStep {
	if !l.mayLive(l.clock) {
		l.run = l.waiting()
		return nil
	}
	l.state = MateStarting
	l.left = l.Start
	return nil
}

func getReady(l *life) lifeStep {
	return l.countDown(beReady)
}

func beReady(l *life) lifeStep {
	l.state = MateReady
	l.left = l.Dies
	return nil
}

func dieInTime(l *life) lifeStep {
	if l.left == 1 {
		return die
	}
	return l.countDown(nil)
}

func die(l *life) lifeStep {
	if l.falls < MateMaxFalls {
		l.falls++
	}
	l.state = MateBackoff
	l.left = backoffOf(l.falls)
	return nil
}

// backoffOf is how long a copy waits that has died so often. It doubles only
// up to the bound, as the power itself may be greater than any number.
func backoffOf(falls int) int {
	ticks := 1
	for n := 0; n < falls && ticks < MateMaxBackoff; n++ {
		ticks *= 2
	}
	return min(ticks, MateMaxBackoff)
}

func stop(l *life) lifeStep {
	l.state = MateStopping
	l.left = l.Grace
	return nil
}

func endInTime(l *life) lifeStep {
	return l.countDown(end)
}

func end(l *life) lifeStep {
	l.gone = true
	return nil
}
