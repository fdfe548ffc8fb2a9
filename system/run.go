package system

import "crossgrain/api"

// Run: a thread goes on, so many steps at the most: how many were done.
func (s *System) Run(t, n int) (int, api.Errno) {
	if !s.has(t) || n < 0 {
		return 0, api.ErrArg
	}
	s.wake(t)
	x := &s.threads[t]
	done := 0
	for on := true; on && done < n && x.Mode == api.Ready; {
		state, stop, more := s.e.Run(x.State, n-done)
		x.State = state
		done += more
		on = s.meet(t, stop)
	}
	return done, api.OK
}

// wake: a thread that waits for one that is at its end.
func (s *System) wake(t int) {
	x := &s.threads[t]
	if x.Mode != api.Waiting {
		return
	}
	switch other := &s.threads[x.Waits]; other.Mode {
	case api.Ended:
		goOn(x, other.Code)
	case api.Dead:
		goOn(x, refused)
	}
}

// goOn: a thread waits no longer; that is the answer of its join.
func goOn(x *api.Thread, answer uint32) {
	x.Mode, x.Waits, x.State.R[0] = api.Ready, 0, answer
}

// meet: what comes of a stop, or of none: may the thread go on at once?
func (s *System) meet(t int, stop api.Stop) bool {
	switch stop.Kind {
	case api.Going:
		return true
	case api.StopSys:
		s.call(t, stop.Arg)
		return stop.Arg != callYield
	}
	halt(&s.threads[t], stop)
	return true
}

// halt: a thread that stopped goes on in its handler, or is dead. It cannot go
// round without steps: in the handler the next stop is its end.
func halt(x *api.Thread, stop api.Stop) {
	if x.Handler == 0 || x.In {
		x.Mode, x.Stop = api.Dead, stop
		return
	}
	x.Saved, x.In = x.State, true
	x.State.R[1], x.State.R[2], x.State.R[3] = uint32(stop.Kind), stop.Arg, x.State.PC
	x.State.PC = x.Handler
}
