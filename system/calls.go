package system

import "crossgrain/api"

// The calls, by their numbers.
const (
	callExit = iota
	callWrite
	callSpawn
	callJoin
	callProtect
	callHandler
	callBack
	callSelf
	callYield
)

const (
	refused  = 0xffffffff // the answer of a call that cannot be done
	maxWrite = 256        // bytes that one call writes
)

// calls: what each does for a thread; its answer, which is R0 then.
func calls() map[uint32]func(s *System, t int) uint32 {
	return map[uint32]func(s *System, t int) uint32{
		callExit:    (*System).exit,
		callWrite:   (*System).write,
		callSpawn:   (*System).spawn,
		callJoin:    (*System).join,
		callProtect: (*System).protect,
		callHandler: (*System).handler,
		callBack:    (*System).back,
		callSelf:    (*System).self,
		callYield:   (*System).yield,
	}
}

// call: R0 is laid last, for a call may have made all registers others.
func (s *System) call(t int, which uint32) {
	answer := uint32(refused)
	if do, ok := calls()[which]; ok {
		answer = do(s, t)
	}
	s.threads[t].State.R[0] = answer
}

func (s *System) exit(t int) uint32 {
	x := &s.threads[t]
	x.Mode, x.Code = api.Ended, x.State.R[1]
	return x.State.R[0]
}

// write: all of the bytes or none, so they are loaded ahead of the first that is written.
func (s *System) write(t int) uint32 {
	from, n := s.threads[t].State.R[1], s.threads[t].State.R[2]
	if n > maxWrite || int(n) > s.limit-len(s.out) {
		return refused
	}
	b := make([]byte, n)
	for i := range n {
		v, stop := s.m.Load(from+i, 1)
		if stop.Kind != api.Going {
			return refused
		}
		b[i] = byte(v)
	}
	s.out = append(s.out, b...)
	return n
}

func (s *System) spawn(t int) uint32 {
	r := s.threads[t].State.R
	k, err := s.Start(r[1], r[2], r[3])
	if err != api.OK {
		return refused
	}
	return uint32(k)
}

func (s *System) join(t int) uint32 {
	x := &s.threads[t]
	other := x.State.R[1]
	if other >= uint32(s.count) || other == uint32(t) {
		return refused
	}
	x.Mode, x.Waits = api.Waiting, int(other)
	s.wake(t)
	return x.State.R[0]
}

func (s *System) protect(t int) uint32 {
	r := s.threads[t].State.R
	if s.m.Protect(int(r[1]), int(r[2])) != api.OK {
		return refused
	}
	return 0
}

func (s *System) handler(t int) uint32 {
	x := &s.threads[t]
	was := x.Handler
	x.Handler = x.State.R[1]
	return was
}

func (s *System) back(t int) uint32 {
	x := &s.threads[t]
	if !x.In {
		return refused
	}
	to, answer := x.State.R[1], x.State.R[2]
	x.State, x.Saved, x.In = x.Saved, api.State{}, false
	x.State.PC = to
	return answer
}

func (s *System) self(t int) uint32 { return uint32(t) }

func (s *System) yield(t int) uint32 { return 0 }
