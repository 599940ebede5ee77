package judge

import (
	"brazier/api"
	"brazier/bytecode"
	"brazier/sem2"
	"slices"
)

// replay is a claim whose threads are run again, each alone.
type replay struct {
	p       api.Program
	c       sem2.Config
	x       Claim
	rows    [api.MaxCores][]int // the places of each thread's events
	spawns  [api.MaxCores]int   // the place of the event that names a thread; unnamed without one
	objects map[int]int         // the place of each object's ENew
	runners []*runner
}

const unnamed = -1

// Replays tells whether each thread does what its events say, and the first place at which one does not.
func Replays(p api.Program, c sem2.Config, x Claim) (api.Errno, int) {
	if _, e := sem2.New(p, c); e != api.OK {
		return api.ErrArg, 0
	}
	if slices.ContainsFunc(x.Events, func(e api.Event) bool { return e.Thread < 0 || e.Thread >= c.Threads }) {
		return api.ErrArg, 0
	}
	r := &replay{p: p, c: c, x: x, objects: map[int]int{}}
	for _, pass := range [...]func(*replay) (api.Errno, int){(*replay).name, (*replay).run, (*replay).end} {
		if e, at := pass(r); e != api.OK {
			return e, at
		}
	}
	return api.OK, 0
}

// name finds what the events name: threads, objects.
func (r *replay) name() (api.Errno, int) {
	named := r.namedThreads()
	for k := range r.spawns {
		r.spawns[k] = unnamed
	}
	for at, e := range r.x.Events {
		if !named[e.Thread] {
			return api.ErrOrder, at
		}
		switch e.Kind {
		case api.ESpawn:
			if e.Value < 1 || e.Value >= int64(r.c.Threads) || r.spawns[e.Value] != unnamed {
				return api.ErrOrder, at
			}
			r.spawns[e.Value] = at
		case api.ENew:
			if _, ok := r.objects[e.Object]; ok || e.Object < 1 {
				return api.ErrOrder, at
			}
			r.objects[e.Object] = at
		}
		r.rows[e.Thread] = append(r.rows[e.Thread], at)
	}
	return api.OK, 0
}

// namedThreads tells which threads there are: an event may stand ahead of that which names its thread.
func (r *replay) namedThreads() [api.MaxCores]bool {
	named := [api.MaxCores]bool{0: true}
	for _, e := range r.x.Events {
		if e.Kind == api.ESpawn && 0 <= e.Value && e.Value < api.MaxCores {
			named[e.Value] = true
		}
	}
	return named
}

// run runs each thread.
func (r *replay) run() (api.Errno, int) {
	for k := range r.c.Threads {
		if k > 0 && r.spawns[k] == unnamed {
			continue
		}
		one := &runner{replay: r, row: r.rows[k]}
		if e, at := one.begin(k); e != api.OK {
			return e, at
		}
		if e, at := one.run(); e != api.OK {
			return e, at
		}
		r.runners = append(r.runners, one)
	}
	return api.OK, 0
}

// end holds how the threads have ended against what is claimed.
func (r *replay) end() (api.Errno, int) {
	last := len(r.x.Events)
	switch r.x.Status.Kind {
	case api.SRuns:
	case api.SDone:
		if slices.ContainsFunc(r.runners, func(one *runner) bool { return one.fate != ended }) {
			return api.ErrOrder, last
		}
	case api.STrap:
		if !slices.ContainsFunc(r.runners, func(one *runner) bool { return one.mayTrap(r.x.Status) }) {
			return api.ErrOrder, last
		}
	default:
		return api.ErrArg, last
	}
	return r.prints(), last
}

// prints tells whether what is printed is what is claimed.
func (r *replay) prints() api.Errno {
	var l []api.Event
	for _, e := range Events(r.x) {
		if e.Kind == api.EPrint {
			l = append(l, e)
		}
	}
	for n := 1; n < len(l); n++ {
		if l[n].At == l[n-1].At {
			return api.ErrOrder
		}
	}
	if !slices.EqualFunc(l, r.x.Prints, func(e api.Event, v int64) bool { return e.Value == v }) {
		return api.ErrValue
	}
	return api.OK
}

// mayTrap tells whether a thread has trapped just so, or is left where only the others decide whether it does.
func (one *runner) mayTrap(s api.Status) bool {
	switch one.fate {
	case trapped:
		return one.status == s
	case left:
		return one.status.Method == s.Method && one.status.Code == s.Code && hangsOnOthers(s.Trap, int(one.p.Methods[s.Method].Code[s.Code]))
	}
	return false
}

func hangsOnOthers(trap, code int) bool {
	switch trap {
	case api.TMemory:
		return code == bytecode.New || code == bytecode.Newa
	case api.TMonitor:
		return code == bytecode.Exit
	case api.TThread:
		return code == bytecode.Spawn || code == bytecode.Join
	}
	return false
}
