package judge

import (
	"brazier/api"
	"brazier/heap"
	"brazier/step"
)

// How a thread's run has come out.
const (
	ended   = 1
	trapped = 2
	left    = 3
)

const mostIdle = 1 << 16 // steps in a row that take no event

// runner runs a thread alone: what others do it takes from its events.
type runner struct {
	*replay
	thread *step.Thread
	row    []int // the places of its events
	taken  int   // how many of them
	out    bool  // one was asked for when all were taken
	wrong  api.Errno
	fate   int
	status api.Status // of one that is left: method and place alone
}

func (one *runner) begin(k int) (api.Errno, int) {
	var args []heap.Value
	method, at := 0, 0
	if k > 0 {
		at = one.spawns[k]
		e := one.x.Events[at]
		if !one.mayBegin(e.Slot) {
			return api.ErrOrder, at
		}
		method, args = e.Slot, []heap.Value{{Ref: true, N: int64(e.Object)}}
	}
	t, e := step.New(one.p, k, method, args...)
	if e != api.OK {
		return api.ErrOrder, at
	}
	one.thread = t
	return api.OK, 0
}

// mayBegin tells whether spawn may name a method.
func (one *runner) mayBegin(method int) bool {
	if method < 0 || method >= len(one.p.Methods) {
		return false
	}
	m := one.p.Methods[method]
	return len(m.Params) == 1 && m.Params[0] == api.TRef && m.Ret == api.TVoid
}

func (one *runner) run() (api.Errno, int) {
	idle := 0
	for one.fate == 0 {
		before := one.taken
		one.step()
		if one.wrong != api.OK {
			return one.wrong, one.row[one.taken-1]
		}
		idle++
		if one.taken > before {
			idle = 0
		}
		if one.fate == 0 && idle > mostIdle {
			one.fate, one.status = left, one.place()
		}
	}
	if one.taken < len(one.row) {
		return api.ErrOrder, one.row[one.taken]
	}
	return api.OK, 0
}

func (one *runner) place() api.Status {
	f := one.thread.Frames[len(one.thread.Frames)-1]
	return api.Status{Method: f.Method, Code: f.Place}
}

func (one *runner) step() {
	at := one.place()
	how, s := one.thread.Step(one.p, one, one.c.Depth)
	switch {
	case one.out:
		one.fate, one.status = left, at
	case how == step.Trap:
		one.fate, one.status = trapped, s
	case how == step.Ended:
		one.fate = ended
	}
}

// take takes the next event, which must be of that kind, and such as is asked for.
func (one *runner) take(kind int, is func(e api.Event) bool) (api.Event, bool) {
	if one.taken == len(one.row) {
		one.out = true
		return api.Event{}, false
	}
	e := one.x.Events[one.row[one.taken]]
	one.taken++
	if e.Kind != kind || !is(e) {
		one.wrong = api.ErrOrder
		return api.Event{}, false
	}
	return e, true
}

func (one *runner) expect(holds bool) {
	if !holds {
		one.wrong = api.ErrValue
	}
}

func (one *runner) Kind(o int) (int, bool) {
	at, ok := one.objects[o]
	if !ok {
		return 0, false
	}
	return one.x.Events[at].Slot, true
}

func (one *runner) Len(o int) int {
	at, ok := one.objects[o]
	if !ok {
		return 0
	}
	return int(one.x.Events[at].Value)
}

func (one *runner) Get(_, o, slot int, _ bool) heap.Value {
	e, _ := one.take(api.EReadField, func(e api.Event) bool { return e.Object == o && e.Slot == slot })
	return heap.Value{Ref: e.Ref, N: e.Value}
}

func (one *runner) Put(_, o, slot int, _ bool, v heap.Value) {
	if e, ok := one.take(api.EWriteField, func(e api.Event) bool { return e.Object == o && e.Slot == slot }); ok {
		one.expect(e.Value == v.N && e.Ref == v.Ref)
	}
}

func (one *runner) made(kind int, size int64) (int, bool) {
	e, ok := one.take(api.ENew, func(e api.Event) bool { return e.Slot == kind && e.Value == size })
	return e.Object, ok
}

func (one *runner) Object(_, class int, fields []api.Field) (int, bool) {
	return one.made(class, int64(len(fields)))
}

func (one *runner) Array(_, t int, n int64) (int, bool) {
	if t == api.TRef {
		return one.made(-2, n)
	}
	return one.made(-1, n)
}

func (one *runner) Enter(_, o int) bool {
	_, ok := one.take(api.EEnter, func(e api.Event) bool { return e.Object == o })
	return ok
}

func (one *runner) Exit(_, o int) bool {
	_, ok := one.take(api.EExit, func(e api.Event) bool { return e.Object == o })
	return ok
}

func (one *runner) Spawn(_, method, o int) (int, bool) {
	e, ok := one.take(api.ESpawn, func(e api.Event) bool { return e.Slot == method && e.Object == o })
	return int(e.Value), ok
}

func (one *runner) Join(_ int, id int64) (done, ok bool) {
	_, ok = one.take(api.EJoin, func(e api.Event) bool { return e.Value == id })
	return ok, ok
}

func (one *runner) Print(_ int, v int64) {
	if e, ok := one.take(api.EPrint, func(api.Event) bool { return true }); ok {
		one.expect(e.Value == v)
	}
}
