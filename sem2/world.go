package sem2

import (
	"brazier/api"
	"brazier/bytecode"
	"brazier/code"
	"brazier/heap"
	"brazier/order"
	"brazier/step"
)

// world is what threads see of a machine; pick says which of n writes a read sees.
type world struct {
	m    *Machine
	pick func(n int) int
}

// What can happen that others see.
type (
	read struct {
		slot
		value heap.Value
		from  api.Write
	}
	written struct {
		slot
		value heap.Value
	}
	entered struct{ object int }
	exited  struct{ object int }
	spawned struct{ id, object, method int }
	joined  struct{ id int64 }
	printed struct{ value int64 }
	made    struct{ object, kind, size int }
)

// record notes what a thread has done at a clock.
func (m *Machine) record(id int, clock order.Clock, what any) {
	e := api.Event{Thread: id, At: len(m.history) + 1}
	t := &m.threads[id]
	t.clock = clock
	t.events++
	switch x := what.(type) {
	case read:
		e.Kind, e.Object, e.Slot, e.Value, e.Ref, e.From = api.EReadField, x.object, x.slot.slot, x.value.N, x.value.Ref, x.from
	case written:
		e.Kind, e.Object, e.Slot, e.Value, e.Ref, e.From = api.EWriteField, x.object, x.slot.slot, x.value.N, x.value.Ref, api.Write{Core: id, N: t.writes}
	case entered:
		e.Kind, e.Object = api.EEnter, x.object
	case exited:
		e.Kind, e.Object = api.EExit, x.object
	case spawned:
		e.Kind, e.Object, e.Slot, e.Value = api.ESpawn, x.object, x.method, int64(x.id)
	case joined:
		e.Kind, e.Value = api.EJoin, x.id
	case printed:
		e.Kind, e.Value = api.EPrint, x.value
	case made:
		e.Kind, e.Object, e.Slot, e.Value = api.ENew, x.object, x.kind, int64(x.size)
	}
	m.history = append(m.history, e)
}

// next tells the clock of a thread's next event, that joins another one first.
func (m *Machine) next(id int, other order.Clock) order.Clock {
	return order.Tick(order.Join(m.threads[id].clock, other), id)
}

func (w world) Kind(o int) (int, bool) { return w.m.heap.Kind(o) }
func (w world) Len(o int) int          { return w.m.heap.Len(o) }

func (w world) Get(id, o, at int, volatile bool) heap.Value {
	m, s := w.m, slot{o, at}
	p := m.pastOf(s)
	if volatile {
		last := p.last()
		m.record(id, m.next(id, last.clock), read{s, last.value, last.from})
		return last.value
	}
	clock := m.next(id, order.Clock{})
	seen := p.visible(clock)
	x := seen[w.pick(len(seen))]
	m.record(id, clock, read{s, x.value, x.from})
	return x.value
}

func (w world) Put(id, o, at int, _ bool, v heap.Value) {
	m, s := w.m, slot{o, at}
	if !m.heap.Put(o, at, v) {
		return
	}
	v, _ = m.heap.Get(o, at)
	m.threads[id].writes++
	clock := m.next(id, order.Clock{})
	m.record(id, clock, written{s, v})
	m.pastOf(s).add(write{v, clock, api.Write{Core: id, N: m.threads[id].writes}}, m.reads())
}

func (w world) Object(id, class int, fields []api.Field) (int, bool) {
	o, ok := w.m.heap.Object(class, fields)
	return w.made(id, o, ok)
}

func (w world) Array(id, t int, n int64) (int, bool) {
	o, ok := w.m.heap.Array(t, n)
	return w.made(id, o, ok)
}

func (w world) made(id, o int, ok bool) (int, bool) {
	if ok {
		kind, _ := w.m.heap.Kind(o)
		w.m.record(id, w.m.next(id, order.Clock{}), made{o, kind, w.m.heap.Len(o)})
	}
	return o, ok
}

func (w world) Enter(id, o int) bool {
	if !w.m.heap.Enter(id, o) {
		return false
	}
	w.m.record(id, w.m.next(id, w.m.exits[o]), entered{o})
	return true
}

func (w world) Exit(id, o int) bool {
	if !w.m.heap.Exit(id, o) {
		return false
	}
	clock := w.m.next(id, order.Clock{})
	w.m.record(id, clock, exited{o})
	w.m.exits[o] = clock
	return true
}

func (w world) Spawn(id, method, o int) (int, bool) {
	m := w.m
	child := len(m.threads)
	if child >= m.c.Threads {
		return 0, false
	}
	t, e := step.New(m.p, child, method, heap.Value{Ref: true, N: int64(o)})
	if e != api.OK {
		return 0, false
	}
	clock := m.next(id, order.Clock{})
	m.record(id, clock, spawned{child, o, method})
	m.threads = append(m.threads, thread{Thread: t, clock: clock})
	return child, true
}

func (w world) Join(id int, other int64) (done, ok bool) {
	m := w.m
	if !m.isThread(other) || other == int64(id) {
		return false, false
	}
	t := m.threads[other]
	if !t.hasEnded() {
		return false, true
	}
	clock := order.Clock{}
	if t.events > 0 { // what it begins with is joined by nobody
		clock = t.clock
	}
	m.record(id, m.next(id, clock), joined{other})
	return true, true
}

func (w world) Print(id int, v int64) {
	w.m.prints = append(w.m.prints, v)
	w.m.record(id, w.m.next(id, order.Clock{}), printed{v})
}

// looker is a world for a read that is not done: it tells how many writes that might see.
type looker struct {
	world
	found func(n int)
}

func (l looker) Get(id, o, at int, volatile bool) heap.Value {
	if !volatile {
		p := l.m.pastOf(slot{o, at})
		l.found(len(p.visible(l.m.next(id, order.Clock{}))))
	}
	return heap.Value{}
}

// isAtRead tells whether a thread's next bytecode is a read.
func (m *Machine) isAtRead(id int) bool {
	t := m.threads[id]
	if t.hasEnded() {
		return false
	}
	f := t.Frames[len(t.Frames)-1]
	o, e := code.Read(m.p.Methods[f.Method].Code, f.Place)
	return e == api.OK && (o.Code == bytecode.Getf || o.Code == bytecode.Geta)
}
