package vm

import (
	"brazier/api"
	"brazier/layout"
)

// Words of an object ahead of its slots.
const (
	monitorWord = 2
	headWords   = layout.Head / 8
)

// place is a word of an object.
type place struct {
	object
	word int
}

// find tells which word of which object an address is.
func (r *run) find(addr uint64) (place, bool) {
	if addr < layout.Heap || addr-layout.Heap >= 8*uint64(len(r.owners)) {
		return place{}, false
	}
	n := r.owners[(addr-layout.Heap)/8]
	if n == 0 {
		return place{}, false
	}
	o := r.objects[n-1]
	return place{o, int(addr-o.at) / 8}, true
}

// isRef tells whether a slot has references.
func (r *run) isRef(o object, slot int) bool {
	switch o.class {
	case -1:
		return false
	case -2:
		return true
	}
	return r.p.Classes[o.class][slot].Type == api.TRef
}

func isLoad(op int) bool {
	return op == api.LDR || op == api.LDRR || op == api.LDAR || op == api.LDXR
}

// teller makes events of what was retired, and of what was asked of the host.
type teller struct {
	*run
	names map[api.Write]api.Write // of the writes to slots: by thread and how many-th
	rows  [api.MaxCores][]api.Event
	notes [api.MaxCores][]api.Event // those that are still to come
}

func (r *run) events() []api.Event {
	log := r.Log()
	t := &teller{run: r, names: map[api.Write]api.Write{}, notes: r.notes}
	t.nameWrites(log)
	for _, a := range log {
		t.notesAhead(a.Core, a.At)
		if e, ok := t.event(a); ok {
			t.rows[a.Core] = append(t.rows[a.Core], e)
		}
	}
	var l []api.Event
	for k := range t.rows {
		l = append(l, t.rows[k]...)
		l = append(l, t.notes[k]...)
	}
	return l
}

// notesAhead puts the notes ahead of an access: a call is done when all ahead of it is done, and nothing behind it.
func (t *teller) notesAhead(core, at int) {
	for len(t.notes[core]) > 0 && t.notes[core][0].At < at {
		t.rows[core] = append(t.rows[core], t.notes[core][0])
		t.notes[core] = t.notes[core][1:]
	}
}

func (t *teller) nameWrites(log []api.Access) {
	var count [api.MaxCores]int
	for _, a := range log {
		if p, ok := t.find(a.Addr); ok && p.word >= headWords && !isLoad(a.Op) {
			count[a.Core]++
			t.names[a.From] = api.Write{Core: a.Core, N: count[a.Core]}
		}
	}
}

// event tells what an access of the heap is; of an object's first words, and of looks at its monitor, nothing.
func (t *teller) event(a api.Access) (api.Event, bool) {
	p, ok := t.find(a.Addr)
	if !ok {
		return api.Event{}, false
	}
	e := api.Event{Thread: a.Core, Object: layout.Object(p.at), At: a.At}
	switch {
	case p.word >= headWords:
		t.slot(&e, a, p)
	case p.word == monitorWord && a.Op == api.STXR:
		e.Kind = api.EEnter
	case p.word == monitorWord && a.Op == api.STLR:
		e.Kind = api.EExit
	default:
		return api.Event{}, false
	}
	return e, true
}

func (t *teller) slot(e *api.Event, a api.Access, p place) {
	e.Kind = api.EWriteField
	if isLoad(a.Op) {
		e.Kind = api.EReadField
	}
	e.Slot = p.word - headWords
	e.Value = int64(a.Value)
	if e.Ref = t.isRef(p.object, e.Slot); e.Ref {
		e.Value = int64(layout.Object(a.Value))
	}
	e.From = api.Write{Core: -1}
	if w, ok := t.names[a.From]; ok {
		e.From = w
	}
}
