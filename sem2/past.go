package sem2

import (
	"brazier/api"
	"brazier/heap"
	"brazier/order"
	"slices"
)

// slot is one of an object.
type slot struct {
	object, slot int
}

// write is one to a slot.
type write struct {
	value heap.Value
	clock order.Clock
	from  api.Write
}

// past is the writes to a slot that somebody may see yet, by when they were made.
type past struct {
	beginning write
	writes    []write
	full      int // so many make it worth while to leave out what nobody may see
}

const leastFull = 8

// pastOf tells the past of a slot; one that is not kept yet has nothing but its beginning.
func (m *Machine) pastOf(s slot) *past {
	if p, ok := m.writes[s]; ok {
		return p
	}
	v, _ := m.heap.Get(s.object, s.slot)
	p := &past{beginning: write{value: heap.Value{Ref: v.Ref}, from: api.Write{Core: -1}}, full: leastFull}
	m.writes[s] = p
	return p
}

func (p *past) twin() *past {
	t := *p
	t.writes = slices.Clone(p.writes)
	return &t
}

// last tells the newest write.
func (p *past) last() write {
	if len(p.writes) == 0 {
		return p.beginning
	}
	return p.writes[len(p.writes)-1]
}

// newest tells for each thread its last write that is before a read at that clock.
// Another write is overwritten, if it is before one of these: a thread's writes are each before the next one.
func (p *past) newest(clock order.Clock) []write {
	var found [api.MaxCores]bool
	var l []write
	for _, w := range slices.Backward(p.writes) {
		if !found[w.from.Core] && order.Before(w.clock, clock) {
			found[w.from.Core] = true
			l = append(l, w)
		}
	}
	return l
}

// visible tells the writes that a read at that clock may see, the newest first.
func (p *past) visible(clock order.Clock) []write {
	known := p.newest(clock)
	var l []write
	for _, w := range slices.Backward(p.writes) {
		if !isOverwritten(w, known) {
			l = append(l, w)
		}
	}
	if len(known) == 0 {
		l = append(l, p.beginning)
	}
	return l
}

func isOverwritten(w write, known []write) bool {
	return slices.ContainsFunc(known, func(v write) bool { return order.Before(w.clock, v.clock) })
}

// add puts a write behind the others. All reads that are still to come are at one of these clocks, or behind one.
func (p *past) add(w write, reads []order.Clock) {
	p.writes = append(p.writes, w)
	if len(p.writes) < p.full {
		return
	}
	var known [][]write
	for _, clock := range reads {
		known = append(known, p.newest(clock))
	}
	p.writes = slices.DeleteFunc(p.writes, func(w write) bool {
		return !slices.ContainsFunc(known, func(l []write) bool { return !isOverwritten(w, l) })
	})
	p.full = max(leastFull, 2*len(p.writes))
}

// reads tells for each thread that has not ended the clock that a read would have now.
func (m *Machine) reads() []order.Clock {
	var l []order.Clock
	for id, t := range m.threads {
		if !t.hasEnded() {
			l = append(l, m.next(id, order.Clock{}))
		}
	}
	return l
}
