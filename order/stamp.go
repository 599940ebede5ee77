package order

import (
	"brazier/api"
	"cmp"
	"slices"
)

// stamper goes through events, and tells their clocks.
type stamper struct {
	events []api.Event
	sync   []bool
	rows   [][]int // the places of each thread's events
	gone   Clock   // how many of each row were gone through
	now    [api.MaxCores]Clock
	begins [api.MaxCores]Clock // what spawned it made
	exits  map[int]Clock
	writes map[slot]Clock
	clocks []Clock
}

// slot is one of an object.
type slot struct {
	object, slot int
}

// Stamp tells each event's clock.
func Stamp(events []api.Event, volatile func(e api.Event) bool) ([]Clock, api.Errno) {
	if slices.ContainsFunc(events, func(e api.Event) bool { return !isThread(e.Thread) }) {
		return nil, api.ErrArg
	}
	s := &stamper{
		events: events,
		sync:   make([]bool, len(events)),
		rows:   split(events, api.MaxCores, func(e api.Event) int { return e.Thread }),
		exits:  map[int]Clock{},
		writes: map[slot]Clock{},
		clocks: make([]Clock, len(events)),
	}
	for at, e := range events {
		s.sync[at] = isSync(e, volatile)
	}
	syncs, ok := s.syncs()
	if !ok {
		return nil, api.ErrOrder
	}
	for _, at := range syncs {
		s.plain(events[at].Thread)
		s.stamp(at)
	}
	for k := range s.rows {
		s.plain(k)
	}
	return s.clocks, api.OK
}

// split tells the places of those of each of n kinds, in their order.
func split[T any](l []T, n int, kind func(T) int) [][]int {
	rows := make([][]int, n)
	for at, x := range l {
		rows[kind(x)] = append(rows[kind(x)], at)
	}
	return rows
}

func isSync(e api.Event, volatile func(e api.Event) bool) bool {
	switch e.Kind {
	case api.EEnter, api.EExit, api.ESpawn, api.EJoin:
		return true
	case api.EReadField, api.EWriteField:
		return volatile(e)
	}
	return false
}

// syncs tells the places of syncs by At; false, if that does not rise as it must.
func (s *stamper) syncs() ([]int, bool) {
	var l []int
	for _, row := range s.rows {
		first := len(l)
		for _, at := range row {
			if !s.sync[at] {
				continue
			}
			if len(l) > first && s.events[l[len(l)-1]].At >= s.events[at].At {
				return nil, false
			}
			l = append(l, at)
		}
	}
	slices.SortFunc(l, func(a, b int) int { return cmp.Compare(s.events[a].At, s.events[b].At) })
	for n := 1; n < len(l); n++ {
		if s.events[l[n-1]].At == s.events[l[n]].At {
			return nil, false
		}
	}
	return l, true
}

// plain goes through a thread's events up to its next sync.
func (s *stamper) plain(k int) {
	for s.gone[k] < len(s.rows[k]) && !s.sync[s.rows[k][s.gone[k]]] {
		s.stamp(s.rows[k][s.gone[k]])
	}
}

// stamp goes through the event at a place, the next one of its thread.
func (s *stamper) stamp(at int) {
	e := s.events[at]
	k := e.Thread
	before := s.now[k]
	if s.gone[k] == 0 && k != 0 {
		before = s.begins[k]
	}
	c := Tick(Join(before, s.joined(e, s.sync[at])), k)
	s.now[k], s.clocks[at] = c, c
	s.gone[k]++
	switch {
	case e.Kind == api.EExit:
		s.exits[e.Object] = c
	case e.Kind == api.EWriteField && s.sync[at]:
		s.writes[slot{e.Object, e.Slot}] = c
	case e.Kind == api.ESpawn && 0 <= e.Value && e.Value < api.MaxCores:
		s.begins[e.Value] = c
	}
}

// joined tells what an event joins first.
func (s *stamper) joined(e api.Event, sync bool) Clock {
	switch {
	case e.Kind == api.EEnter:
		return s.exits[e.Object]
	case e.Kind == api.EReadField && sync:
		return s.writes[slot{e.Object, e.Slot}]
	case e.Kind == api.EJoin && 0 <= e.Value && e.Value < api.MaxCores && int(e.Value) != e.Thread:
		s.plain(int(e.Value))
		return s.now[e.Value]
	}
	return Clock{}
}
