package judge

import (
	"brazier/api"
	"brazier/order"
	"cmp"
	"slices"
	"sort"
)

// slot is one of an object.
type slot struct {
	object, slot int
}

// sight is a claim whose reads are held against what they may see.
type sight struct {
	p      api.Program
	events []api.Event
	kinds  map[int]int // what each object's ENew says
	clocks []order.Clock
	writes [api.MaxCores][]int           // the places of each thread's writes
	slots  map[slot]*[api.MaxCores][]int // those of each slot
	told   map[slot][]int                // the places of volatile writes to a slot, by At
	bad    map[int]int                   // the places of monitors' events that may not be
	spawns map[int]int                   // At of the event that names a thread
	last   [api.MaxCores]latest
}

// latest is At of a thread's last sync, if it has any.
type latest struct {
	any bool
	at  int
}

// Sees tells whether reads see what they may, and the first place at which one does not.
func Sees(p api.Program, x Claim) (api.Errno, int) {
	s := &sight{p: p, events: x.Events, kinds: map[int]int{}, slots: map[slot]*[api.MaxCores][]int{}, told: map[slot][]int{}, bad: map[int]int{}, spawns: map[int]int{}}
	for _, e := range x.Events {
		if _, ok := s.kinds[e.Object]; !ok && e.Kind == api.ENew {
			s.kinds[e.Object] = e.Slot
		}
	}
	var e api.Errno
	if s.clocks, e = order.Stamp(x.Events, s.isVolatile); e != api.OK {
		return e, 0
	}
	s.gather()
	s.goThroughMonitors()
	for at, ev := range x.Events {
		if !s.isInTime(ev) {
			return api.ErrOrder, at
		}
	}
	for at, ev := range x.Events {
		if ev.Kind == api.EReadField && !s.maySee(at) {
			return api.ErrSource, at
		}
		if s.bad[at] > 0 {
			return api.ErrOrder, at
		}
	}
	return api.OK, 0
}

// isVolatile tells whether a read or write is.
func (s *sight) isVolatile(e api.Event) bool {
	class, ok := s.kinds[e.Object]
	if !ok || class < 0 || class >= len(s.p.Classes) || e.Slot < 0 || e.Slot >= len(s.p.Classes[class]) {
		return false
	}
	return s.p.Classes[class][e.Slot].Volatile
}

func (s *sight) isSync(e api.Event) bool {
	switch e.Kind {
	case api.EEnter, api.EExit, api.ESpawn, api.EJoin:
		return true
	case api.EReadField, api.EWriteField:
		return s.isVolatile(e)
	}
	return false
}

// gather puts writes, spawns and syncs where they are found again.
func (s *sight) gather() {
	for at, e := range s.events {
		if e.Kind == api.EWriteField {
			s.writes[e.Thread] = append(s.writes[e.Thread], at)
			where := slot{e.Object, e.Slot}
			if s.slots[where] == nil {
				s.slots[where] = &[api.MaxCores][]int{}
			}
			s.slots[where][e.Thread] = append(s.slots[where][e.Thread], at)
			if s.isVolatile(e) {
				s.told[where] = append(s.told[where], at)
			}
		}
		if _, ok := s.spawns[int(e.Value)]; !ok && e.Kind == api.ESpawn && 0 <= e.Value && e.Value < api.MaxCores {
			s.spawns[int(e.Value)] = e.At
		}
		if s.isSync(e) { // those of a thread rise, as order has seen
			s.last[e.Thread] = latest{true, e.At}
		}
	}
	for _, l := range s.told {
		slices.SortFunc(l, s.byAt)
	}
}

func (s *sight) byAt(a, b int) int {
	return cmp.Compare(s.events[a].At, s.events[b].At)
}

// isInTime tells whether a sync comes behind its thread's spawn, a join behind all that is joined.
func (s *sight) isInTime(e api.Event) bool {
	if at, ok := s.spawns[e.Thread]; ok && s.isSync(e) && e.At <= at {
		return false
	}
	if e.Kind == api.EJoin && 0 <= e.Value && e.Value < api.MaxCores {
		l := s.last[e.Value]
		return !l.any || e.At > l.at
	}
	return true
}

// goThroughMonitors finds the events of monitors that may not be, object by object, by At.
func (s *sight) goThroughMonitors() {
	var places []int
	for at, e := range s.events {
		if e.Kind == api.EEnter || e.Kind == api.EExit {
			places = append(places, at)
		}
	}
	slices.SortFunc(places, s.byAt)
	held := map[int]*[api.MaxCores]int{}
	for _, at := range places {
		e := s.events[at]
		if held[e.Object] == nil {
			held[e.Object] = &[api.MaxCores]int{}
		}
		h := held[e.Object]
		others := 0
		for k, n := range h {
			if k != e.Thread {
				others += n
			}
		}
		switch {
		case e.Kind == api.EEnter && others != 0, e.Kind == api.EExit && h[e.Thread] <= 0:
			s.bad[at]++
		}
		if e.Kind == api.EEnter {
			h[e.Thread]++
		} else {
			h[e.Thread]--
		}
	}
}

const beginning = -1

// source tells the place of the write that a read names, or beginning.
func (s *sight) source(e api.Event) (int, bool) {
	if e.From == (api.Write{Core: -1}) {
		return beginning, e.Value == 0
	}
	k, n := e.From.Core, e.From.N
	if k < 0 || k >= api.MaxCores || n < 1 || n > len(s.writes[k]) {
		return 0, false
	}
	at := s.writes[k][n-1]
	w := s.events[at]
	return at, w.Object == e.Object && w.Slot == e.Slot && w.Value == e.Value && w.Ref == e.Ref
}

// maySee tells whether a read may see the write that it names.
func (s *sight) maySee(at int) bool {
	e := s.events[at]
	from, ok := s.source(e)
	if !ok || from != beginning && order.Before(s.clocks[at], s.clocks[from]) || s.isOverwritten(from, at) {
		return false
	}
	return !s.isVolatile(e) || s.isNewest(from, at)
}

// isOverwritten tells whether a write stands between a read and its source. Of each thread the last one ahead of the read is asked: the others are before that.
func (s *sight) isOverwritten(from, at int) bool {
	e := s.events[at]
	rows := s.slots[slot{e.Object, e.Slot}]
	if rows == nil {
		return false
	}
	for _, row := range rows {
		n := sort.Search(len(row), func(n int) bool { return !order.Before(s.clocks[row[n]], s.clocks[at]) })
		if n > 0 && (from == beginning || order.Before(s.clocks[from], s.clocks[row[n-1]])) {
			return true
		}
	}
	return false
}

// isNewest tells whether the source of a volatile read is the last write by At.
func (s *sight) isNewest(from, at int) bool {
	e := s.events[at]
	row := s.told[slot{e.Object, e.Slot}]
	n := sort.Search(len(row), func(n int) bool { return s.events[row[n]].At >= e.At })
	if from == beginning {
		return n == 0
	}
	return n > 0 && row[n-1] == from
}
