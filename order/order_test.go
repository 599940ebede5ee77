package order

import (
	"math"
	"slices"
	"testing"

	"brazier/api"
)

func TestClocksP1901(t *testing.T) {
	a, b := Clock{1, 5, 0, -2}, Clock{2, 3, 0, 0}
	if Join(a, b) != (Clock{2, 5, 0, 0}) || Join(b, a) != Join(a, b) || a != (Clock{1, 5, 0, -2}) {
		t.Error("Join")
	}
	if Tick(a, 1) != (Clock{1, 6, 0, -2}) || Tick(a, 3) != (Clock{1, 5, 0, -1}) || Tick(a, 4) != a || Tick(a, -1) != a || Tick(a, math.MinInt) != a {
		t.Error("Tick")
	}
	for _, c := range []struct {
		a, b Clock
		want int
	}{{Clock{}, Clock{}, 0}, {Clock{1}, Clock{1, 1}, -1}, {Clock{1, 1}, Clock{1}, 1}, {a, b, 0}, {Clock{1, 2, 3, 4}, Clock{2, 3, 4, 5}, -1}, {Clock{0, 1}, Clock{1, 0}, 0}, {Clock{3, 3, 3, 3}, Clock{3, 3, 3, 3}, 0}} {
		if Compare(c.a, c.b) != c.want || Before(c.a, c.b) != (c.want < 0) || Before(c.b, c.a) != (c.want > 0) {
			t.Errorf("%v, %v", c.a, c.b)
		}
	}
}

// volatile: slot 9 is.
func volatile(e api.Event) bool { return e.Slot == 9 }

func ev(thread, kind, at int) api.Event { return api.Event{Thread: thread, Kind: kind, At: at} }

func of(e api.Event, object, slot int, value int64) api.Event {
	e.Object, e.Slot, e.Value = object, slot, value
	return e
}

func check(t *testing.T, l []api.Event, want ...Clock) {
	t.Helper()
	was := slices.Clone(l)
	got, e := Stamp(l, volatile)
	if e != api.OK || !slices.Equal(got, want) || !slices.Equal(l, was) {
		t.Errorf("%v %v, not %v", got, e, want)
	}
}

func TestStampP1902(t *testing.T) {
	check(t, nil)
	check(t, []api.Event{ev(0, api.EPrint, 5), ev(0, api.EReadField, 3), ev(0, api.ENew, 3)}, Clock{1}, Clock{2}, Clock{3})
	// monitors: of one object alone
	check(t, []api.Event{of(ev(0, api.EEnter, 1), 7, 0, 0), ev(0, api.EWriteField, 0), of(ev(0, api.EExit, 2), 7, 0, 0), of(ev(1, api.EEnter, 4), 7, 0, 0), of(ev(2, api.EEnter, 3), 8, 0, 0)}, Clock{1}, Clock{2}, Clock{3}, Clock{3, 1}, Clock{0, 0, 1})
	// the last exit ahead counts, wherever the events stand in the list
	check(t, []api.Event{of(ev(1, api.EEnter, 5), 7, 0, 0), of(ev(0, api.EExit, 2), 7, 0, 0), of(ev(0, api.EExit, 6), 7, 0, 0), of(ev(2, api.EExit, 4), 7, 0, 0)}, Clock{0, 1, 1}, Clock{1}, Clock{2}, Clock{0, 0, 1})
	// volatile slots: of the same object and slot
	check(t, []api.Event{of(ev(0, api.EWriteField, 1), 3, 9, 0), of(ev(1, api.EReadField, 2), 3, 9, 0), of(ev(2, api.EReadField, 3), 4, 9, 0), of(ev(3, api.EReadField, 0), 3, 9, 0), of(ev(0, api.EWriteField, 8), 3, 8, 0), of(ev(1, api.EReadField, 9), 3, 8, 0)}, Clock{1}, Clock{1, 1}, Clock{0, 0, 1}, Clock{0, 0, 0, 1}, Clock{2}, Clock{1, 2})
}

func TestSpawnJoinP1902(t *testing.T) {
	check(t, []api.Event{ev(0, api.EPrint, 0), of(ev(0, api.ESpawn, 1), 0, 0, 2), ev(2, api.EPrint, 0), ev(2, api.EPrint, 0), of(ev(0, api.EJoin, 5), 0, 0, 2)}, Clock{1}, Clock{2}, Clock{2, 0, 1}, Clock{2, 0, 2}, Clock{3, 0, 2})
	// a thread of which nobody knows when it was spawned, and that has a sync yet to come
	check(t, []api.Event{ev(1, api.EPrint, 0), of(ev(1, api.EEnter, 9), 7, 0, 0), ev(1, api.EPrint, 0), of(ev(0, api.EJoin, 5), 0, 0, 1), of(ev(0, api.EJoin, 10), 0, 0, 1)}, Clock{0, 1}, Clock{0, 2}, Clock{0, 3}, Clock{1, 1}, Clock{2, 3})
	// spawned, and joined before it has done anything: zeros are joined
	check(t, []api.Event{of(ev(0, api.ESpawn, 1), 0, 0, 1), of(ev(2, api.EJoin, 2), 0, 0, 1), of(ev(1, api.EEnter, 3), 7, 0, 0)}, Clock{1}, Clock{0, 0, 1}, Clock{1, 1})
	// its first event was gone through ahead of the spawn: by a join
	check(t, []api.Event{ev(1, api.EPrint, 0), of(ev(2, api.EJoin, 1), 0, 0, 1), of(ev(0, api.ESpawn, 2), 0, 0, 1), of(ev(1, api.EEnter, 3), 0, 0, 0)}, Clock{0, 1}, Clock{0, 1, 1}, Clock{1}, Clock{0, 2})
	// of several spawns the last one ahead of its first event
	check(t, []api.Event{of(ev(0, api.ESpawn, 1), 0, 0, 2), of(ev(1, api.ESpawn, 2), 0, 0, 2), of(ev(2, api.EEnter, 3), 7, 0, 0), of(ev(0, api.ESpawn, 4), 0, 0, 2), ev(2, api.EPrint, 0)}, Clock{1}, Clock{0, 1}, Clock{0, 1, 1}, Clock{2}, Clock{0, 1, 2})
	// thread 0 is joined as the others are; what is one too many is nobody
	check(t, []api.Event{of(ev(1, api.EJoin, 1), 0, 0, 0), ev(0, api.EPrint, 0), of(ev(1, api.ESpawn, 2), 0, 0, 4), of(ev(1, api.EJoin, 3), 0, 0, 4)}, Clock{1, 1}, Clock{1}, Clock{1, 2}, Clock{1, 3})
	// thread 0 is spawned by nobody; itself, and what is no thread, is not joined
	check(t, []api.Event{of(ev(1, api.ESpawn, 1), 0, 0, 0), ev(0, api.EPrint, 0), of(ev(1, api.EJoin, 2), 0, 0, 1), of(ev(1, api.EJoin, 3), 0, 0, 4), of(ev(1, api.EJoin, 4), 0, 0, -1), of(ev(1, api.EJoin, 5), 0, 0, math.MinInt64), of(ev(1, api.ESpawn, 6), 0, 0, math.MaxInt64)}, Clock{0, 1}, Clock{1}, Clock{0, 2}, Clock{0, 3}, Clock{0, 4}, Clock{0, 5}, Clock{0, 6})
}

func TestWrongP1902(t *testing.T) {
	for n, c := range []struct {
		l    []api.Event
		want api.Errno
	}{
		{[]api.Event{ev(4, api.EPrint, 0)}, api.ErrArg}, {[]api.Event{ev(-1, api.EPrint, 0)}, api.ErrArg}, {[]api.Event{ev(0, api.EEnter, 1), ev(0, api.EEnter, 1), ev(9, api.EPrint, 0)}, api.ErrArg},
		{[]api.Event{ev(0, api.EEnter, 1), ev(0, api.EExit, 1)}, api.ErrOrder}, {[]api.Event{ev(0, api.EEnter, 2), ev(0, api.EExit, 1)}, api.ErrOrder}, {[]api.Event{ev(0, api.EEnter, 2), ev(1, api.EExit, 2)}, api.ErrOrder}, {[]api.Event{of(ev(0, api.EWriteField, 2), 1, 9, 0), of(ev(1, api.EReadField, 2), 1, 9, 0)}, api.ErrOrder},
		{[]api.Event{of(ev(0, api.EWriteField, 2), 1, 8, 0), of(ev(1, api.EReadField, 2), 1, 8, 0), ev(0, api.EPrint, 1), ev(0, api.ENew, 1)}, api.OK}, {[]api.Event{ev(0, api.EEnter, -5), ev(0, api.EExit, math.MaxInt), ev(1, api.EExit, math.MinInt)}, api.OK}, {[]api.Event{ev(0, 77, 3), ev(0, -1, 2)}, api.OK},
	} {
		if l, e := Stamp(c.l, volatile); e != c.want || e != api.OK && l != nil {
			t.Errorf("case %d: %v", n, e)
		}
	}
}

func TestPartialOrderP1903(t *testing.T) {
	seed := uint32(11)
	next := func(n int) int { seed = seed*1664525 + 1013904223; return int(seed>>8) % n }
	for range 200 {
		var l []api.Event
		for at := range 30 {
			l = append(l, of(ev(next(4), 1+next(8), at), next(3), 8+next(2), int64(next(4))))
		}
		c, e := Stamp(l, volatile)
		if e != api.OK {
			t.Fatal(e)
		}
		last := [4]Clock{}
		for n, x := range l {
			k := x.Thread
			if !Before(last[k], c[n]) {
				t.Fatalf("%v behind %v", c[n], last[k])
			}
			last[k] = c[n]
			for m := range l {
				for o := range l {
					if Before(c[n], c[m]) && (Before(c[m], c[n]) || Before(c[m], c[o]) && !Before(c[n], c[o])) {
						t.Fatal("no partial order")
					}
				}
			}
		}
	}
}
