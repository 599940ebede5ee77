package heap

import (
	"math"
	"testing"

	"brazier/api"
)

func heapOf(t *testing.T, words int) *Heap {
	t.Helper()
	h, e := New(words)
	if e != api.OK {
		t.Fatal(e)
	}
	return h
}

var two = []api.Field{{Type: api.TInt}, {Type: api.TRef, Volatile: true}}

func TestNewP1601(t *testing.T) {
	for _, n := range []int{-1, api.MaxHeap + 1, math.MinInt, math.MaxInt} {
		if h, e := New(n); h != nil || e != api.ErrArg {
			t.Errorf("%d words: %v", n, e)
		}
	}
	h := heapOf(t, 0)
	if _, ok := h.Object(0, nil); ok || h.Used() != 0 || h.Objects() != 0 {
		t.Error("no words")
	}
	if h := heapOf(t, api.MaxHeap); h.Used() != 0 {
		t.Error("all words")
	}
}

func TestWordsP1601(t *testing.T) {
	h := heapOf(t, 13)
	fields := append([]api.Field{}, two...)
	if o, ok := h.Object(7, fields); o != 1 || !ok || h.Used() != 5 {
		t.Error("an object")
	}
	fields[0].Type = api.TRef
	if v, _ := h.Get(1, 0); v.Ref {
		t.Error("what was handed in is kept")
	}
	for _, n := range []int64{-1, 6, math.MinInt64, math.MaxInt64, math.MaxInt64 - 3} {
		if o, ok := h.Array(api.TInt, n); o != 0 || ok || h.Used() != 5 || h.Objects() != 1 {
			t.Errorf("an array of %d", n)
		}
	}
	if o, ok := h.Array(api.TRef, 5); o != 2 || !ok || h.Used() != 13 || h.Objects() != 2 {
		t.Error("an array that just fits")
	}
	if o, ok := h.Object(0, nil); o != 0 || ok {
		t.Error("nothing is left")
	}
}

func TestSlotsP1602(t *testing.T) {
	h := heapOf(t, 100)
	h.Object(7, two)
	h.Array(api.TInt, 2)
	h.Array(api.TRef, 1)
	h.Array(99, 0)
	for o, want := range []int{0, 7, -1, -2, -1, 0} {
		kind, ok := h.Kind(o)
		if kind != want || ok != (o > 0 && o < 5) {
			t.Errorf("Kind(%d): %d %v", o, kind, ok)
		}
	}
	for _, c := range []struct {
		o, slot int
		ok, ref bool
	}{{1, 0, true, false}, {1, 1, true, true}, {1, 2, false, false}, {1, -1, false, false}, {2, 1, true, false}, {3, 0, true, true}, {3, 1, false, false}, {4, 0, false, false}, {0, 0, false, false}, {-1, 0, false, false}, {5, 0, false, false}, {math.MaxInt, 0, false, false}, {1, math.MinInt, false, false}} {
		if v, ok := h.Get(c.o, c.slot); v != (Value{Ref: c.ref}) || ok != c.ok {
			t.Errorf("%d %d: %+v", c.o, c.slot, v)
		}
		if h.Put(c.o, c.slot, Value{!c.ref, 42}) != c.ok {
			t.Errorf("Put %d %d", c.o, c.slot)
		}
		if v, _ := h.Get(c.o, c.slot); c.ok && v != (Value{c.ref, 42}) {
			t.Errorf("behind Put %d %d: %+v", c.o, c.slot, v)
		}
	}
	for o, want := range []int{0, 2, 2, 1, 0, 0} {
		if h.Len(o) != want {
			t.Errorf("Len(%d)", o)
		}
	}
}

func TestMonitorsP1603(t *testing.T) {
	h := heapOf(t, 100)
	h.Object(0, nil)
	owner := func(thread, count int) {
		t.Helper()
		if a, b := h.Owner(1); a != thread || b != count {
			t.Errorf("owner %d, %d", a, b)
		}
	}
	owner(-1, 0)
	if h.Exit(0, 1) || !h.Enter(2, 1) || !h.Enter(2, 1) || h.Enter(3, 1) || h.Exit(3, 1) {
		t.Error("enter")
	}
	owner(2, 2)
	if !h.Exit(2, 1) || h.Enter(3, 1) {
		t.Error("exit")
	}
	owner(2, 1)
	if !h.Exit(2, 1) || h.Exit(2, 1) {
		t.Error("exit again")
	}
	owner(-1, 0)
	if !h.Enter(0, 1) || h.Enter(-1, 1) {
		t.Error("another thread")
	}
	owner(0, 1)
	for _, o := range []int{0, -1, 2, math.MaxInt} {
		if a, b := h.Owner(o); a != -1 || b != 0 || h.Enter(0, o) || h.Exit(0, o) {
			t.Errorf("object %d", o)
		}
	}
}

func TestTwinP1603(t *testing.T) {
	h := heapOf(t, 20)
	h.Object(3, two)
	h.Array(api.TRef, 1)
	h.Put(1, 0, Value{N: 5})
	h.Enter(1, 1)
	g := h.Twin()
	g.Put(1, 0, Value{N: 6})
	g.Enter(1, 1)
	g.Enter(2, 2)
	g.Array(api.TInt, 0)
	v, _ := h.Get(1, 0)
	_, count := h.Owner(1)
	_, other := h.Owner(2)
	if v.N != 5 || count != 1 || other != 0 || h.Objects() != 2 || h.Used() != 9 || g.Used() != 12 {
		t.Error("a twin is apart")
	}
	if k, _ := g.Kind(1); k != 3 || g.Len(2) != 1 {
		t.Error("a twin is as it was")
	}
	if _, count := g.Owner(1); count != 2 {
		t.Error("its monitors")
	}
}
