package judge

import (
	"errors"
	"slices"
	"strings"
	"testing"

	"brazier/api"
	"brazier/code"
	"brazier/sem2"
	"brazier/step"
)

var _ step.World = &runner{}

func bytesOf(t *testing.T, s string) []byte {
	t.Helper()
	b, n, e := code.Parse(strings.ReplaceAll(s, ";", "\n"))
	if e != api.OK {
		t.Fatalf("%q: line %d", s, n)
	}
	return b
}

// with tells a program: method 0 has two refs and an int, the others are threads'. Class 0 has two ints, an int and a ref that are volatile.
func with(t *testing.T, methods ...string) api.Program {
	t.Helper()
	p := api.Program{Classes: [][]api.Field{{{Type: api.TInt}, {Type: api.TInt}, {Type: api.TInt, Volatile: true}, {Type: api.TRef, Volatile: true}}}}
	for k, s := range methods {
		m := api.Method{Locals: []int{api.TInt}, Stack: 9, Code: bytesOf(t, s)}
		if k == 0 {
			m.Locals = []int{api.TRef, api.TRef, api.TInt}
		} else {
			m.Params = []int{api.TRef}
		}
		p.Methods = append(p.Methods, m)
	}
	return p
}

var usual = sem2.Config{Heap: 100, Depth: 10, Threads: 3}

func claim(m *sem2.Machine) Claim {
	return Claim{m.Status(), m.Prints(), m.History()}
}

// driven tells the claim of a run.
func driven(t *testing.T, p api.Program, most int) Claim {
	t.Helper()
	m, e := sem2.New(p, usual)
	if e != api.OK {
		t.Fatal(e)
	}
	m.Drive(most)
	return claim(m)
}

func expect(t *testing.T, what string, p api.Program, x Claim, want api.Errno, at int) {
	t.Helper()
	if e, place := Replays(p, usual, x); e != want || place != at {
		t.Errorf("%s: %v at %d, not %v at %d", what, e, place, want, at)
	}
	err := Check(p, usual, x)
	if want == api.OK {
		return
	}
	var w *Wrong
	if !errors.As(err, &w) || w.Err != want || w.Event != at || !errors.Is(err, want) {
		t.Errorf("%s: Check %v", what, err)
	}
}

const busy = "new 0;set 0;get 0;small 7;putf 0 1;get 0;getf 0 1;drop;get 0;enter;get 0;exit;small 2;newa 2;drop;get 0;spawn 1;join;small 3;print;ret"

func TestArraysReplayP2101(t *testing.T) {
	p := with(t, "small 2;newa 1;set 0;get 0;small 1;small 5;puta 1;get 0;small 1;geta 1;print;get 0;len;print;get 0;small 2;geta 1;drop;ret")
	x := driven(t, p, 100)
	expect(t, "an array of ints", p, x, api.OK, 0)
	if x.Status.Trap != api.TBounds || Check(p, usual, x) != nil {
		t.Errorf("%+v", x)
	}
	x.Status.Trap = api.TKind
	expect(t, "another trap", p, x, api.ErrOrder, len(x.Events))
	x.Status = api.Status{Kind: api.SDone}
	expect(t, "trapped is not ended", p, x, api.ErrOrder, len(x.Events))
	x.Status = api.Status{}
	x.Events[0].Slot = -2
	expect(t, "an array of refs", p, x, api.ErrOrder, 0)
}

func TestReplaysP2101(t *testing.T) {
	p := with(t, busy, "get 0;getf 0 1;print;ret")
	x := driven(t, p, 1000)
	expect(t, "a run", p, x, api.OK, 0)
	if Check(p, usual, x) != nil || len(x.Events) != 11 {
		t.Fatalf("%v %+v", Check(p, usual, x), x)
	}
	for most := range 30 {
		expect(t, "a front", p, driven(t, p, most), api.OK, 0)
	}
	for n, c := range []struct {
		change func(x *Claim)
		want   api.Errno
		at     int
	}{
		{func(x *Claim) { x.Events[0].Thread = -1 }, api.ErrArg, 0}, {func(x *Claim) { x.Events[4].Thread = 3 }, api.ErrArg, 0},
		{func(x *Claim) { x.Events[4].Thread = 2 }, api.ErrOrder, 4}, {func(x *Claim) { x.Events[0].Object = 0 }, api.ErrOrder, 0}, {func(x *Claim) { x.Events[5].Object = 1 }, api.ErrOrder, 5}, {func(x *Claim) { x.Events[6].Value = 0 }, api.ErrOrder, 6}, {func(x *Claim) { x.Events[6].Value = 3 }, api.ErrOrder, 6}, {func(x *Claim) { x.Events[6].Value = 1 << 40 }, api.ErrOrder, 6}, {func(x *Claim) { x.Events[6].Value = 2 }, api.ErrOrder, 7},
		{func(x *Claim) { x.Events[0].Slot = 1 }, api.ErrOrder, 0}, {func(x *Claim) { x.Events[0].Value = 5 }, api.ErrOrder, 0}, {func(x *Claim) { x.Events[5].Slot = -1 }, api.ErrOrder, 5}, {func(x *Claim) { x.Events[5].Value = 3 }, api.ErrOrder, 5},
		{func(x *Claim) { x.Events[1].Slot = 0 }, api.ErrOrder, 1}, {func(x *Claim) { x.Events[1].Object = 2 }, api.ErrOrder, 1}, {func(x *Claim) { x.Events[1].Value = 8 }, api.ErrValue, 1}, {func(x *Claim) { x.Events[1].Ref = true }, api.ErrValue, 1}, {func(x *Claim) { x.Events[1].Kind = api.EReadField }, api.ErrOrder, 1},
		{func(x *Claim) { x.Events[2].Slot = 0 }, api.ErrOrder, 2}, {func(x *Claim) { x.Events[2].Object = 9 }, api.ErrOrder, 2}, {func(x *Claim) { x.Events[3].Object = 2 }, api.ErrOrder, 3}, {func(x *Claim) { x.Events[4].Object = 2 }, api.ErrOrder, 4}, {func(x *Claim) { x.Events[3].Kind = api.EExit }, api.ErrOrder, 3},
		{func(x *Claim) { x.Events[6].Slot = 0 }, api.ErrOrder, 6}, {func(x *Claim) { x.Events[6].Object = 2 }, api.ErrOrder, 6}, {func(x *Claim) { x.Events[9].Value = 2 }, api.ErrOrder, 9}, {func(x *Claim) { x.Events[10].Value = 4 }, api.ErrValue, 10}, {func(x *Claim) { x.Events[7].Kind = 77 }, api.ErrOrder, 7},
		{func(x *Claim) { x.Events = append(x.Events, x.Events[10]) }, api.ErrOrder, 11}, {func(x *Claim) { x.Events = x.Events[:10] }, api.ErrOrder, 10}, {func(x *Claim) { x.Prints[0] = 9 }, api.ErrValue, 11}, {func(x *Claim) { x.Prints = x.Prints[:1] }, api.ErrValue, 11}, {func(x *Claim) { x.Events[8].At = x.Events[10].At }, api.ErrOrder, 11}, {func(x *Claim) { x.Events[8].At, x.Events[10].At = 20, 10 }, api.ErrValue, 11},
		{func(x *Claim) { x.Status = api.Status{} }, api.OK, 0}, {func(x *Claim) { x.Status.Kind = 3 }, api.ErrArg, 11}, {func(x *Claim) { x.Status.Kind = -1 }, api.ErrArg, 11}, {func(x *Claim) { x.Status = api.Status{Kind: api.STrap, Trap: api.TNull} }, api.ErrOrder, 11}, {func(x *Claim) { x.Status.Kind, x.Prints = 3, nil }, api.ErrArg, 11},
	} {
		y := Claim{x.Status, slices.Clone(x.Prints), slices.Clone(x.Events)}
		c.change(&y)
		if e, at := Replays(p, usual, y); e != c.want || at != c.at {
			t.Errorf("case %d: %v at %d, not %v at %d", n, e, at, c.want, c.at)
		}
	}
	if e, at := Replays(p, sem2.Config{}, x); e != api.ErrArg || at != 0 {
		t.Error("a config that may not be")
	}
	if e, at := Replays(with(t, "add"), usual, x); e != api.ErrArg || at != 0 {
		t.Error("a program that may not be")
	}
	if e, at := Replays(api.Program{}, usual, Claim{}); e != api.ErrArg || at != 0 {
		t.Error("no program")
	}
}

func TestThreadsReplayP2101(t *testing.T) {
	p := with(t, "get 0;spawn 1;drop;ret", "small 1;print;ret", "ret")
	spawn := api.Event{Kind: api.ESpawn, Slot: 1, Value: 1, At: 1}
	prints := api.Event{Thread: 1, Kind: api.EPrint, Value: 1, At: 2}
	expect(t, "in another order", p, Claim{api.Status{Kind: api.SDone}, []int64{1}, []api.Event{prints, spawn}}, api.OK, 0)
	expect(t, "nobody has spawned it", p, Claim{api.Status{}, []int64{1}, []api.Event{prints}}, api.ErrOrder, 0)
	expect(t, "it has not ended", p, Claim{api.Status{Kind: api.SDone}, nil, []api.Event{spawn}}, api.ErrOrder, 1)
	expect(t, "it is left", p, Claim{api.Status{}, nil, []api.Event{spawn}}, api.OK, 0)
	spawn.Slot = 2
	expect(t, "another method", p, Claim{api.Status{}, nil, []api.Event{spawn}}, api.ErrOrder, 0)
	q := with(t, "jump 0", "ret")
	for _, slot := range []int{0, -1, 2, 1 << 40} {
		// thread 0 takes no event at all: it is thread 1's beginning that is asked, but those of thread 0 that are left come first
		expect(t, "left events", q, Claim{api.Status{}, nil, []api.Event{{Kind: api.ESpawn, Slot: slot, Value: 1, At: 1}}}, api.ErrOrder, 0)
	}
	expect(t, "two threads name each other", q, Claim{api.Status{}, nil, []api.Event{{Thread: 2, Kind: api.ESpawn, Slot: 0, Value: 1, At: 1}, {Thread: 1, Kind: api.ESpawn, Slot: 1, Value: 2, At: 2}}}, api.ErrOrder, 0)
	expect(t, "thread 2 alone", p, Claim{api.Status{}, nil, []api.Event{{Kind: api.ESpawn, Slot: 1, Value: 2, At: 1}, {Thread: 2, Kind: api.EPrint, Value: 9, At: 2}}}, api.ErrValue, 1)
	expect(t, "one too many", p, Claim{api.Status{}, nil, []api.Event{{Kind: api.ESpawn, Slot: 1, Value: 4, At: 1}}}, api.ErrOrder, 0)
	three := with(t, "null;spawn 1;drop;ret", "null;spawn 1;drop;ret", "ret")
	for _, slot := range []int{0, -1, 3, 1 << 40} {
		// thread 1 is run ahead of thread 2, which has spawned it
		l := []api.Event{{Kind: api.ESpawn, Slot: 1, Value: 2, At: 1}, {Thread: 2, Kind: api.ESpawn, Slot: slot, Value: 1, At: 2}}
		expect(t, "no method that spawn may name", three, Claim{Events: l}, api.ErrOrder, 1)
	}
	expect(t, "thread 0 comes first", p, Claim{api.Status{}, nil, []api.Event{{Thread: 1, Kind: api.EPrint, Value: 9, At: 3}, {Kind: api.ESpawn, Slot: 1, Object: 4, Value: 1, At: 1}}}, api.ErrOrder, 1)
}

func TestIdleP2101(t *testing.T) {
	// counts 16385 times by 4 steps: 65540 in a row; and a few less
	loop := func(n int) string {
		return "small " + "64;small 8;shl;set 2;" + strings.Repeat("nop;", n) + "get 2;small -1;add;dup;set 2;if -8;small 5;print;ret"
	}
	p := with(t, loop(0))
	if x := driven(t, p, 1<<20); x.Status.Kind != api.SDone {
		t.Fatal(x.Status)
	}
	x := Claim{api.Status{Kind: api.SDone}, []int64{5}, []api.Event{{Kind: api.EPrint, Value: 5, At: 1}}}
	// 4 + 16384 * 6 steps are too many
	expect(t, "too many in a row", p, x, api.ErrOrder, 0)
	expect(t, "left", p, Claim{}, api.OK, 0)
	short := with(t, "small 40;small 8;shl;set 2;get 2;small -1;add;dup;set 2;if -8;small 5;print;ret")
	expect(t, "few enough", short, x, api.OK, 0)
	// exactly 65536 steps that take none, and one more: nop and jump make 2 each
	edge := func(extra int) api.Program {
		// 5 + 10922*6 = 65537 with small; by nops ahead it is brought to the edge
		return with(t, "const 0;set 2;"+strings.Repeat("nop;", extra)+"get 2;small -1;add;dup;set 2;if -8;small 5;print;ret")
	}
	for extra, want := range map[int]api.Errno{1: api.OK, 2: api.ErrOrder} {
		q := edge(extra)
		q.Pool = []int64{10922}
		place := 0
		if e, at := Replays(q, usual, x); e != want || at != place { // 2 + extra + 65532 + 1 steps ahead of print
			t.Errorf("%d nops: %v at %d", extra, e, at)
		}
	}
}

func TestTrapsReplayP2101(t *testing.T) {
	for _, c := range []struct {
		s    string
		want api.Status
		ok   bool
	}{
		{"null;getf 0 0;print;ret", api.Status{Kind: api.STrap, Trap: api.TNull, Code: 1}, true}, {"null;getf 0 0;print;ret", api.Status{Kind: api.STrap, Trap: api.TNull, Code: 0}, false}, {"null;getf 0 0;print;ret", api.Status{Kind: api.STrap, Trap: api.TKind, Code: 1}, false},
		{"new 0;drop;ret", api.Status{Kind: api.STrap, Trap: api.TMemory}, true}, {"small 9;newa 1;drop;ret", api.Status{Kind: api.STrap, Trap: api.TMemory, Code: 2}, true}, {"new 0;drop;ret", api.Status{Kind: api.STrap, Trap: api.TThread}, false}, {"new 0;drop;ret", api.Status{Kind: api.STrap, Trap: api.TMemory, Code: 2}, false}, {"small -1;newa 1;drop;ret", api.Status{Kind: api.STrap, Trap: api.TMemory, Code: 2}, false}, {"small -1;newa 1;drop;ret", api.Status{Kind: api.STrap, Trap: api.TSize, Code: 2}, true},
		{"null;spawn 1;drop;ret", api.Status{Kind: api.STrap, Trap: api.TThread, Code: 1}, true}, {"small 9;join;ret", api.Status{Kind: api.STrap, Trap: api.TThread, Code: 2}, true}, {"small 9;join;ret", api.Status{Kind: api.STrap, Trap: api.TMonitor, Code: 2}, false}, {"small 9;print;ret", api.Status{Kind: api.STrap, Trap: api.TThread, Code: 2}, false}, {"nop;ret", api.Status{Kind: api.STrap, Trap: api.TThread, Method: -5, Code: 99}, false}, {"small 9;print;ret", api.Status{Kind: api.STrap, Trap: api.TDivide, Code: 2}, false}, {"new 0;drop;ret", api.Status{Kind: api.STrap, Trap: 77}, false}, {"new 0;enter;new 0;exit;ret", api.Status{Kind: api.STrap, Trap: api.TMonitor}, false},
	} {
		want := api.ErrOrder
		if c.ok {
			want = api.OK
		}
		expect(t, c.s, with(t, c.s, "ret"), Claim{Status: c.want}, want, 0)
	}
	p := with(t, "new 0;set 0;get 0;enter;new 0;exit;ret")
	x := driven(t, p, 100)
	if x.Status != (api.Status{Kind: api.STrap, Trap: api.TMonitor, Code: 9}) {
		t.Fatal(x.Status)
	}
	expect(t, "a monitor", p, x, api.OK, 0)
	deep := with(t, "call 0;ret")
	expect(t, "depth", deep, driven(t, deep, 100), api.OK, 0)
}

// sees makes a claim whose object 1 is of class 0.
func sees(l ...api.Event) Claim {
	x := Claim{Events: []api.Event{{Kind: api.ENew, Object: 1, Value: 4}}}
	x.Events = append(x.Events, l...)
	return x
}

func ev(thread, kind, slot int, v int64, from api.Write, at int) api.Event {
	return api.Event{Thread: thread, Kind: kind, Object: 1, Slot: slot, Value: v, From: from, At: at}
}

func TestSeesReadsP2102(t *testing.T) {
	const r, w = api.EReadField, api.EWriteField
	p := with(t, "ret")
	none, a1, a2, b1 := api.Write{Core: -1}, api.Write{Core: 0, N: 1}, api.Write{Core: 0, N: 2}, api.Write{Core: 1, N: 1}
	ref := ev(1, r, 0, 5, a1, 0)
	ref.Ref = true
	for n, c := range []struct {
		l    []api.Event
		want api.Errno
		at   int
	}{
		{[]api.Event{ev(0, r, 0, 0, none, 0)}, api.OK, 0}, {[]api.Event{ev(0, r, 0, 1, none, 0)}, api.ErrSource, 1}, {[]api.Event{ev(0, r, 0, 0, api.Write{Core: -1, N: 1}, 0)}, api.ErrSource, 1}, {[]api.Event{ev(0, r, 0, 0, api.Write{Core: 9, N: 1}, 0)}, api.ErrSource, 1}, {[]api.Event{ev(0, r, 0, 0, api.Write{}, 0)}, api.ErrSource, 1},
		{[]api.Event{ev(0, w, 0, 5, a1, 0), ev(1, r, 0, 5, a1, 0)}, api.OK, 0}, {[]api.Event{ev(0, w, 0, 5, a1, 0), ev(1, r, 0, 6, a1, 0)}, api.ErrSource, 2}, {[]api.Event{ev(0, w, 1, 5, a1, 0), ev(1, r, 0, 5, a1, 0)}, api.ErrSource, 2}, {[]api.Event{ev(0, w, 0, 5, a1, 0), ref}, api.ErrSource, 2}, {[]api.Event{ev(0, w, 0, 5, a1, 0), ev(1, r, 0, 5, a2, 0)}, api.ErrSource, 2}, {[]api.Event{ev(0, w, 0, 5, a1, 0), ev(1, r, 0, 5, b1, 0)}, api.ErrSource, 2}, {[]api.Event{ev(0, w, 0, 5, a1, 0), ev(1, r, 0, 0, none, 0)}, api.OK, 0},
		{[]api.Event{ev(0, w, 0, 5, a1, 0), ev(0, w, 0, 6, a2, 0), ev(1, r, 0, 5, a1, 0)}, api.OK, 0}, {[]api.Event{ev(0, w, 0, 5, a1, 0), ev(0, w, 0, 6, a2, 0), ev(0, r, 0, 5, a1, 0)}, api.ErrSource, 3}, {[]api.Event{ev(0, w, 0, 5, a1, 0), ev(0, w, 0, 6, a2, 0), ev(0, r, 0, 6, a2, 0)}, api.OK, 0}, {[]api.Event{ev(0, w, 0, 5, a1, 0), ev(0, r, 0, 0, none, 0)}, api.ErrSource, 2}, {[]api.Event{ev(0, r, 0, 5, a1, 0), ev(0, w, 0, 5, a1, 0)}, api.ErrSource, 1},
		// racing writes: either may be seen; and a load may be done ahead of the other thread's store
		{[]api.Event{ev(0, w, 0, 5, a1, 0), ev(1, w, 0, 6, b1, 0), ev(1, r, 0, 5, a1, 0)}, api.OK, 0}, {[]api.Event{ev(1, r, 0, 5, a1, 0), ev(0, w, 0, 5, a1, 0)}, api.OK, 0},
		// behind a monitor: what is ahead of it is seen
		{[]api.Event{ev(0, w, 0, 5, a1, 0), ev(0, api.EEnter, 0, 0, none, 1), ev(0, api.EExit, 0, 0, none, 2), ev(1, api.EEnter, 0, 0, none, 3), ev(1, r, 0, 0, none, 0)}, api.ErrSource, 5}, {[]api.Event{ev(0, w, 0, 5, a1, 0), ev(0, api.EEnter, 0, 0, none, 1), ev(0, api.EExit, 0, 0, none, 2), ev(1, api.EEnter, 0, 0, none, 3), ev(1, r, 0, 5, a1, 0)}, api.OK, 0},
		{[]api.Event{ev(1, r, 0, 5, a1, 0), ev(1, api.EEnter, 0, 0, none, 1), ev(1, api.EExit, 0, 0, none, 2), ev(0, api.EEnter, 0, 0, none, 3), ev(0, w, 0, 5, a1, 0)}, api.ErrSource, 1},
		// volatile slots: the last one by At
		{[]api.Event{ev(0, w, 2, 5, a1, 1), ev(0, w, 2, 6, a2, 2), ev(1, r, 2, 6, a2, 3)}, api.OK, 0}, {[]api.Event{ev(0, w, 2, 5, a1, 1), ev(0, w, 2, 6, a2, 2), ev(1, r, 2, 5, a1, 3)}, api.ErrSource, 3}, {[]api.Event{ev(0, w, 2, 5, a1, 1), ev(0, w, 2, 6, a2, 4), ev(1, r, 2, 5, a1, 3)}, api.OK, 0}, {[]api.Event{ev(0, w, 2, 5, a1, 4), ev(1, r, 2, 5, a1, 3)}, api.ErrSource, 2}, {[]api.Event{ev(0, w, 2, 5, a1, 2), ev(1, r, 2, 0, none, 3)}, api.ErrSource, 2}, {[]api.Event{ev(0, w, 2, 5, a1, 4), ev(1, r, 2, 0, none, 3)}, api.OK, 0},
		{[]api.Event{ev(0, w, 2, 5, a1, 3), ev(1, r, 2, 5, a1, 3)}, api.ErrOrder, 0}, {[]api.Event{ev(0, w, 0, 5, a1, 3), ev(1, r, 0, 5, a1, 3)}, api.OK, 0}, {[]api.Event{{Thread: 7}}, api.ErrArg, 0},
	} {
		if e, at := Sees(p, sees(c.l...)); e != c.want || at != c.at {
			t.Errorf("case %d: %v at %d, not %v at %d", n, e, at, c.want, c.at)
		}
	}
}

func TestSeesOddSlotsP2102(t *testing.T) {
	p := with(t, "ret")
	none := api.Write{Core: -1}
	for _, class := range []int{0, -1, -2, 1, 99} {
		for _, slot := range []int{-1, 0, 3, 4, 99} {
			// a read that comes ahead of what says whether it is volatile; two of them at one time are only wrong if they are
			l := []api.Event{{Kind: api.EReadField, Object: 5, Slot: slot, From: none, At: 7}, {Thread: 1, Kind: api.EReadField, Object: 5, Slot: slot, From: none, At: 7}, {Thread: 1, Kind: api.ENew, Object: 5, Slot: class}}
			want := api.OK
			if class == 0 && slot == 3 {
				want = api.ErrOrder
			}
			if e, at := Sees(p, Claim{Events: l}); e != want || at != 0 {
				t.Errorf("class %d, slot %d: %v", class, slot, e)
			}
		}
	}
}

func TestSeesOrderP2102(t *testing.T) {
	p := with(t, "ret")
	none := api.Write{}
	enter := func(k, at int) api.Event { return ev(k, api.EEnter, 0, 0, none, at) }
	exit := func(k, at int) api.Event { return ev(k, api.EExit, 0, 0, none, at) }
	spawn := func(k, at int, id int64) api.Event { return ev(k, api.ESpawn, 0, id, none, at) }
	join := func(k, at int, id int64) api.Event { return ev(k, api.EJoin, 0, id, none, at) }
	other := enter(1, 2)
	other.Object = 9
	for n, c := range []struct {
		l    []api.Event
		want api.Errno
		at   int
	}{
		{[]api.Event{enter(0, 1), enter(0, 2), exit(0, 3), exit(0, 4), enter(1, 5)}, api.OK, 0}, {[]api.Event{enter(0, 1), enter(1, 2)}, api.ErrOrder, 2}, {[]api.Event{enter(0, 1), other}, api.OK, 0}, {[]api.Event{enter(0, 1), enter(0, 2), exit(0, 3), enter(1, 4)}, api.ErrOrder, 4}, {[]api.Event{enter(1, 4), enter(0, 1), exit(0, 5)}, api.ErrOrder, 1}, {[]api.Event{enter(1, 4), enter(0, 1), exit(0, 3)}, api.OK, 0},
		{[]api.Event{exit(0, 1)}, api.ErrOrder, 1}, {[]api.Event{enter(0, 1), exit(0, 2), exit(0, 3)}, api.ErrOrder, 3}, {[]api.Event{enter(0, 1), exit(1, 2)}, api.ErrOrder, 2},
		{[]api.Event{spawn(0, 5, 1), enter(1, 6)}, api.OK, 0}, {[]api.Event{spawn(0, 5, 1), enter(1, 4)}, api.ErrOrder, 2}, {[]api.Event{enter(1, 4), spawn(0, 5, 1)}, api.ErrOrder, 1}, {[]api.Event{spawn(0, 5, 1), ev(1, api.EPrint, 0, 0, none, 2), ev(1, api.EWriteField, 0, 0, none, 2)}, api.OK, 0}, {[]api.Event{spawn(0, 5, 1), ev(1, api.EWriteField, 2, 0, none, 2)}, api.ErrOrder, 2},
		{[]api.Event{enter(1, 4), join(0, 5, 1)}, api.OK, 0}, {[]api.Event{enter(1, 4), exit(1, 6), join(0, 5, 1)}, api.ErrOrder, 3}, {[]api.Event{join(0, 5, 2), join(0, 6, 77), join(0, 7, -1), join(0, 8, 4)}, api.OK, 0}, {[]api.Event{join(0, 5, 0)}, api.ErrOrder, 1}, {[]api.Event{ev(1, api.EPrint, 0, 0, none, 9), join(0, 5, 1)}, api.OK, 0},
		{[]api.Event{exit(0, 1), ev(0, api.EReadField, 0, 9, none, 0)}, api.ErrOrder, 1}, {[]api.Event{ev(0, api.EReadField, 0, 9, none, 0), exit(0, 1)}, api.ErrSource, 1}, {[]api.Event{exit(0, 1), enter(1, 4), spawn(2, 5, 1)}, api.ErrOrder, 2},
	} {
		if e, at := Sees(p, sees(c.l...)); e != c.want || at != c.at {
			t.Errorf("case %d: %v at %d, not %v at %d", n, e, at, c.want, c.at)
		}
	}
}

func TestCheckEventsP2103(t *testing.T) {
	w := &Wrong{api.ErrSource, 12}
	if w.Error() != "source at 12" || !errors.Is(w, api.ErrSource) || errors.Is(w, api.ErrOrder) || w.Unwrap() != api.ErrSource {
		t.Error(w)
	}
	p := with(t, "new 0;set 0;get 0;small 5;putf 0 0;get 0;getf 0 0;print;ret")
	x := driven(t, p, 100)
	if err := Check(p, usual, x); err != nil {
		t.Error(err)
	}
	x.Events[2].From.N = 2
	if err := Check(p, usual, x); err == nil || err.Error() != "source at 2" {
		t.Error(err)
	}
	x.Events[0].Slot = 7
	if err := Check(p, usual, x); err == nil || err.Error() != "order at 0" {
		t.Error(err)
	}
	y := Claim{Events: []api.Event{{At: 5, Slot: 1}, {At: 2, Slot: 2}, {At: 5, Slot: 3}, {At: -1, Slot: 4}}}
	seq := Events(y)
	y.Events[0].At = -100
	for range 2 {
		var numbers, slots []int
		for n, e := range seq {
			numbers, slots = append(numbers, n), append(slots, e.Slot)
		}
		if !slices.Equal(numbers, []int{3, 1, 0, 2}) || !slices.Equal(slots, []int{4, 2, 1, 3}) {
			t.Errorf("%v %v", numbers, slots)
		}
	}
	for range seq {
		break
	}
}

// Whatever is picked: the history is taken (P2006); and what is changed in it mostly not.
func TestRandomRunsP2006P2103(t *testing.T) {
	seed := uint32(17)
	next := func(n int) int { seed = seed*1664525 + 1013904223; return int(seed>>8) % n }
	body := strings.Repeat("get 0;getf 0 0;drop;get 0;small 1;putf 0 0;get 0;getf 0 2;drop;get 0;small 2;putf 0 2;get 0;enter;get 0;small 3;putf 0 1;get 0;getf 0 1;print;get 0;get 0;putf 0 3;get 0;exit;", 3)
	p := with(t, "new 0;set 0;get 0;spawn 1;get 0;spawn 2;"+body+"join;join;ret", body+"ret", body+"ret")
	wrong := 0
	for range 200 {
		m, _ := sem2.New(p, usual)
		for range next(1500) {
			m.Step(sem2.Pick{Thread: next(3), Choice: next(5)})
		}
		x := claim(m)
		if err := Check(p, usual, x); err != nil {
			t.Fatalf("%v %+v", err, x)
		}
		if len(x.Events) == 0 {
			continue
		}
		e := &x.Events[next(len(x.Events))]
		switch next(4) {
		case 0:
			e.Value++
		case 1:
			e.From.N++
		case 2:
			e.At = next(len(x.Events) + 3)
		default:
			e.Slot = (e.Slot + 1) % 4
		}
		if Check(p, usual, x) != nil {
			wrong++
		}
	}
	if wrong < 50 {
		t.Errorf("%d of what was changed is wrong", wrong)
	}
}
