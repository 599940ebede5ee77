package sem2

import (
	"math"
	"reflect"
	"slices"
	"strings"
	"testing"

	"brazier/api"
	"brazier/code"
	"brazier/order"
	"brazier/sequel"
	"brazier/step"
)

var _ step.World = world{}

func bytesOf(t *testing.T, s string) []byte {
	t.Helper()
	b, n, e := code.Parse(strings.ReplaceAll(s, ";", "\n"))
	if e != api.OK {
		t.Fatalf("%q: line %d", s, n)
	}
	return b
}

// with tells a program: method 0 has two refs and an int, the others are threads' with an int. Class 0 has two ints, an int and a ref that are volatile.
func with(t *testing.T, methods ...string) api.Program {
	t.Helper()
	p := api.Program{Classes: [][]api.Field{{{Type: api.TInt}, {Type: api.TInt}, {Type: api.TInt, Volatile: true}, {Type: api.TRef, Volatile: true}}}}
	for k, s := range methods {
		m := api.Method{Locals: []int{api.TInt}, Stack: 9, Code: bytesOf(t, s)}
		if k == 0 {
			m.Locals = []int{api.TRef, api.TRef, api.TInt}
		} else {
			m.Params = []int{api.TRef}
		}
		p.Methods = append(p.Methods, m)
	}
	return p
}

var usual = Config{Heap: 100, Depth: 10, Threads: 3}

func made2(t *testing.T, c Config, methods ...string) *Machine {
	t.Helper()
	m, e := New(with(t, methods...), c)
	if e != api.OK {
		t.Fatal(e)
	}
	return m
}

func steps(m *Machine, thread, n int) {
	for range n {
		m.Step(Pick{Thread: thread})
	}
}

func TestCheckNewP2001(t *testing.T) {
	for _, c := range []struct {
		c  Config
		ok bool
	}{{Config{0, 1, 1}, true}, {Config{api.MaxHeap, api.MaxDepth, api.MaxCores}, true}, {Config{-1, 1, 1}, false}, {Config{api.MaxHeap + 1, 1, 1}, false}, {Config{0, 0, 1}, false}, {Config{0, api.MaxDepth + 1, 1}, false}, {Config{0, 1, 0}, false}, {Config{0, 1, 5}, false}} {
		if e := Check(c.c); (e == api.OK) != c.ok || e != api.OK && e != api.ErrArg {
			t.Errorf("%+v: %v", c.c, e)
		}
		if m, e := New(with(t, "ret"), c.c); (e == api.OK) != c.ok || (m != nil) != c.ok {
			t.Errorf("New %+v: %v", c.c, e)
		}
	}
	if m, e := New(with(t, "add"), usual); m != nil || e != api.ErrStack {
		t.Error(e)
	}
	if _, e := New(with(t, "add"), Config{}); e != api.ErrArg {
		t.Error(e)
	}
	p := with(t, "nop;ret")
	m, _ := New(p, usual)
	p.Methods[0].Code[0] = 99
	if m.Threads() != 1 || m.Status() != (api.Status{}) || m.Prints() != nil || m.History() != nil || m.Drive(5) != (api.Status{Kind: api.SDone}) {
		t.Error("a new machine")
	}
}

func TestStepP2002(t *testing.T) {
	m := made2(t, usual, "new 0;spawn 1;join;ret", "small 5;print;ret")
	for _, k := range []int{-1, 1, 3, math.MinInt, math.MaxInt} {
		if how, s := m.Step(Pick{Thread: k}); how != step.Waits || s != (api.Status{}) {
			t.Errorf("thread %d: %d", k, how)
		}
	}
	steps(m, 0, 2)
	if m.Threads() != 2 {
		t.Error("spawn")
	}
	if how, s := m.Step(Pick{}); how != step.Waits || s != (api.Status{}) {
		t.Error("join waits")
	}
	steps(m, 1, 2)
	if how, s := m.Step(Pick{Thread: 1}); how != step.Ended || s != (api.Status{}) {
		t.Error("a thread ends")
	}
	if how, s := m.Step(Pick{Thread: 1}); how != step.Ended || s != (api.Status{}) {
		t.Error("a thread that has ended")
	}
	if how, _ := m.Step(Pick{}); how != step.Went {
		t.Error("join goes")
	}
	if how, s := m.Step(Pick{}); how != step.Ended || s != (api.Status{Kind: api.SDone}) || m.Status() != s {
		t.Error("all have ended")
	}
	if how, s := m.Step(Pick{}); how != step.Waits || s != (api.Status{Kind: api.SDone}) {
		t.Error("behind the end")
	}
	if !slices.Equal(m.Prints(), []int64{5}) {
		t.Error("prints")
	}
	m = made2(t, usual, "null;spawn 1;drop;ret", "get 0;getf 0 0;print;ret")
	steps(m, 0, 2)
	steps(m, 1, 1)
	want := api.Status{Kind: api.STrap, Trap: api.TNull, Method: 1, Code: 2}
	if how, s := m.Step(Pick{Thread: 1}); how != step.Trap || s != want || m.Status() != want {
		t.Errorf("a trap: %+v", s)
	}
	if how, s := m.Step(Pick{}); how != step.Waits || s != want {
		t.Error("a trap ends the run")
	}
}

func TestThreadsP2002(t *testing.T) {
	for _, c := range []struct {
		s       string
		threads int
		want    api.Status
	}{
		{"null;spawn 1;drop;null;spawn 1;drop;ret", 3, api.Status{Kind: api.SDone}}, {"null;spawn 1;drop;null;spawn 1;drop;ret", 2, api.Status{Kind: api.STrap, Trap: api.TThread, Code: 5}}, {"null;spawn 1;join;null;spawn 1;join;ret", 2, api.Status{Kind: api.STrap, Trap: api.TThread, Code: 5}}, {"null;spawn 1;drop;ret", 1, api.Status{Kind: api.STrap, Trap: api.TThread, Code: 1}},
		{"small 0;join;ret", 3, api.Status{Kind: api.STrap, Trap: api.TThread, Code: 2}}, {"small 1;join;ret", 3, api.Status{Kind: api.STrap, Trap: api.TThread, Code: 2}}, {"small -1;join;ret", 3, api.Status{Kind: api.STrap, Trap: api.TThread, Code: 2}},
		{"null;spawn 1;dup;join;join;ret", 3, api.Status{Kind: api.SDone}}, {"small 1;small 70;shl;join;ret", 3, api.Status{Kind: api.STrap, Trap: api.TThread, Code: 5}},
	} {
		m := made2(t, Config{100, 10, c.threads}, c.s, "ret")
		if s := m.Drive(1000); s != c.want {
			t.Errorf("%s: %+v", c.s, s)
		}
	}
}

func TestHistoryP2004(t *testing.T) {
	m := made2(t, usual, "new 0;set 0;get 0;small 7;putf 0 1;get 0;getf 0 1;drop;get 0;enter;get 0;exit;small 2;newa 2;small 1;null;puta 2;get 0;spawn 1;join;small 3;print;small 0;newa 1;drop;get 0;get 0;putf 0 3;get 0;getf 0 3;drop;ret", "ret")
	m.Drive(1000)
	own := func(n int) api.Write { return api.Write{Core: 0, N: n} }
	want := []api.Event{
		{Kind: api.ENew, Object: 1, Value: 4, At: 1}, {Kind: api.EWriteField, Object: 1, Slot: 1, Value: 7, From: own(1), At: 2}, {Kind: api.EReadField, Object: 1, Slot: 1, Value: 7, From: own(1), At: 3}, {Kind: api.EEnter, Object: 1, At: 4}, {Kind: api.EExit, Object: 1, At: 5},
		{Kind: api.ENew, Object: 2, Slot: -2, Value: 2, At: 6}, {Kind: api.EWriteField, Object: 2, Slot: 1, Ref: true, From: own(2), At: 7}, {Kind: api.ESpawn, Object: 1, Slot: 1, Value: 1, At: 8}, {Kind: api.EJoin, Value: 1, At: 9}, {Kind: api.EPrint, Value: 3, At: 10}, {Kind: api.ENew, Object: 3, Slot: -1, At: 11}, {Kind: api.EWriteField, Object: 1, Slot: 3, Value: 1, Ref: true, From: own(3), At: 12}, {Kind: api.EReadField, Object: 1, Slot: 3, Value: 1, Ref: true, From: own(3), At: 13},
	}
	if got := m.History(); !slices.Equal(got, want) || m.Status().Kind != api.SDone {
		t.Errorf("%+v %+v", got, m.Status())
	}
	m = made2(t, usual, "new 0;getf 0 3;drop;ret")
	m.Drive(9)
	if h := m.History(); h[1] != (api.Event{Kind: api.EReadField, Object: 1, Slot: 3, Ref: true, From: api.Write{Core: -1}, At: 2}) {
		t.Errorf("%+v", h)
	}
}

// racing: thread 0 writes 1, 2, 3 into slot 0 behind a spawn, thread 1 reads it twice.
func racing(t *testing.T, c Config) *Machine {
	m := made2(t, c, "new 0;set 0;get 0;spawn 1;drop;get 0;small 1;putf 0 0;get 0;small 2;putf 0 0;get 0;small 3;putf 0 0;ret", "get 0;getf 0 0;print;get 0;getf 0 0;print;ret")
	steps(m, 0, 14)
	steps(m, 1, 1)
	return m
}

func TestReadsP2003(t *testing.T) {
	m := racing(t, usual)
	if m.Choices(0) != 1 || m.Choices(-1) != 1 || m.Choices(9) != 1 || m.Choices(1) != 4 {
		t.Errorf("choices: %d", m.Choices(1))
	}
	for choice, want := range map[int]int64{0: 3, 1: 2, 2: 1, 3: 0, 4: 3, 7: 0, -1: 3, math.MinInt: 3, math.MaxInt: 0} {
		x := m.Twin()
		before := len(x.History())
		x.Step(Pick{Thread: 1, Choice: choice})
		e := x.History()[before]
		from := api.Write{Core: 0, N: int(want)}
		if want == 0 {
			from = api.Write{Core: -1}
		}
		if e.Value != want || e.From != from {
			t.Errorf("choice %d: %+v", choice, e)
		}
	}
	x := m.Twin()
	x.Run(Pick{1, 0}, Pick{1, 0}, Pick{1, 0})
	if x.Choices(1) != 4 { // a plain read orders nothing: an older write may be seen again
		t.Errorf("choices: %d", x.Choices(1))
	}
	x.Run(Pick{1, 2}, Pick{1, 0})
	if !slices.Equal(x.Prints(), []int64{3, 1}) {
		t.Errorf("%v", x.Prints())
	}
	own := made2(t, usual, "new 0;set 0;get 0;small 1;putf 0 0;get 0;small 2;putf 0 0;get 0;getf 0 0;print;ret")
	steps(own, 0, 9)
	if own.Choices(0) != 1 {
		t.Error("own writes are overwritten")
	}
	if s := own.Run(Pick{0, 5}, Pick{0, 5}, Pick{}); s.Kind != api.SDone || !slices.Equal(own.Prints(), []int64{2}) {
		t.Error("own writes")
	}
}

func TestOrderedReadsP2003(t *testing.T) {
	// joined: all is known
	m := made2(t, usual, "new 0;set 0;get 0;spawn 1;join;get 0;getf 0 0;print;ret", "get 0;small 1;putf 0 0;get 0;small 2;putf 0 0;ret")
	steps(m, 0, 4)
	steps(m, 1, 7)
	steps(m, 0, 2)
	if m.Choices(0) != 1 {
		t.Errorf("behind join: %d", m.Choices(0))
	}
	// monitors
	m = made2(t, usual, "new 0;set 0;get 0;spawn 1;drop;get 0;enter;get 0;small 1;putf 0 0;get 0;exit;ret", "get 0;enter;get 0;getf 0 0;print;get 0;exit;ret")
	steps(m, 0, 12)
	steps(m, 1, 3)
	if m.Choices(1) != 1 {
		t.Errorf("behind a monitor: %d", m.Choices(1))
	}
	// a volatile read sees the newest write alone, and orders what is ahead of that
	m = made2(t, usual, "new 0;set 0;get 0;spawn 1;drop;get 0;small 1;putf 0 0;get 0;small 5;putf 0 2;get 0;small 6;putf 0 2;ret", "get 0;getf 0 2;print;get 0;getf 0 0;print;ret")
	steps(m, 0, 14)
	steps(m, 1, 1)
	if m.Choices(1) != 1 {
		t.Errorf("volatile: %d", m.Choices(1))
	}
	m.Step(Pick{1, 1})
	steps(m, 1, 2)
	if m.Choices(1) != 1 {
		t.Errorf("behind a volatile read: %d", m.Choices(1))
	}
	steps(m, 1, 3)
	if !slices.Equal(m.Prints(), []int64{6, 1}) {
		t.Errorf("%v", m.Prints())
	}
	// a read that traps has no choices, nor has what is no read
	m = made2(t, usual, "null;getf 0 0;print;ret")
	if m.Choices(0) != 1 {
		t.Error("no read")
	}
	steps(m, 0, 1)
	if m.Choices(0) != 1 {
		t.Error("a read that traps")
	}
}

func TestMonitorsP2002(t *testing.T) {
	m := made2(t, usual, "new 0;set 0;get 0;spawn 1;drop;get 0;enter;get 0;exit;ret", "get 0;enter;get 0;exit;ret")
	steps(m, 0, 7)
	steps(m, 1, 1)
	n := len(m.History())
	if how, s := m.Step(Pick{Thread: 1}); how != step.Waits || s != (api.Status{}) || len(m.History()) != n {
		t.Error("another thread holds it")
	}
	steps(m, 0, 2)
	if how, _ := m.Step(Pick{Thread: 1}); how != step.Went {
		t.Error("nobody holds it")
	}
	m = made2(t, usual, "new 0;set 0;get 0;spawn 1;drop;get 0;enter;get 0;exit;ret", "new 0;enter;get 0;exit;ret")
	steps(m, 0, 7)
	steps(m, 1, 3)
	if how, s := m.Step(Pick{Thread: 1}); how != step.Trap || s != (api.Status{Kind: api.STrap, Trap: api.TMonitor, Method: 1, Code: 5}) {
		t.Errorf("another's monitor: %+v", s)
	}
}

func TestSpawnedP2002P2004(t *testing.T) {
	m := made2(t, usual, "new 0;set 0;get 0;spawn 1;drop;ret", "get 0;get 0;putf 0 3;ret")
	m.Drive(100)
	if h := m.History(); h[2] != (api.Event{Thread: 1, Kind: api.EWriteField, Object: 1, Slot: 3, Value: 1, Ref: true, From: api.Write{Core: 1, N: 1}, At: 3}) {
		t.Errorf("%+v", h)
	}
	// thread 1 joins thread 2, which has done nothing that can be seen: what was ahead of its spawn is not known by that
	m = made2(t, usual, "new 0;set 0;get 0;spawn 1;drop;get 0;small 5;putf 0 0;null;spawn 2;drop;ret", "small 2;join;get 0;getf 0 0;print;ret", "ret")
	steps(m, 0, 11)
	steps(m, 2, 1)
	steps(m, 1, 3)
	if m.Choices(1) != 2 {
		t.Errorf("%d choices", m.Choices(1))
	}
	// it has printed: then what was ahead of that is known
	m = made2(t, usual, "new 0;set 0;get 0;spawn 1;drop;get 0;small 5;putf 0 0;null;spawn 2;drop;ret", "small 2;join;get 0;getf 0 0;print;ret", "small 1;print;ret")
	steps(m, 0, 11)
	steps(m, 2, 3)
	steps(m, 1, 3)
	if m.Choices(1) != 1 {
		t.Errorf("%d choices", m.Choices(1))
	}
}

func TestChoicesChangesNothingP2003(t *testing.T) {
	m := made2(t, usual, "new 0;set 0;get 0;enter;get 0;small 1;putf 0 0;get 0;getf 0 0;print;get 0;exit;small 2;newa 1;drop;null;spawn 1;join;ret", "small 1;print;ret")
	for range 60 {
		was := m.Twin()
		for k := range 3 {
			m.Choices(k)
		}
		if !slices.Equal(m.History(), was.History()) || !slices.Equal(m.Prints(), was.Prints()) || m.Status() != was.Status() || m.Threads() != was.Threads() {
			t.Fatal("something has changed")
		}
		m.Step(Pick{})
		m.Step(Pick{Thread: 1})
	}
	if m.Status().Kind != api.SDone {
		t.Errorf("%+v", m.Status())
	}
}

func TestRunDriveTwinP2005(t *testing.T) {
	methods := []string{"new 0;set 0;get 0;spawn 1;drop;get 0;spawn 2;drop;small 10;print;small 11;print;ret", "small 20;print;small 21;print;ret", "small 30;print;small 31;print;ret"}
	m := made2(t, usual, methods...)
	if m.Drive(0) != (api.Status{}) || m.Drive(-4) != (api.Status{}) || m.Drive(math.MaxInt) != (api.Status{Kind: api.SDone}) {
		t.Error("Drive")
	}
	if got := m.Prints(); !slices.Equal(got, []int64{20, 21, 30, 10, 31, 11}) {
		t.Errorf("threads in turn: %v", got)
	}
	m = made2(t, usual, methods...)
	steps(m, 0, 8)
	x := m.Twin()
	if !reflect.DeepEqual(m, x) {
		t.Error("a twin is as the machine is")
	}
	x.Drive(100)
	if m.Status().Kind != api.SRuns || len(m.Prints()) != 0 || m.Threads() != 3 || len(m.History()) != 3 || m.Drive(100) != x.Status() || !slices.Equal(m.History(), x.History()) {
		t.Error("a twin is apart")
	}
	if made2(t, usual, methods...).Run() != (api.Status{}) {
		t.Error("no picks")
	}
	m.History()[0].At = 99
	m.Prints()[0] = 99
	if m.History()[0].At != 1 || m.Prints()[0] == 99 {
		t.Error("what is told is not new memory")
	}
}

func TestOneThreadP2006(t *testing.T) {
	for _, s := range []string{"small 5;set 2;get 2;print;get 2;small -1;add;dup;set 2;if -11;new 0;getf 0 3;getf 0 0;drop;ret", "new 0;drop;jump -3", "new 0;set 0;get 0;enter;get 0;enter;get 0;exit;get 0;exit;ret", "small 1;join;ret", "small 40;newa 1;len;print;ret"} {
		p := with(t, s)
		for most := range 80 {
			want, _ := sequel.Run(p, sequel.Config{Heap: 100, Depth: 10}, most)
			m, _ := New(p, usual)
			if got := m.Drive(most); got != want.Status || !slices.Equal(m.Prints(), want.Prints) {
				t.Errorf("%s, %d steps: %+v %+v", s, most, got, want)
			}
		}
	}
}

// The clocks by which reads see writes are chapter 19's; and what is left out of the past changes nothing.
func TestClocksP2003(t *testing.T) {
	seed := uint32(3)
	next := func(n int) int { seed = seed*1664525 + 1013904223; return int(seed>>8) % n }
	const shared = "get 0;getf 0 0;drop;get 0;small 1;putf 0 0;get 0;getf 0 2;drop;get 0;small 2;putf 0 2;get 0;enter;get 0;small 3;putf 0 0;get 0;getf 0 0;print;get 0;exit;"
	body := strings.Repeat(shared, 4)
	for range 60 {
		m := made2(t, usual, "new 0;set 0;get 0;spawn 1;get 0;spawn 2;"+body+"join;join;ret", body+"ret", body+"ret")
		for range 3000 {
			k := Pick{next(3), next(9)}
			choices := m.Choices(k.Thread)
			if how, _ := m.Step(k); how != step.Went {
				continue
			}
			h := m.History()
			e := h[max(0, len(h)-1)]
			if e.Kind != api.EReadField || e.Slot == 2 || e.Thread != k.Thread || choices == 1 && next(4) > 0 {
				continue
			}
			clocks, _ := order.Stamp(h, func(e api.Event) bool { return e.Slot == 2 })
			if n := count(h, clocks); choices != 1 && n != choices {
				t.Fatalf("%d choices, not %d", choices, n)
			}
		}
	}
}

// count tells how many writes the last event, a read, might have seen.
func count(h []api.Event, clocks []order.Clock) int {
	last := len(h) - 1
	isWrite := func(n int) bool {
		return h[n].Kind == api.EWriteField && h[n].Object == h[last].Object && h[n].Slot == h[last].Slot
	}
	all, overwritten := 1, false
	for n := range last {
		if !isWrite(n) {
			continue
		}
		overwritten = overwritten || order.Before(clocks[n], clocks[last])
		hidden := false
		for v := range last {
			hidden = hidden || isWrite(v) && order.Before(clocks[n], clocks[v]) && order.Before(clocks[v], clocks[last])
		}
		if !hidden {
			all++
		}
	}
	if overwritten {
		all--
	}
	return all
}
