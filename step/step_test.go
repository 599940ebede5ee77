package step

import (
	"fmt"
	"math"
	"reflect"
	"slices"
	"strings"
	"testing"

	"brazier/api"
	"brazier/code"
	"brazier/heap"
)

// world notes what it is asked, and answers so.
type world struct {
	asked         []string
	kind          int
	hasKind       bool
	length        int
	no            bool // says no
	done, ok      bool
	value         heap.Value
	number        int
	fieldsOfClass []api.Field
}

func (w *world) note(what string, args ...any) {
	w.asked = append(w.asked, strings.TrimSpace(what+" "+fmt.Sprintln(args...)))
}

func (w *world) Kind(o int) (int, bool) { return w.kind, w.hasKind }
func (w *world) Len(o int) int          { return w.length }
func (w *world) Get(thread, o, slot int, volatile bool) heap.Value {
	w.note("get", thread, o, slot, volatile)
	return w.value
}
func (w *world) Put(thread, o, slot int, volatile bool, v heap.Value) {
	w.note("put", thread, o, slot, volatile, v)
}
func (w *world) Object(thread, class int, fields []api.Field) (int, bool) {
	w.note("object", thread, class)
	w.fieldsOfClass = fields
	return w.number, !w.no
}
func (w *world) Array(thread, t int, n int64) (int, bool) {
	w.note("array", thread, t, n)
	return w.number, !w.no
}
func (w *world) Enter(thread, o int) bool { w.note("enter", thread, o); return !w.no }
func (w *world) Exit(thread, o int) bool  { w.note("exit", thread, o); return !w.no }
func (w *world) Spawn(thread, method, o int) (int, bool) {
	w.note("spawn", thread, method, o)
	return w.number, !w.no
}
func (w *world) Join(thread int, id int64) (done, ok bool) {
	w.note("join", thread, id)
	return w.done, w.ok
}
func (w *world) Print(thread int, v int64) { w.note("print", thread, v) }

func program(t *testing.T, s string) api.Program {
	t.Helper()
	b, n, e := code.Parse(strings.ReplaceAll(s, ";", "\n"))
	if e != api.OK {
		t.Fatalf("%q: line %d", s, n)
	}
	return api.Program{
		Pool:    []int64{5, -6},
		Classes: [][]api.Field{{{Type: api.TInt}, {Type: api.TRef, Volatile: true}}, {}},
		Methods: []api.Method{{Code: []byte{28}}, {Params: []int{api.TInt}, Locals: []int{api.TInt, api.TRef}, Stack: 9, Code: b}, {Params: []int{api.TInt, api.TRef}, Locals: []int{api.TRef}, Ret: api.TInt, Stack: 2, Code: []byte{2, 9, 28}}, {Params: []int{api.TRef}, Code: []byte{28}}},
	}
}

func num(n int64) heap.Value { return heap.Value{N: n} }
func ref(n int64) heap.Value { return heap.Value{Ref: true, N: n} }

func TestNewP1701(t *testing.T) {
	p := program(t, "ret")
	for _, m := range []int{-1, 4, math.MinInt} {
		if x, e := New(p, 0, m); x != nil || e != api.ErrName {
			t.Errorf("method %d: %v", m, e)
		}
	}
	for _, args := range [][]heap.Value{nil, {num(1), num(2)}} {
		if x, e := New(p, 0, 1, args...); x != nil || e != api.ErrArg {
			t.Errorf("%v: %v", args, e)
		}
	}
	args := []heap.Value{num(7)}
	x, e := New(p, 3, 1, args...)
	args[0].N = 8
	if e != api.OK || x.Id != 3 || x.Steps != 0 || len(x.Frames) != 1 || !slices.Equal(x.Frames[0].Locals, []heap.Value{num(7), num(0), ref(0)}) || len(x.Frames[0].Stack) != 0 || x.Frames[0].Method != 1 || x.Frames[0].Place != 0 {
		t.Errorf("%+v %v", x, e)
	}
}

// at tells a thread 2 that stands at method 1, with this stack.
func at(t *testing.T, p api.Program, stack ...heap.Value) *Thread {
	t.Helper()
	x, e := New(p, 2, 1, num(7))
	if e != api.OK {
		t.Fatal(e)
	}
	x.Frames[0].Stack = stack
	return x
}

func TestBytecodesP1702(t *testing.T) {
	const low = math.MinInt64
	for _, c := range []struct {
		s       string
		in, out []heap.Value
		place   int
		asked   string
	}{
		{"nop", nil, nil, 1, ""}, {"const 1", nil, []heap.Value{num(-6)}, 2, ""}, {"small -3", nil, []heap.Value{num(-3)}, 2, ""}, {"null", nil, []heap.Value{ref(0)}, 1, ""}, {"get 0", nil, []heap.Value{num(7)}, 2, ""}, {"get 2", nil, []heap.Value{ref(0)}, 2, ""},
		{"dup", []heap.Value{ref(3)}, []heap.Value{ref(3), ref(3)}, 1, ""}, {"drop", []heap.Value{ref(3)}, nil, 1, ""}, {"swap", []heap.Value{ref(3), num(4)}, []heap.Value{num(4), ref(3)}, 1, ""},
		{"add", []heap.Value{num(math.MaxInt64), num(1)}, []heap.Value{num(low)}, 1, ""}, {"sub", []heap.Value{num(3), num(5)}, []heap.Value{num(-2)}, 1, ""}, {"mul", []heap.Value{num(low), num(3)}, []heap.Value{num(low)}, 1, ""},
		{"div", []heap.Value{num(-7), num(2)}, []heap.Value{num(-3)}, 1, ""}, {"div", []heap.Value{num(low), num(-1)}, []heap.Value{num(low)}, 1, ""}, {"rem", []heap.Value{num(-7), num(2)}, []heap.Value{num(-1)}, 1, ""}, {"rem", []heap.Value{num(low), num(-1)}, []heap.Value{num(0)}, 1, ""},
		{"and", []heap.Value{num(6), num(3)}, []heap.Value{num(2)}, 1, ""}, {"or", []heap.Value{num(6), num(3)}, []heap.Value{num(7)}, 1, ""}, {"xor", []heap.Value{num(6), num(3)}, []heap.Value{num(5)}, 1, ""},
		{"shl", []heap.Value{num(3), num(65)}, []heap.Value{num(6)}, 1, ""}, {"shr", []heap.Value{num(-4), num(1)}, []heap.Value{num(-2)}, 1, ""}, {"ushr", []heap.Value{num(-4), num(-63)}, []heap.Value{num(math.MaxInt64 - 1)}, 1, ""}, {"neg", []heap.Value{num(low)}, []heap.Value{num(low)}, 1, ""}, {"neg", []heap.Value{num(4)}, []heap.Value{num(-4)}, 1, ""},
		{"lt", []heap.Value{num(-1), num(0)}, []heap.Value{num(1)}, 1, ""}, {"lt", []heap.Value{num(0), num(0)}, []heap.Value{num(0)}, 1, ""}, {"eq", []heap.Value{num(4), num(4)}, []heap.Value{num(1)}, 1, ""}, {"eq", []heap.Value{num(4), num(5)}, []heap.Value{num(0)}, 1, ""}, {"same", []heap.Value{ref(4), ref(4)}, []heap.Value{num(1)}, 1, ""}, {"same", []heap.Value{ref(4), ref(0)}, []heap.Value{num(0)}, 1, ""}, {"isnull", []heap.Value{ref(0)}, []heap.Value{num(1)}, 1, ""}, {"isnull", []heap.Value{ref(4)}, []heap.Value{num(0)}, 1, ""},
		{"jump 5", nil, nil, 5, ""}, {"if 5", []heap.Value{num(-1)}, nil, 5, ""}, {"if 5", []heap.Value{num(0)}, nil, 3, ""},
		{"new 0", nil, []heap.Value{ref(44)}, 2, "object 2 0"}, {"newa 2", []heap.Value{num(0)}, []heap.Value{ref(44)}, 2, "array 2 2 0"}, {"newa 1", []heap.Value{num(api.MaxHeap)}, []heap.Value{ref(44)}, 2, "array 2 1 65536"},
		{"getf 0 0", []heap.Value{ref(3)}, []heap.Value{num(99)}, 3, "get 2 3 0 false"}, {"getf 0 1", []heap.Value{ref(3)}, []heap.Value{num(99)}, 3, "get 2 3 1 true"}, {"putf 0 1", []heap.Value{ref(3), ref(8)}, nil, 3, "put 2 3 1 true {true 8}"}, {"putf 0 0", []heap.Value{ref(3), num(8)}, nil, 3, "put 2 3 0 false {false 8}"},
		{"enter", []heap.Value{ref(3)}, nil, 1, "enter 2 3"}, {"exit", []heap.Value{ref(3)}, nil, 1, "exit 2 3"}, {"spawn 3", []heap.Value{ref(0)}, []heap.Value{num(44)}, 2, "spawn 2 3 0"}, {"join", []heap.Value{num(1)}, nil, 1, "join 2 1"}, {"print", []heap.Value{num(-8)}, nil, 1, "print 2 -8"},
	} {
		p := program(t, c.s+";ret")
		w := &world{hasKind: true, length: 4, number: 44, value: num(99), done: true, ok: true}
		below := []heap.Value{num(1000), ref(1)}
		x := at(t, p, append(slices.Clone(below), c.in...)...)
		how, s := x.Step(p, w, 5)
		f := x.Frames[0]
		if how != Went || s != (api.Status{}) || x.Steps != 1 || f.Place != c.place || !slices.Equal(f.Stack, append(below, c.out...)) || strings.Join(w.asked, ";") != c.asked {
			t.Errorf("%s: %d %+v %+v %q", c.s, how, s, f, w.asked)
		}
	}
}

func TestArraysP1702(t *testing.T) {
	for _, c := range []struct {
		s       string
		kind    int
		in, out []heap.Value
		asked   string
	}{
		{"geta 1", -1, []heap.Value{ref(3), num(0)}, []heap.Value{num(99)}, "get 2 3 0 false"}, {"geta 2", -2, []heap.Value{ref(3), num(3)}, []heap.Value{num(99)}, "get 2 3 3 false"}, {"puta 1", -1, []heap.Value{ref(3), num(2), num(5)}, nil, "put 2 3 2 false {false 5}"}, {"puta 2", -2, []heap.Value{ref(3), num(2), ref(5)}, nil, "put 2 3 2 false {true 5}"},
		{"len", -1, []heap.Value{ref(3)}, []heap.Value{num(4)}, ""}, {"len", -2, []heap.Value{ref(3)}, []heap.Value{num(4)}, ""},
	} {
		p := program(t, c.s+";ret")
		w := &world{hasKind: true, kind: c.kind, length: 4, value: num(99)}
		x := at(t, p, c.in...)
		if how, _ := x.Step(p, w, 5); how != Went || !slices.Equal(x.Frames[0].Stack, c.out) || strings.Join(w.asked, ";") != c.asked {
			t.Errorf("%s: %d %v %q", c.s, how, x.Frames[0].Stack, w.asked)
		}
	}
}

func TestTrapsP1702(t *testing.T) {
	no := world{no: true, hasKind: true}
	for _, c := range []struct {
		s    string
		in   []heap.Value
		w    world
		trap int
	}{
		{"div", []heap.Value{num(1), num(0)}, world{}, api.TDivide}, {"rem", []heap.Value{num(1), num(0)}, world{}, api.TDivide},
		{"getf 0 0", []heap.Value{ref(0)}, world{}, api.TNull}, {"getf 0 0", []heap.Value{ref(1)}, world{kind: 1, hasKind: true}, api.TKind}, {"getf 0 0", []heap.Value{ref(1)}, world{}, api.TKind}, {"putf 0 0", []heap.Value{ref(0), num(1)}, world{}, api.TNull}, {"putf 0 0", []heap.Value{ref(1), num(1)}, world{kind: -1, hasKind: true}, api.TKind},
		{"geta 1", []heap.Value{ref(0), num(9)}, world{}, api.TNull}, {"geta 1", []heap.Value{ref(1), num(9)}, world{kind: -2, hasKind: true}, api.TKind}, {"geta 2", []heap.Value{ref(1), num(9)}, world{kind: -1, hasKind: true}, api.TKind}, {"geta 1", []heap.Value{ref(1), num(4)}, world{kind: -1, hasKind: true, length: 4}, api.TBounds}, {"geta 1", []heap.Value{ref(1), num(-1)}, world{kind: -1, hasKind: true, length: 4}, api.TBounds}, {"geta 1", []heap.Value{ref(1), num(math.MinInt64)}, world{kind: -1, hasKind: true, length: 4}, api.TBounds},
		{"puta 1", []heap.Value{ref(0), num(0), num(1)}, world{}, api.TNull}, {"puta 1", []heap.Value{ref(1), num(0), num(1)}, world{kind: 0, hasKind: true}, api.TKind}, {"puta 2", []heap.Value{ref(1), num(0), ref(1)}, world{kind: -2, hasKind: true}, api.TBounds},
		{"len", []heap.Value{ref(0)}, world{}, api.TNull}, {"len", []heap.Value{ref(1)}, world{kind: 0, hasKind: true}, api.TKind}, {"len", []heap.Value{ref(1)}, world{kind: -3, hasKind: true}, api.TKind},
		{"new 0", nil, no, api.TMemory}, {"newa 1", []heap.Value{num(-1)}, world{}, api.TSize}, {"newa 1", []heap.Value{num(3)}, no, api.TMemory}, {"newa 1", []heap.Value{num(api.MaxHeap + 1)}, world{}, api.TMemory},
		{"enter", []heap.Value{ref(0)}, world{}, api.TNull}, {"exit", []heap.Value{ref(0)}, world{}, api.TNull}, {"exit", []heap.Value{ref(1)}, no, api.TMonitor}, {"spawn 3", []heap.Value{ref(1)}, no, api.TThread}, {"join", []heap.Value{num(9)}, world{}, api.TThread}, {"join", []heap.Value{num(9)}, world{done: true}, api.TThread},
	} {
		p := program(t, "nop;"+c.s+";ret")
		x := at(t, p, c.in...)
		x.Frames[0].Place = 1
		was := x.Twin()
		how, s := x.Step(p, &c.w, 5)
		if how != Trap || s != (api.Status{Kind: api.STrap, Trap: c.trap, Method: 1, Code: 1}) || !reflect.DeepEqual(x, was) {
			t.Errorf("%s: %d %+v", c.s, how, s)
		}
		if strings.HasPrefix(c.s, "newa") && !c.w.no && len(c.w.asked) > 0 || strings.Contains(c.s, "et") && len(c.w.asked) > 0 {
			t.Errorf("%s: %q", c.s, c.w.asked)
		}
	}
}

func TestWaitsP1702(t *testing.T) {
	for s, w := range map[string]*world{"enter": {no: true}, "join": {ok: true}} {
		p := program(t, s+";ret")
		x := at(t, p, ref(4))
		was := x.Twin()
		if how, st := x.Step(p, w, 5); how != Waits || st != (api.Status{}) || !reflect.DeepEqual(x, was) {
			t.Errorf("%s: %d", s, how)
		}
	}
}

func TestCallsP1702(t *testing.T) {
	p := program(t, "get 0;null;call 2;print;ret")
	x := at(t, p)
	w := &world{}
	for range 3 {
		x.Step(p, w, 2)
	}
	if len(x.Frames) != 2 || x.Frames[0].Place != 5 || len(x.Frames[0].Stack) != 0 || x.Frames[1].Method != 2 || !slices.Equal(x.Frames[1].Locals, []heap.Value{num(7), ref(0), ref(0)}) || x.Steps != 3 {
		t.Errorf("%+v", x)
	}
	x.Step(p, w, 2)
	if how, s := x.Step(p, w, 2); how != Went || s != (api.Status{}) || len(x.Frames) != 1 || !slices.Equal(x.Frames[0].Stack, []heap.Value{num(9)}) || x.Steps != 5 {
		t.Errorf("ret: %+v", x)
	}
	x.Step(p, w, 2)
	if how, s := x.Step(p, w, 2); how != Ended || s != (api.Status{}) || len(x.Frames) != 0 || x.Steps != 7 {
		t.Errorf("the first frame's ret: %+v", x)
	}
	if how, s := x.Step(p, w, 2); how != Ended || s != (api.Status{}) || x.Steps != 7 {
		t.Error("without frames nothing is done")
	}
	x = at(t, p, num(1), ref(2))
	x.Frames[0].Place = 3
	if how, s := x.Step(p, w, 1); how != Trap || s != (api.Status{Kind: api.STrap, Trap: api.TDepth, Method: 1, Code: 3}) || len(x.Frames) != 1 || len(x.Frames[0].Stack) != 2 {
		t.Errorf("depth: %d %+v", how, s)
	}
	y, _ := New(p, 0, 2, num(1), ref(2))
	y.Step(p, w, 1)
	if how, _ := y.Step(p, w, 1); how != Ended || len(y.Frames) != 0 {
		t.Error("a value of the first frame goes nowhere")
	}
}

func TestTwinP1702(t *testing.T) {
	p := program(t, "get 0;null;call 2;print;ret")
	x := at(t, p)
	for range 3 {
		x.Step(p, &world{}, 9)
	}
	y := x.Twin()
	if !reflect.DeepEqual(x, y) {
		t.Errorf("%+v %+v", x, y)
	}
	y.Frames[1].Locals[0].N = 77
	for range 4 {
		y.Step(p, &world{}, 9)
	}
	if x.Frames[1].Locals[0].N != 7 || len(x.Frames) != 2 || x.Steps != 3 || len(x.Frames[1].Stack) != 0 {
		t.Error("a twin is apart")
	}
}

func TestNothingPanicsP1(t *testing.T) {
	p := program(t, "ret")
	for c := range 256 {
		for _, a := range []byte{0, 3, 200, 255} {
			q := p
			q.Methods = slices.Clone(p.Methods)
			q.Methods[1].Code = []byte{byte(c), a, a}
			for _, frames := range [][]Frame{{{Method: 1}}, {{Method: 1, Place: 2}}, {{Method: -1}}, {{Method: 9}}, {{Method: 1, Place: -4}}, {{}, {Method: 1, Stack: []heap.Value{num(5), num(1)}}}} {
				x := &Thread{Frames: frames}
				x.Step(q, &world{hasKind: true, kind: int(a)}, 3)
				x.Step(api.Program{}, &world{}, 3)
			}
		}
	}
}
