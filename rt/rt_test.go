package rt

import (
	"math"
	"slices"
	"strings"
	"testing"

	"brazier/abi"
	"brazier/api"
	"brazier/code"
	"brazier/dec"
	"brazier/layout"
	"brazier/mach"
	"brazier/mem"
	"brazier/sequel"
)

func bytesOf(t testing.TB, s string) []byte {
	t.Helper()
	b, n, e := code.Parse(strings.ReplaceAll(s, ";", "\n"))
	if e != api.OK {
		t.Fatalf("%q: line %d", s, n)
	}
	return b
}

// with tells a program: method 0 has two refs and two ints, method 1 is a thread's, the others take two ints and tell one. Class 0 has an int, a ref, and these volatile; class 1 nothing.
func with(t testing.TB, methods ...string) api.Program {
	t.Helper()
	p := api.Program{
		Pool:    []int64{math.MinInt64, math.MaxInt64, 1 << 40, 77},
		Classes: [][]api.Field{{{Type: api.TInt}, {Type: api.TRef}, {Type: api.TInt, Volatile: true}, {Type: api.TRef, Volatile: true}}, {}},
	}
	for k, s := range methods {
		m := api.Method{Locals: []int{api.TRef, api.TRef, api.TInt, api.TInt}, Stack: 12, Code: bytesOf(t, s)}
		switch k {
		case 0:
		case 1:
			m.Params = []int{api.TRef}
		default:
			m.Params, m.Ret = []int{api.TInt, api.TInt}, api.TInt
		}
		p.Methods = append(p.Methods, m)
	}
	return p
}

var usual = layout.Config{Cores: 3, Heap: 200, Depth: 8, Code: 0}

// host is one for runs that compile nothing.
type host struct {
	t       testing.TB
	p       api.Program
	c       layout.Config
	img     Image
	x       *mach.Machine
	status  api.Status
	prints  []int64
	objects []uint64
	threads int
	ended   map[int]int
	calls   []int
}

func (h *host) Call(core, n int, r api.Regs) (api.Regs, int) {
	h.calls = append(h.calls, n)
	switch n {
	case abi.Trap:
		h.status = api.Status{Kind: api.STrap, Trap: int(r.X[0]), Method: int(r.X[1]), Code: int(r.X[2])}
		return r, mach.End
	case abi.End:
		h.ended[core] = 1
		if len(h.ended) == h.threads {
			h.status.Kind = api.SDone
		}
		return r, mach.End
	case abi.New:
		h.objects = append(h.objects, r.X[0])
	case abi.Print:
		h.prints = append(h.prints, int64(r.X[1]))
	case abi.Hot:
		r.X[0] = 0
	case abi.Spawn:
		r.X[0] = h.start(int(r.X[3]), r.X[1])
	case abi.Join:
		id := int(r.X[1])
		if id < 0 || id >= h.threads || id == core {
			r.X[0] = 0
			return r, mach.Go
		}
		if h.ended[id] == 0 {
			return r, mach.Wait
		}
		r.X[0] = 1
	default:
		h.t.Errorf("call %d", n)
	}
	return r, mach.Go
}

func (h *host) start(method int, arg uint64) uint64 {
	k := h.threads
	if k >= h.c.Cores {
		return 0
	}
	r, e := Begin(h.p, h.c, h.img, k, method, arg)
	if e != api.OK {
		h.t.Fatal(e)
	}
	if e := h.x.Start(k, h.img.Begin, r); e != api.OK {
		h.t.Fatal(e)
	}
	h.threads++
	return uint64(k)
}

func begun(t testing.TB, p api.Program, c layout.Config) *host {
	t.Helper()
	img, e := Build(p, c)
	if e != api.OK {
		t.Fatal(e)
	}
	m, _ := mem.New(layout.Regions(c)...)
	for k, w := range img.Words {
		m.Load(layout.Image+4*uint64(k), []byte{byte(w), byte(w >> 8), byte(w >> 16), byte(w >> 24)})
	}
	m.Load(layout.Tables, img.Tables)
	x, _ := mach.New(m, c.Cores)
	h := &host{t: t, p: p, c: c, img: img, x: x, ended: map[int]int{}}
	h.start(0, 0)
	return h
}

// run drives a program to its end.
func run(t testing.TB, p api.Program, c layout.Config) *host {
	t.Helper()
	h := begun(t, p, c)
	for range 200000 {
		if h.status.Kind != api.SRuns || h.x.Drive(h, 1) == 0 {
			break
		}
	}
	for k := range c.Cores {
		if h.x.Fault(k) {
			t.Fatalf("core %d is at fault at %x", k, h.x.Window(k)[0].Pc)
		}
	}
	return h
}

const countdown = "small 5;set 2;get 2;print;get 2;small -1;add;dup;set 2;if -11;"

// programs of one thread: all bytecodes, and all traps.
var programs = [][]string{
	{"ret"}, {"nop;small -1;print;const 0;print;const 1;print;const 2;neg;print;ret"}, {countdown + "ret"},
	{"small 7;small 3;add;print;small 7;small 3;sub;print;small 7;small -3;mul;print;small -7;small 2;div;print;small -7;small 2;rem;print;const 0;small -1;div;print;const 0;small -1;rem;print;ret"},
	{"small 12;small 10;and;print;small 12;small 10;or;print;small 12;small 10;xor;print;small -12;small 66;shl;print;small -12;small 1;shr;print;small -12;small 1;ushr;print;const 0;neg;print;ret"},
	{"small 1;small 2;lt;print;small 2;small 1;lt;print;const 0;const 1;lt;print;const 1;const 0;lt;print;small 4;small 4;eq;print;small 4;small 5;eq;print;null;null;same;print;new 0;null;same;print;null;isnull;print;new 1;isnull;print;ret"},
	{"small 1;small 2;swap;print;print;small 9;dup;print;drop;jump 4;ret;jump 3;ret"},
	{"small 1;small 2;call 2;print;ret", "ret", "get 0;get 1;small 10;mul;add;get 5;add;ret"}, {"small 6;small 1;call 2;print;ret", "ret", "get 0;if 6;get 1;ret;get 0;small -1;add;get 0;get 1;mul;call 2;ret"}, {"small 8;small 1;call 2;print;ret", "ret", "get 0;if 6;get 1;ret;get 0;small -1;add;get 0;get 1;mul;call 2;ret"},
	{"small 5;set 2;small 9;set 3;small 7;small 1;small 2;call 2;get 2;add;print;get 3;print;print;ret", "ret", "get 0;set 5;get 0;get 1;call 3;get 5;add;get 1;sub;ret", "small 33;set 5;get 0;get 1;mul;get 5;add;ret"},
	{"call 0;ret"}, {"null;call 1;small 3;print;ret", "get 0;isnull;print;ret"}, {"small 99;drop;null;call 1;ret", "get 3;print;get 4;print;get 1;isnull;print;ret"},
	{"new 0;set 0;get 0;small 7;putf 0 0;get 0;getf 0 0;print;get 0;get 0;putf 0 1;get 0;getf 0 1;get 0;same;print;get 0;small 8;putf 0 2;get 0;getf 0 2;print;get 0;get 0;putf 0 3;get 0;getf 0 3;get 0;same;print;get 0;getf 0 0;print;ret"},
	{"small 3;newa 1;set 0;get 0;len;print;get 0;small 2;small 9;puta 1;get 0;small 2;geta 1;print;get 0;small 0;geta 1;print;small 2;newa 2;set 1;get 1;small 1;get 0;puta 2;get 1;small 1;geta 2;get 0;same;print;ret"},
	{"new 0;set 0;get 0;enter;get 0;enter;get 0;exit;get 0;exit;new 1;enter;new 1;exit;ret"}, {"new 0;drop;jump -3"}, {"small 60;newa 1;drop;jump -5"}, {"small 0;newa 2;drop;jump -5"},
	{"null;getf 0 0;print;ret"}, {"new 1;getf 0 0;print;ret"}, {"null;small 1;putf 0 0;ret"}, {"small 1;newa 1;small 1;putf 0 2;ret"}, {"null;getf 0 3;drop;ret"}, {"new 1;null;putf 0 3;ret"}, {"null;small 1;geta 1;drop;ret"}, {"new 0;small 1;geta 1;drop;ret"}, {"small 2;newa 2;small 1;geta 1;drop;ret"}, {"small 2;newa 1;small 2;geta 1;drop;ret"}, {"small 2;newa 1;small -1;geta 1;drop;ret"}, {"small 2;newa 1;const 0;small 5;puta 1;ret"}, {"null;small 0;small 1;puta 1;ret"}, {"small 2;newa 2;small 7;null;puta 2;ret"},
	{"null;len;drop;ret"}, {"new 0;len;drop;ret"}, {"small -1;newa 1;drop;ret"}, {"const 1;newa 1;drop;ret"}, {"const 0;newa 2;drop;ret"}, {"small 1;small 0;div;drop;ret"}, {"small 1;small 0;rem;drop;ret"}, {"null;enter;null;exit;ret"}, {"new 0;set 0;get 0;enter;null;exit;ret"}, {"small 0;join;ret"}, {"small 1;join;ret"}, {"const 0;join;ret"},
	{"nop;nop;small 1;small 2;call 2;drop;ret", "ret", "nop;small 1;small 0;div;ret"},
}

func TestInterpretsP2403(t *testing.T) {
	for _, methods := range programs {
		p := with(t, methods...)
		want, e := sequel.Run(p, sequel.Config{Heap: usual.Heap, Depth: usual.Depth}, 100000)
		if e != api.OK {
			t.Fatalf("%q: %v", methods, e)
		}
		h := run(t, p, usual)
		if h.status != want.Status || !slices.Equal(h.prints, want.Prints) {
			t.Errorf("%q: %+v %v, not %+v %v", methods, h.status, h.prints, want.Status, want.Prints)
		}
		took := len(h.x.Took(0))
		if took > 300*(want.Steps+1)+1200 || took < want.Steps {
			t.Errorf("%q: %d instructions for %d bytecodes", methods, took, want.Steps)
		}
	}
}

func TestBuildP2401(t *testing.T) {
	p := with(t, "ret")
	for _, c := range []layout.Config{{}, {Cores: 5, Depth: 1}, {Cores: 1, Depth: 1, Code: 8}} {
		if img, e := Build(with(t, "add"), c); e != api.ErrArg || img.Words != nil || img.Tables != nil {
			t.Errorf("%+v: %v", c, e)
		}
	}
	if _, e := Build(with(t, "add"), usual); e != api.ErrStack {
		t.Error(e)
	}
	if _, e := Build(api.Program{}, usual); e != api.ErrNone {
		t.Error(e)
	}
	big := p
	for range 99 {
		big.Methods = append(big.Methods, api.Method{Code: append(make([]byte, 4095), 28)})
	}
	if img, e := Build(big, usual); e != api.ErrFull || img.Words != nil {
		t.Errorf("what does not fit: %v", e)
	}
	big.Methods = big.Methods[:60]
	if _, e := Build(big, usual); e != api.OK {
		t.Errorf("what fits: %v", e)
	}
}

func TestImageP2401(t *testing.T) {
	p := with(t, programs[7]...)
	img, e := Build(p, usual)
	if e != api.OK {
		t.Fatal(e)
	}
	for k, w := range img.Words {
		if !dec.Right(w) {
			t.Errorf("word %d: %08X", k, w)
		}
	}
	end := layout.Image + 4*uint64(len(img.Words))
	isIn := func(addr uint64) bool { return layout.Image <= addr && addr < end && addr%4 == 0 }
	if !isIn(img.Begin) || !isIn(img.Enter) || !isIn(img.Lo) || !isIn(img.Hi) || img.Lo >= img.Hi {
		t.Errorf("%x %x %x %x", img.Begin, img.Enter, img.Lo, img.Hi)
	}
	if img.Entries < layout.Tables || img.Entries+8*uint64(len(p.Methods)) > layout.Tables+layout.TableSize || img.Entries%8 != 0 {
		t.Errorf("entries at %x", img.Entries)
	}
	again, _ := Build(p, usual)
	if !slices.Equal(again.Words, img.Words) || !slices.Equal(again.Tables, img.Tables) {
		t.Error("the same program and config, another image")
	}
	other, _ := Build(with(t, "ret"), usual)
	if !slices.Equal(other.Words, img.Words) || other.Begin != img.Begin || other.Lo != img.Lo || other.Hi != img.Hi || other.Enter != img.Enter || other.Entries != img.Entries {
		t.Error("the words hang on the program")
	}
	was := p.Methods[0].Code[0]
	img.Tables[len(img.Tables)-1]++
	img.Words[0]++
	if third, _ := Build(p, usual); third.Words[0] == img.Words[0] || p.Methods[0].Code[0] != was {
		t.Error("what is told is not new memory")
	}
}

func TestBeginP2402(t *testing.T) {
	p := with(t, "ret", "ret")
	img, _ := Build(p, usual)
	for _, c := range []struct{ core, method int }{{-1, 0}, {3, 0}, {0, -1}, {0, 2}, {math.MaxInt, 0}, {0, math.MinInt}} {
		if r, e := Begin(p, usual, img, c.core, c.method, 7); e != api.ErrArg || r != (api.Regs{}) {
			t.Errorf("%+v: %v", c, e)
		}
	}
	if _, e := Begin(p, layout.Config{}, img, 0, 0, 7); e != api.ErrArg {
		t.Error("no config")
	}
	for core := range 3 {
		for method := range 2 {
			if r, e := Begin(p, usual, img, core, method, 7); e != api.OK || r == (api.Regs{}) {
				t.Errorf("core %d: %v", core, e)
			}
		}
	}
	a, _ := Begin(p, usual, img, 0, 0, 7)
	b, _ := Begin(p, usual, img, 0, 0, 8)
	if a != b {
		t.Error("an argument of a method that has none")
	}
}

// heapAccesses tells those of the heap, but loads of first words and of monitors.
func heapAccesses(h *host) (l []api.Access) {
	for _, a := range h.x.Log() {
		if layout.Which(h.c, a.Addr) == 4 {
			l = append(l, a)
		}
	}
	return l
}

func TestAccessesP2403(t *testing.T) {
	h := run(t, with(t, "new 0;set 0;get 0;small 7;putf 0 0;get 0;getf 0 0;drop;get 0;small 8;putf 0 2;get 0;getf 0 2;drop;small 2;newa 2;set 1;get 1;small 1;get 0;puta 2;get 1;small 1;geta 2;drop;get 0;enter;get 0;enter;get 0;exit;get 0;exit;ret"), usual)
	const one, two = layout.Heap, layout.Heap + 56
	if !slices.Equal(h.objects, []uint64{one, two}) || h.status.Kind != api.SDone {
		t.Fatalf("%x", h.objects)
	}
	type short struct {
		op          int
		addr, value uint64
	}
	want := []short{
		{api.STR, one, 1}, {api.STR, one + 8, 4}, {api.STRR, one + 24, 7}, {api.LDRR, one + 24, 7}, {api.STLR, one + 40, 8}, {api.LDAR, one + 40, 8}, {api.STR, two, 1<<32 + 2}, {api.STR, two + 8, 2}, {api.STRR, two + 32, one}, {api.LDRR, two + 32, one},
		{api.STXR, one + 16, 1<<32 + 1}, {api.STXR, one + 16, 1<<32 + 2}, {api.STLR, one + 16, 1<<32 + 1}, {api.STLR, one + 16, 0},
	}
	var got []short
	for _, a := range heapAccesses(h) {
		head := (a.Addr-one)%56 < 24 && a.Addr < two || a.Addr >= two && a.Addr < two+24
		if head && (a.Op == api.LDR || a.Op == api.LDXR) {
			continue
		}
		got = append(got, short{a.Op, a.Addr, a.Value})
	}
	if !slices.Equal(got, want) {
		t.Errorf("%x", got)
	}
	for _, a := range h.x.Log() {
		if w := layout.Which(h.c, a.Addr); w < 2 || w > 4 {
			t.Errorf("an access at %x", a.Addr)
		}
	}
	took := h.x.Took(0)
	entries := 0
	for _, a := range h.x.Log() {
		if a.Op == api.LDAR && a.Addr >= h.img.Entries && a.Addr < h.img.Entries+8*uint64(len(h.p.Methods)) {
			entries++
			at := slices.IndexFunc(took, func(k mach.Took) bool { return k.Pc == a.Pc })
			if dec.Ins(took[at+1].Word).Op != api.ISB {
				t.Error("no ISB behind it")
			}
		}
	}
	if entries != 1 {
		t.Errorf("%d entries are loaded by LDAR", entries)
	}
}

// deep tells a program of the greatest frames there are, that calls itself until it may not.
func deep() api.Program {
	var b []byte
	for range 40 {
		b = append(b, 4, 0) // get 0
	}
	b = append(b, 27, 0) // call 0
	for range 40 {
		b = append(b, 7)
	}
	b = append(b, 28)
	return api.Program{Methods: []api.Method{{Locals: slices.Repeat([]int{api.TInt}, 40), Stack: 40, Code: b}}}
}

func TestDeepP2403(t *testing.T) {
	for _, depth := range []int{1, 2, 200} {
		c := layout.Config{Cores: 4, Heap: 1, Depth: depth}
		h := run(t, deep(), c)
		if h.status != (api.Status{Kind: api.STrap, Trap: api.TDepth, Code: 80}) {
			t.Errorf("depth %d: %+v", depth, h.status)
		}
		lo, hi := layout.Stack(0)
		for _, a := range h.x.Log() {
			if layout.Which(c, a.Addr) == 3 && (a.Addr < lo || a.Addr >= hi) {
				t.Fatalf("another core's stack: %x", a.Addr)
			}
		}
		if n := len(h.x.Took(0)); n > 300*(41*depth+1)+1200 {
			t.Errorf("depth %d: %d instructions", depth, n)
		}
	}
}

func TestInstructionsOfACallP2401(t *testing.T) {
	h := begun(t, deep(), layout.Config{Cores: 1, Heap: 1, Depth: 200})
	calls, last := 0, 0
	for h.status.Kind == api.SRuns && h.x.Drive(h, 1) > 0 {
		if len(h.calls) > calls {
			calls = len(h.calls)
			n := len(h.x.Took(0))
			if n-last > 41*60+300 {
				t.Fatalf("%d instructions from call to call", n-last)
			}
			last = n
		}
	}
}

func TestThreadsP2403(t *testing.T) {
	for _, c := range []struct {
		main, thread string
		want         api.Status
		prints       []int64
	}{
		{"new 0;set 0;get 0;spawn 1;get 0;spawn 1;join;join;get 0;getf 0 0;print;ret", "small 5;set 3;get 0;enter;get 0;get 0;getf 0 0;small 1;add;putf 0 0;get 0;exit;get 3;small -1;add;dup;set 3;if -27;ret", api.Status{Kind: api.SDone}, []int64{10}},
		{"new 0;set 0;get 0;spawn 1;drop;get 0;getf 0 2;if 6;jump -8;get 0;getf 0 0;print;ret", "get 0;small 42;putf 0 0;get 0;small 1;putf 0 2;ret", api.Status{Kind: api.SDone}, []int64{42}},
		{"null;spawn 1;drop;null;spawn 1;drop;null;spawn 1;drop;ret", "ret", api.Status{Kind: api.STrap, Trap: api.TThread, Code: 9}, nil},
		{"new 0;spawn 1;join;ret", "new 0;enter;get 0;exit;ret", api.Status{Kind: api.STrap, Trap: api.TMonitor, Method: 1, Code: 5}, nil},
	} {
		h := run(t, with(t, c.main, c.thread), usual)
		if h.status != c.want || !slices.Equal(h.prints, c.prints) && c.prints != nil {
			t.Errorf("%q: %+v %v", c.main, h.status, h.prints)
		}
	}
}
