package jit

import (
	"math"
	"slices"
	"strings"
	"testing"

	"brazier/abi"
	"brazier/api"
	"brazier/code"
	"brazier/dec"
	"brazier/layout"
	"brazier/mach"
	"brazier/mem"
	"brazier/rt"
	"brazier/sequel"
	"brazier/verify"
)

func bytesOf(t testing.TB, s string) []byte {
	t.Helper()
	b, n, e := code.Parse(strings.ReplaceAll(s, ";", "\n"))
	if e != api.OK {
		t.Fatalf("%q: line %d", s, n)
	}
	return b
}

// with tells a program: method 0 has two refs and two ints, method 1 is a thread's, the others take two ints and tell one. Class 0 has an int, a ref, and these volatile; class 1 nothing.
func with(t testing.TB, methods ...string) api.Program {
	t.Helper()
	p := api.Program{
		Pool:    []int64{math.MinInt64, math.MaxInt64, 1 << 40, 77},
		Classes: [][]api.Field{{{Type: api.TInt}, {Type: api.TRef}, {Type: api.TInt, Volatile: true}, {Type: api.TRef, Volatile: true}}, {}},
	}
	for k, s := range methods {
		m := api.Method{Locals: []int{api.TRef, api.TRef, api.TInt, api.TInt}, Stack: 12, Code: bytesOf(t, s)}
		switch k {
		case 0:
		case 1:
			m.Params = []int{api.TRef}
		default:
			m.Params, m.Ret = []int{api.TInt, api.TInt}, api.TInt
		}
		p.Methods = append(p.Methods, m)
	}
	return p
}

var usual = layout.Config{Cores: 3, Heap: 200, Depth: 8, Code: 4096}

// host is one for runs that compile nothing.
type host struct {
	t       testing.TB
	p       api.Program
	c       layout.Config
	img     rt.Image
	x       *mach.Machine
	status  api.Status
	prints  []int64
	objects []uint64
	threads int
	ended   map[int]int
	calls   []int
}

func (h *host) Call(core, n int, r api.Regs) (api.Regs, int) {
	h.calls = append(h.calls, n)
	switch n {
	case abi.Trap:
		h.status = api.Status{Kind: api.STrap, Trap: int(r.X[0]), Method: int(r.X[1]), Code: int(r.X[2])}
		return r, mach.End
	case abi.End:
		h.ended[core] = 1
		if len(h.ended) == h.threads {
			h.status.Kind = api.SDone
		}
		return r, mach.End
	case abi.New:
		h.objects = append(h.objects, r.X[0])
	case abi.Print:
		h.prints = append(h.prints, int64(r.X[1]))
	case abi.Hot:
		r.X[0] = 0
	case abi.Spawn:
		r.X[0] = h.start(int(r.X[3]), r.X[1])
	case abi.Join:
		id := int(r.X[1])
		if id < 0 || id >= h.threads || id == core {
			r.X[0] = 0
			return r, mach.Go
		}
		if h.ended[id] == 0 {
			return r, mach.Wait
		}
		r.X[0] = 1
	default:
		h.t.Errorf("call %d", n)
	}
	return r, mach.Go
}

func (h *host) start(method int, arg uint64) uint64 {
	k := h.threads
	if k >= h.c.Cores {
		return 0
	}
	r, e := rt.Begin(h.p, h.c, h.img, k, method, arg)
	if e != api.OK {
		h.t.Fatal(e)
	}
	if e := h.x.Start(k, h.img.Begin, r); e != api.OK {
		h.t.Fatal(e)
	}
	h.threads++
	return uint64(k)
}

// begun tells a run of which those methods are compiled from the beginning on that compiles says yes to.
func begun(t testing.TB, p api.Program, c layout.Config, compiles func(m int) bool) *host {
	t.Helper()
	img, e := rt.Build(p, c)
	if e != api.OK {
		t.Fatal(e)
	}
	m, _ := mem.New(layout.Regions(c)...)
	load(m, layout.Image, img.Words)
	m.Load(layout.Tables, img.Tables)
	at := uint64(layout.Code)
	for k := range p.Methods {
		if !compiles(k) {
			continue
		}
		words, e := Compile(p, c, img, k, at)
		if e != api.OK || len(words) > Size(p, k) {
			t.Fatalf("method %d: %v, %d words of %d", k, e, len(words), Size(p, k))
		}
		load(m, at, words)
		m.Write(img.Entries+8*uint64(k), at)
		at += 4 * uint64(Size(p, k))
	}
	x, _ := mach.New(m, c.Cores)
	h := &host{t: t, p: p, c: c, img: img, x: x, ended: map[int]int{}}
	h.start(0, 0)
	return h
}

func load(m *mem.Memory, at uint64, words []uint32) {
	for k, w := range words {
		m.Load(at+4*uint64(k), []byte{byte(w), byte(w >> 8), byte(w >> 16), byte(w >> 24)})
	}
}

// run drives a program to its end.
func run(t testing.TB, p api.Program, c layout.Config, compiles func(m int) bool) *host {
	t.Helper()
	h := begun(t, p, c, compiles)
	for range 200000 {
		if h.status.Kind != api.SRuns || h.x.Drive(h, 1) == 0 {
			break
		}
	}
	for k := range c.Cores {
		if h.x.Fault(k) {
			t.Fatalf("core %d is at fault at %x", k, h.x.Window(k)[0].Pc)
		}
	}
	return h
}

const countdown = "small 5;set 2;get 2;print;get 2;small -1;add;dup;set 2;if -11;"

// programs of one thread: all bytecodes, and all traps.
var programs = [][]string{
	{"ret"}, {"nop;small -1;print;const 0;print;const 1;print;const 2;neg;print;ret"}, {countdown + "ret"},
	{"small 7;small 3;add;print;small 7;small 3;sub;print;small 7;small -3;mul;print;small -7;small 2;div;print;small -7;small 2;rem;print;const 0;small -1;div;print;const 0;small -1;rem;print;ret"},
	{"small 12;small 10;and;print;small 12;small 10;or;print;small 12;small 10;xor;print;small -12;small 66;shl;print;small -12;small 1;shr;print;small -12;small 1;ushr;print;const 0;neg;print;ret"},
	{"small 1;small 2;lt;print;small 2;small 1;lt;print;const 0;const 1;lt;print;const 1;const 0;lt;print;small 4;small 4;eq;print;small 4;small 5;eq;print;null;null;same;print;new 0;null;same;print;null;isnull;print;new 1;isnull;print;ret"},
	{"small 1;small 2;swap;print;print;small 9;dup;print;drop;jump 4;ret;jump 3;ret"},
	{"small 1;small 2;call 2;print;ret", "ret", "get 0;get 1;small 10;mul;add;get 5;add;ret"}, {"small 6;small 1;call 2;print;ret", "ret", "get 0;if 6;get 1;ret;get 0;small -1;add;get 0;get 1;mul;call 2;ret"}, {"small 8;small 1;call 2;print;ret", "ret", "get 0;if 6;get 1;ret;get 0;small -1;add;get 0;get 1;mul;call 2;ret"},
	{"small 5;set 2;small 9;set 3;small 7;small 1;small 2;call 2;get 2;add;print;get 3;print;print;ret", "ret", "get 0;set 5;get 0;get 1;call 3;get 5;add;get 1;sub;ret", "small 33;set 5;get 0;get 1;mul;get 5;add;ret"},
	{"call 0;ret"}, {"null;call 1;small 3;print;ret", "get 0;isnull;print;ret"}, {"small 99;drop;null;call 1;ret", "get 3;print;get 4;print;get 1;isnull;print;ret"},
	{"new 0;set 0;get 0;small 7;putf 0 0;get 0;getf 0 0;print;get 0;get 0;putf 0 1;get 0;getf 0 1;get 0;same;print;get 0;small 8;putf 0 2;get 0;getf 0 2;print;get 0;get 0;putf 0 3;get 0;getf 0 3;get 0;same;print;get 0;getf 0 0;print;ret"},
	{"small 3;newa 1;set 0;get 0;len;print;get 0;small 2;small 9;puta 1;get 0;small 2;geta 1;print;get 0;small 0;geta 1;print;small 2;newa 2;set 1;get 1;small 1;get 0;puta 2;get 1;small 1;geta 2;get 0;same;print;ret"},
	{"new 0;set 0;get 0;enter;get 0;enter;get 0;exit;get 0;exit;new 1;enter;new 1;exit;ret"}, {"new 0;drop;jump -3"}, {"small 60;newa 1;drop;jump -5"}, {"small 0;newa 2;drop;jump -5"},
	{"null;getf 0 0;print;ret"}, {"new 1;getf 0 0;print;ret"}, {"null;small 1;putf 0 0;ret"}, {"small 1;newa 1;small 1;putf 0 2;ret"}, {"null;getf 0 3;drop;ret"}, {"new 1;null;putf 0 3;ret"}, {"null;small 1;geta 1;drop;ret"}, {"new 0;small 1;geta 1;drop;ret"}, {"small 2;newa 2;small 1;geta 1;drop;ret"}, {"small 2;newa 1;small 2;geta 1;drop;ret"}, {"small 2;newa 1;small -1;geta 1;drop;ret"}, {"small 2;newa 1;const 0;small 5;puta 1;ret"}, {"null;small 0;small 1;puta 1;ret"}, {"small 2;newa 2;small 7;null;puta 2;ret"},
	{"null;len;drop;ret"}, {"new 0;len;drop;ret"}, {"small -1;newa 1;drop;ret"}, {"const 1;newa 1;drop;ret"}, {"const 0;newa 2;drop;ret"}, {"small 1;small 0;div;drop;ret"}, {"small 1;small 0;rem;drop;ret"}, {"null;enter;null;exit;ret"}, {"new 0;set 0;get 0;enter;null;exit;ret"}, {"small 0;join;ret"}, {"small 1;join;ret"}, {"const 0;join;ret"},
	{"nop;nop;small 1;small 2;call 2;drop;ret", "ret", "nop;small 1;small 0;div;ret"},
}

func all(int) bool    { return true }
func odd(m int) bool  { return m%2 == 1 }
func even(m int) bool { return m%2 == 0 }

func TestDoesWhatTheInterpreterDoesP2501(t *testing.T) {
	for _, methods := range programs {
		p := with(t, methods...)
		want, e := sequel.Run(p, sequel.Config{Heap: usual.Heap, Depth: usual.Depth}, 100000)
		if e != api.OK {
			t.Fatalf("%q: %v", methods, e)
		}
		for n, compiles := range []func(int) bool{all, odd, even} {
			h := run(t, p, usual, compiles)
			if h.status != want.Status || !slices.Equal(h.prints, want.Prints) {
				t.Errorf("%q, %d: %+v %v, not %+v %v", methods, n, h.status, h.prints, want.Status, want.Prints)
			}
			took := len(h.x.Took(0))
			if took > 300*(want.Steps+1)+1200 || took < want.Steps {
				t.Errorf("%q: %d instructions for %d bytecodes", methods, took, want.Steps)
			}
		}
	}
}

func TestAccessesP2501(t *testing.T) {
	h := run(t, with(t, "new 0;set 0;get 0;small 7;putf 0 0;get 0;getf 0 0;drop;get 0;small 8;putf 0 2;get 0;getf 0 2;drop;small 2;newa 2;set 1;get 1;small 1;get 0;puta 2;get 1;small 1;geta 2;drop;get 0;enter;get 0;enter;get 0;exit;get 0;exit;ret"), usual, all)
	const one, two = layout.Heap, layout.Heap + 56
	type short struct {
		op          int
		addr, value uint64
	}
	want := []short{
		{api.STR, one, 1}, {api.STR, one + 8, 4}, {api.STR, one + 24, 7}, {api.LDR, one + 24, 7}, {api.STLR, one + 40, 8}, {api.LDAR, one + 40, 8}, {api.STR, two, 1<<32 + 2}, {api.STR, two + 8, 2}, {api.STRR, two + 32, one}, {api.LDRR, two + 32, one},
		{api.STXR, one + 16, 1<<32 + 1}, {api.STXR, one + 16, 1<<32 + 2}, {api.STLR, one + 16, 1<<32 + 1}, {api.STLR, one + 16, 0},
	}
	var got []short
	for _, a := range h.x.Log() {
		if w := layout.Which(h.c, a.Addr); w < 2 || w > 4 {
			t.Errorf("an access at %x", a.Addr)
		} else if w < 4 {
			continue
		}
		head := a.Addr < one+24 || a.Addr >= two && a.Addr < two+24
		if head && (a.Op == api.LDR || a.Op == api.LDXR) {
			continue
		}
		got = append(got, short{a.Op, a.Addr, a.Value})
	}
	if !slices.Equal(got, want) || h.status.Kind != api.SDone {
		t.Errorf("%x", got)
	}
	for _, k := range h.x.Took(0) {
		if op := dec.Ins(k.Word).Op; op == api.LDRB {
			t.Fatal("a bytecode is interpreted")
		}
	}
}

func TestThreadsP2501(t *testing.T) {
	p := with(t, "new 0;set 0;get 0;spawn 1;get 0;spawn 1;join;join;get 0;getf 0 0;print;ret", "small 5;set 3;get 0;enter;get 0;get 0;getf 0 0;small 1;add;putf 0 0;get 0;exit;get 3;small -1;add;dup;set 3;if -27;ret")
	for _, compiles := range []func(int) bool{all, odd, even} {
		h := run(t, p, usual, compiles)
		if h.status != (api.Status{Kind: api.SDone}) || !slices.Equal(h.prints, []int64{10}) {
			t.Errorf("%+v %v", h.status, h.prints)
		}
	}
}

func TestTooManyThreadsP2501(t *testing.T) {
	h := run(t, with(t, "new 0;spawn 1;drop;null;spawn 1;drop;new 0;spawn 1;drop;ret", "ret"), usual, all)
	if h.status != (api.Status{Kind: api.STrap, Trap: api.TThread, Code: 11}) {
		t.Errorf("%+v", h.status)
	}
}

func TestCompileWrongP2501(t *testing.T) {
	p := with(t, "ret", "ret")
	img, _ := rt.Build(p, usual)
	for _, c := range []struct {
		p      api.Program
		c      layout.Config
		method int
		at     uint64
		want   api.Errno
	}{
		{p, usual, 0, layout.Code, api.OK}, {p, usual, -1, layout.Code, api.ErrArg}, {p, usual, 2, layout.Code, api.ErrArg}, {p, usual, math.MinInt, layout.Code, api.ErrArg}, {p, usual, 0, layout.Code + 4, api.ErrArg}, {p, usual, 0, layout.Code + 32, api.ErrArg}, {p, usual, 0, layout.Code - 64, api.ErrArg}, {p, usual, 0, layout.Image, api.ErrArg}, {p, usual, 0, layout.Code + 4*4096, api.ErrArg}, {p, usual, 1, layout.Code + 4*4096 - 64, api.OK}, {p, layout.Config{}, 0, layout.Code, api.ErrArg},
		{with(t, "add"), usual, 0, layout.Code, api.ErrStack}, {with(t, "add"), usual, 1, layout.Code, api.ErrArg}, {with(t, "ret", "nop"), usual, 0, layout.Code, api.ErrEnd},
	} {
		if l, e := Compile(c.p, c.c, img, c.method, c.at); e != c.want || (l != nil) != (e == api.OK) {
			t.Errorf("Compile(%d, %x): %v", c.method, c.at, e)
		}
		if m, e := Starts(c.p, c.c, img, c.method, c.at); e != c.want || (m != nil) != (e == api.OK) {
			t.Errorf("Starts(%d, %x): %v", c.method, c.at, e)
		}
	}
	if Size(p, -1) != 0 || Size(p, 2) != 0 || Size(api.Program{}, 0) != 0 || Size(with(t, "add"), 1) != 0 {
		t.Error("Size of no method")
	}
}

func TestStartsP2501P2502(t *testing.T) {
	for _, methods := range programs {
		p := with(t, methods...)
		img, _ := rt.Build(p, usual)
		for m := range p.Methods {
			_, has, _ := verify.Shapes(p, m)
			a, _ := Compile(p, usual, img, m, layout.Code)
			b, _ := Compile(p, usual, img, m, layout.Code+4096)
			x, _ := Starts(p, usual, img, m, layout.Code)
			y, _ := Starts(p, usual, img, m, layout.Code+4096)
			if n := Size(p, m); len(a) != len(b) || len(a) > n || n%16 != 0 || len(x) != len(y) {
				t.Errorf("%q: %d and %d words of %d", methods, len(a), len(b), n)
			}
			for k, w := range a {
				if !dec.Right(w) || !dec.Right(b[k]) {
					t.Errorf("%q: word %d is %08X", methods, k, w)
				}
			}
			last := uint64(0)
			for place, is := range has {
				addr, ok := x[place]
				if ok != is || ok && (addr <= last || addr%4 != 0 || addr < layout.Code || addr >= layout.Code+4*uint64(len(a)) || y[place] != addr+4096) {
					t.Errorf("%q: place %d begins at %x", methods, place, addr)
				}
				if ok {
					last = addr
				}
			}
		}
	}
}

func TestLongMethodsP2501(t *testing.T) {
	for _, s := range []string{"get 0;len;drop;", "get 0;small 1;geta 1;drop;", "small 3;newa 1;drop;", "get 2;get 3;div;drop;", "get 0;get 2;putf 0 2;", "get 0;enter;get 0;exit;", "const 1;drop;", "get 2;get 3;call 2;drop;"} {
		b := bytesOf(t, strings.Repeat(s, 4000/len(bytesOf(t, s)))+"ret")
		p := with(t, "ret", "ret", "get 0;ret")
		p.Methods[0].Code = b
		c := usual
		c.Code = api.MaxWords
		img, e := rt.Build(p, c)
		if e != api.OK {
			t.Fatal(e)
		}
		if l, e := Compile(p, c, img, 0, layout.Code); e != api.OK || len(l) > Size(p, 0) || Size(p, 0) > api.MaxWords {
			t.Errorf("%s: %v, %d words", s, e, len(l))
		}
	}
}

func TestNothingIsChangedP2(t *testing.T) {
	p := with(t, programs[7]...)
	img, _ := rt.Build(p, usual)
	words, tables := slices.Clone(img.Words), slices.Clone(img.Tables)
	a, _ := Compile(p, usual, img, 2, layout.Code)
	a[0]++
	b, _ := Compile(p, usual, img, 2, layout.Code)
	if b[0] == a[0] || !slices.Equal(words, img.Words) || !slices.Equal(tables, img.Tables) {
		t.Error("what is told is not new memory")
	}
}
