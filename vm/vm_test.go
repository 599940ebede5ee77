package vm

import (
	"errors"
	"math"
	"slices"
	"strings"
	"testing"

	"brazier/api"
	"brazier/cache"
	"brazier/class"
	"brazier/code"
	"brazier/dec"
	"brazier/jit"
	"brazier/judge"
	"brazier/layout"
	"brazier/mach"
	"brazier/sem2"
	"brazier/sequel"
)

var _ cache.Checker = (*run)(nil)

func bytesOf(t testing.TB, s string) []byte {
	t.Helper()
	b, n, e := code.Parse(strings.ReplaceAll(s, ";", "\n"))
	if e != api.OK {
		t.Fatalf("%q: line %d", s, n)
	}
	return b
}

// with tells a program: method 0 has two refs and two ints, method 1 is a thread's, the others take two ints and tell one. Class 0 has an int, a ref, and these volatile; class 1 nothing.
func with(t testing.TB, methods ...string) api.Program {
	t.Helper()
	p := api.Program{
		Pool:    []int64{math.MinInt64, math.MaxInt64, 1 << 40, 77},
		Classes: [][]api.Field{{{Type: api.TInt}, {Type: api.TRef}, {Type: api.TInt, Volatile: true}, {Type: api.TRef, Volatile: true}}, {}},
	}
	for k, s := range methods {
		m := api.Method{Locals: []int{api.TRef, api.TRef, api.TInt, api.TInt}, Stack: 12, Code: bytesOf(t, s)}
		switch k {
		case 0:
		case 1:
			m.Params = []int{api.TRef}
		default:
			m.Params, m.Ret = []int{api.TInt, api.TInt}, api.TInt
		}
		p.Methods = append(p.Methods, m)
	}
	return p
}

var usual = layout.Config{Cores: 3, Heap: 200, Depth: 8, Code: 2048}

func made(t testing.TB, p api.Program, c layout.Config) *VM {
	t.Helper()
	v, err := New(p, c)
	if err != nil {
		t.Fatal(err)
	}
	return v
}

// judged holds what a run tells against chapter 21.
func judged(t testing.TB, p api.Program, c layout.Config, v *VM) {
	t.Helper()
	x := judge.Claim{Status: v.Status(), Prints: v.Prints(), Events: v.Events()}
	if err := judge.Check(p, sem2.Config{Heap: c.Heap, Depth: c.Depth, Threads: c.Cores}, x); err != nil {
		t.Fatalf("%v: %+v %v", err, x.Status, x.Events)
	}
}

// sound holds it against T2 and T5, and sees that no core is at fault.
func sound(t testing.TB, c layout.Config, v *VM) {
	t.Helper()
	m, img := v.Machine(), v.Image()
	told := map[uint64]uint32{}
	for _, p := range v.Pieces() {
		for k, w := range p.Words {
			if p.State == cache.Told {
				told[p.At+4*uint64(k)] = w
			}
		}
	}
	for core := range c.Cores {
		if m.Fault(core) {
			t.Fatalf("core %d is at fault", core)
		}
		for _, k := range m.Took(core) {
			switch layout.Which(c, k.Pc) {
			case 1:
				if n := (k.Pc - layout.Image) / 4; n >= uint64(len(img.Words)) || img.Words[n] != k.Word {
					t.Fatalf("%x is not the image's", k.Pc)
				}
			case 5:
				if w, ok := told[k.Pc]; !ok || w != k.Word {
					t.Fatalf("%x is not told", k.Pc)
				}
			default:
				t.Fatalf("a word at %x", k.Pc)
			}
			if w, _ := m.Memory().Word(k.Pc); w != k.Word || !dec.Right(w) {
				t.Fatalf("%x has another word", k.Pc)
			}
		}
	}
	for _, a := range m.Log() {
		switch w := layout.Which(c, a.Addr); {
		case w == 2 || w == 3 || w == 4:
		case w == 5 && a.Op == api.STR && img.Lo <= a.Pc && a.Pc < img.Hi:
		default:
			t.Fatalf("an access at %x from %x", a.Addr, a.Pc)
		}
	}
}

func TestWrongP2701(t *testing.T) {
	least, _ := class.Bytes(api.Program{Methods: []api.Method{{Code: []byte{28}}}})
	if v, err := Load(least, usual); err != nil || v.Drive(1000) != (api.Status{Kind: api.SDone}) {
		t.Error(err)
	}
	for n, c := range []struct {
		p    api.Program
		c    layout.Config
		want Wrong
		text string
	}{
		{with(t, "add"), layout.Config{}, Wrong{Err: api.ErrArg}, "arg at 0:0"}, {api.Program{}, usual, Wrong{Err: api.ErrNone}, "none at 0:0"}, {with(t, "ret", "nop;nop;add"), usual, Wrong{api.ErrStack, 1, 2}, "stack at 1:2"}, {with(t, "nop"), usual, Wrong{api.ErrEnd, 0, 0}, "end at 0:0"},
	} {
		v, err := New(c.p, c.c)
		var w *Wrong
		if v != nil || !errors.As(err, &w) || *w != c.want || !errors.Is(err, c.want.Err) || err.Error() != c.text {
			t.Errorf("case %d: %v", n, err)
		}
	}
	big := with(t, "ret")
	for range 99 {
		big.Methods = append(big.Methods, api.Method{Code: append(make([]byte, 4095), 28)})
	}
	if v, err := New(big, usual); v != nil || !errors.Is(err, api.ErrFull) {
		t.Error(err)
	}
	var w *Wrong
	if v, err := Load(least[:9], layout.Config{}); v != nil || !errors.As(err, &w) || *w != (Wrong{Err: api.ErrShort, Place: 9}) {
		t.Error(err)
	}
	if v, err := Load([]byte("BZRX"), usual); v != nil || err.Error() != "form at 0:3" {
		t.Error(err)
	}
	if v, err := Load(least, layout.Config{}); v != nil || !errors.Is(err, api.ErrArg) {
		t.Error(err)
	}
	if (&Wrong{api.ErrType, 3, 44}).Error() != "type at 3:44" || (&Wrong{Err: api.ErrType}).Unwrap() != api.ErrType {
		t.Error("Wrong")
	}
}

func TestNewP2701(t *testing.T) {
	p := with(t, "small 1;print;ret")
	v := made(t, p, usual)
	p.Methods[0].Code[1] = 9
	m := v.Machine()
	if v.Status() != (api.Status{}) || v.Threads() != 1 || v.Prints() != nil || len(v.Events()) != 0 || len(v.Pieces()) != 0 || !m.Runs(0) || m.Runs(1) || m.Runs(2) || m.Runs(3) || m.Moves() != 0 {
		t.Error("a new run")
	}
	if !slices.Equal(m.Memory().Regions(), layout.Regions(usual)) {
		t.Error("its memory")
	}
	img := v.Image()
	if b, _ := m.Memory().Copy(layout.Tables, len(img.Tables)); !slices.Equal(b, img.Tables) || m.Pc(0) != img.Begin {
		t.Error("its image")
	}
	for k, w := range img.Words {
		if there, _ := m.Memory().Word(layout.Image + 4*uint64(k)); there != w {
			t.Fatal("its image")
		}
	}
	img.Words[0], img.Tables[0] = 0, 99
	if again := v.Image(); again.Words[0] == 0 || again.Tables[0] == 99 {
		t.Error("what is told is not new memory")
	}
	if v.Drive(0) != (api.Status{}) || v.Drive(-1) != (api.Status{}) || v.Drive(1) != (api.Status{}) || v.Drive(1000) != (api.Status{Kind: api.SDone}) || !slices.Equal(v.Prints(), []int64{1}) {
		t.Error("driven")
	}
}

func TestMovesP2702(t *testing.T) {
	v := made(t, with(t, "ret", "ret"), usual)
	for _, m := range []api.Move{{}, {Kind: 10}, {Kind: -1}, {Kind: api.KFetch, Core: 3}, {Kind: KHot, N: -1}, {Kind: KHot, N: 2}, {Kind: api.KDo}} {
		if e := v.Move(m); e != api.ErrArg {
			t.Errorf("%+v: %v", m, e)
		}
	}
	for _, m := range []api.Move{{Kind: KHot, N: 1, Core: 99}, {Kind: KHot, N: 1}, {Kind: api.KFetch}, {Kind: api.KRefill, Addr: layout.Image}} {
		if e := v.Move(m); e != api.OK {
			t.Errorf("%+v: %v", m, e)
		}
	}
	if v.Machine().Moves() != 2 || v.Move(api.Move{Kind: api.KFetch, Core: 1}) != api.ErrNot || v.Move(api.Move{Kind: api.KFlow, Addr: 8}) != api.ErrFault {
		t.Error("moves")
	}
	if n := v.Play(api.Move{Kind: KHot}, api.Move{Kind: 77}, api.Move{Kind: api.KFetch}, api.Move{Kind: api.KDeliver}); n != 2 {
		t.Errorf("%d moves", n)
	}
	v.Drive(1000)
	if v.Status().Kind != api.SDone || v.Move(api.Move{Kind: KHot}) != api.ErrNot || v.Move(api.Move{Kind: 77}) != api.ErrNot || v.Play(api.Move{Kind: api.KRefill, Addr: layout.Image}) != 0 {
		t.Error("behind the end")
	}
}

func TestDriveP2702(t *testing.T) {
	p := with(t, "small 9;set 2;get 2;small -1;add;dup;set 2;if -8;ret")
	whole, rounds := made(t, p, usual), made(t, p, usual)
	for n := range 20 {
		if before := rounds.Machine().Moves(); n > 0 {
			rounds.Drive(1)
			if n == 1 && rounds.Machine().Moves() != 6 || rounds.Machine().Moves() == before {
				t.Errorf("round %d: %d moves", n, rounds.Machine().Moves())
			}
		}
		v := made(t, p, usual)
		v.Drive(n)
		if v.Machine().Moves() != rounds.Machine().Moves() {
			t.Errorf("%d rounds: %d moves, not %d", n, v.Machine().Moves(), rounds.Machine().Moves())
		}
	}
	if whole.Drive(1<<62) != (api.Status{Kind: api.SDone}) {
		t.Error("up to the end")
	}
	stuck := made(t, with(t, "null;spawn 1;join;ret", "small 0;join;ret"), usual)
	if stuck.Drive(1<<62) != (api.Status{}) {
		t.Error("two that wait for each other")
	}
}

func TestEventsP2703(t *testing.T) {
	v := made(t, with(t, "new 0;set 0;get 0;small 7;putf 0 0;get 0;getf 0 0;drop;get 0;get 0;putf 0 3;get 0;getf 0 3;drop;get 0;getf 0 1;drop;get 0;enter;get 0;enter;get 0;exit;get 0;exit;small 2;newa 2;set 1;get 1;small 1;get 0;puta 2;small 1;newa 1;drop;get 1;spawn 1;join;small 3;print;ret", "ret"), usual)
	if v.Drive(10000) != (api.Status{Kind: api.SDone}) || v.Threads() != 2 {
		t.Fatal(v.Status())
	}
	own := func(n int) api.Write { return api.Write{Core: 0, N: n} }
	none := api.Write{Core: -1}
	want := []api.Event{
		{Kind: api.ENew, Object: 1, Value: 4}, {Kind: api.EWriteField, Object: 1, Value: 7, From: own(1)}, {Kind: api.EReadField, Object: 1, Value: 7, From: own(1)}, {Kind: api.EWriteField, Object: 1, Slot: 3, Value: 1, Ref: true, From: own(2)}, {Kind: api.EReadField, Object: 1, Slot: 3, Value: 1, Ref: true, From: own(2)}, {Kind: api.EReadField, Object: 1, Slot: 1, Ref: true, From: none},
		{Kind: api.EEnter, Object: 1}, {Kind: api.EEnter, Object: 1}, {Kind: api.EExit, Object: 1}, {Kind: api.EExit, Object: 1}, {Kind: api.ENew, Object: 8, Slot: -2, Value: 2}, {Kind: api.EWriteField, Object: 8, Slot: 1, Value: 1, Ref: true, From: own(3)}, {Kind: api.ENew, Object: 13, Slot: -1, Value: 1}, {Kind: api.ESpawn, Object: 8, Slot: 1, Value: 1}, {Kind: api.EJoin, Value: 1}, {Kind: api.EPrint, Value: 3},
	}
	got := v.Events()
	last := 0
	for k, e := range got {
		if e.At <= last || e.At > v.Machine().Moves() {
			t.Errorf("event %d at %d", k, e.At)
		}
		last = e.At
		got[k].At = 0
	}
	if !slices.Equal(got, want) {
		t.Errorf("%+v", got)
	}
}

// programs of one thread: all bytecodes, and all traps.
var programs = [][]string{
	{"ret"}, {"nop;small -1;print;const 0;print;const 1;print;const 2;neg;print;ret"}, {"small 5;set 2;get 2;print;get 2;small -1;add;dup;set 2;if -11;ret"},
	{"small 7;small 3;add;print;small 7;small 3;sub;print;small 7;small -3;mul;print;small -7;small 2;div;print;small -7;small 2;rem;print;const 0;small -1;div;print;const 0;small -1;rem;print;ret"},
	{"small 1;small 2;call 2;print;ret", "ret", "get 0;get 1;small 10;mul;add;get 5;add;ret"}, {"small 6;small 1;call 2;print;ret", "ret", "get 0;if 6;get 1;ret;get 0;small -1;add;get 0;get 1;mul;call 2;ret"}, {"small 8;small 1;call 2;print;ret", "ret", "get 0;if 6;get 1;ret;get 0;small -1;add;get 0;get 1;mul;call 2;ret"},
	{"small 5;set 2;get 2;small 3;call 2;print;get 2;small -1;add;dup;set 2;if -15;ret", "ret", "get 0;get 1;call 3;get 1;call 4;ret", "get 0;get 1;add;ret", "get 0;get 1;mul;ret"},
	{"small 5;set 2;small 9;set 3;small 7;small 1;small 2;call 2;get 2;add;print;get 3;print;print;ret", "ret", "get 0;set 5;get 0;get 1;call 3;get 5;add;get 1;sub;ret", "small 33;set 5;get 0;get 1;mul;get 5;add;ret"},
	{"call 0;ret"}, {"null;call 1;null;call 1;null;call 1;small 3;print;ret", "get 0;isnull;print;ret"},
	{"new 0;set 0;get 0;small 7;putf 0 0;get 0;getf 0 0;print;get 0;get 0;putf 0 1;get 0;getf 0 1;get 0;same;print;get 0;small 8;putf 0 2;get 0;getf 0 2;print;get 0;get 0;putf 0 3;get 0;getf 0 3;get 0;same;print;get 0;getf 0 0;print;ret"},
	{"small 3;newa 1;set 0;get 0;len;print;get 0;small 2;small 9;puta 1;get 0;small 2;geta 1;print;get 0;small 0;geta 1;print;ret"},
	{"new 0;set 0;get 0;enter;get 0;enter;get 0;exit;get 0;exit;new 1;enter;new 1;exit;ret"}, {"new 0;drop;jump -3"}, {"small 60;newa 1;drop;jump -5"},
	{"null;getf 0 0;print;ret"}, {"new 1;getf 0 0;print;ret"}, {"small 2;newa 1;small -1;geta 1;drop;ret"}, {"null;len;drop;ret"}, {"small -1;newa 1;drop;ret"}, {"const 1;newa 1;drop;ret"}, {"small 1;small 0;div;drop;ret"}, {"small 1;join;ret"}, {"null;call 1;null;call 1;ret", "get 0;len;drop;ret"},
	{"small 3;small 0;call 2;drop;small 3;small 0;call 2;drop;ret", "ret", "get 0;get 1;div;ret"},
}

func TestOneThreadP2705(t *testing.T) {
	for _, methods := range programs {
		p := with(t, methods...)
		want, e := sequel.Run(p, sequel.Config{Heap: usual.Heap, Depth: usual.Depth}, 100000)
		if e != api.OK {
			t.Fatal(e)
		}
		for _, hot := range []int{0, 1, 2, 3} {
			c := usual
			c.Cores, c.Hot = 1, hot
			v := made(t, p, c)
			if s := v.Drive(100000); s != want.Status || !slices.Equal(v.Prints(), want.Prints) {
				t.Errorf("%q, hot %d: %+v %v, not %+v", methods, hot, s, v.Prints(), want)
			}
			judged(t, p, c, v)
			sound(t, c, v)
		}
	}
}

// numbers are from a short rule, so that each run is the same.
type numbers uint32

func (n *numbers) next(below int) int {
	*n = *n*1664525 + 1013904223
	return int(*n>>8) % below
}

// script tells some moves of all kinds.
func script(n *numbers, c layout.Config, methods, length int) []api.Move {
	var l []api.Move
	places := func() uint64 {
		if n.next(2) == 0 {
			return layout.Image + 4*uint64(n.next(700))
		}
		return layout.Code + 4*uint64(n.next(max(16, min(c.Code, 300))))
	}
	first, fetches := n.next(2)*n.next(8), 9+n.next(8) // some scripts fetch much, and do what is late first
	for range length {
		core := n.next(c.Cores)
		switch k := n.next(24); {
		case k == 0:
			l = append(l, api.Move{Kind: api.KAhead + n.next(5), Core: core, N: n.next(3), Addr: places()})
		case k == 1:
			if n.next(4) == 0 {
				l = append(l, api.Move{Kind: api.KInterrup, Core: core})
			}
			if n.next(6) == 0 {
				l = append(l, api.Move{Kind: KHot, N: n.next(methods)})
			}
		case k <= fetches:
			l = append(l, api.Move{Kind: api.KFetch, Core: core, N: n.next(4)})
		default:
			l = append(l, api.Move{Kind: api.KDo, Core: core, N: first + n.next(12-first), Addr: uint64(n.next(8) / 7)})
		}
	}
	return l
}

func TestScriptsOfOneThreadP2705(t *testing.T) {
	n := numbers(5)
	for _, methods := range programs {
		p := with(t, methods...)
		want, _ := sequel.Run(p, sequel.Config{Heap: usual.Heap, Depth: usual.Depth}, 100000)
		for range 4 {
			c := usual
			c.Cores, c.Hot = 1+n.next(2), n.next(4)
			v := made(t, p, c)
			v.Play(script(&n, c, len(methods), n.next(3000))...)
			judged(t, p, c, v)
			if s := v.Drive(100000); s != want.Status || !slices.Equal(v.Prints(), want.Prints) {
				t.Errorf("%q: %+v %v, not %+v", methods, s, v.Prints(), want)
			}
			judged(t, p, c, v)
			sound(t, c, v)
		}
	}
}

// threaded are programs of several threads.
var threaded = [][]string{
	{"new 0;set 0;get 0;spawn 1;get 0;spawn 1;join;join;get 0;getf 0 0;print;ret", "small 5;set 3;get 0;enter;get 0;get 0;getf 0 0;small 1;add;putf 0 0;get 0;exit;get 3;small -1;add;dup;set 3;if -27;ret"},
	{"new 0;set 0;get 0;spawn 1;drop;get 0;getf 0 2;if 6;jump -8;get 0;getf 0 0;print;ret", "get 0;small 42;putf 0 0;get 0;small 1;putf 0 2;ret"},
	{"new 0;set 0;get 0;spawn 1;get 0;spawn 1;get 0;small 9;putf 0 0;get 0;getf 0 0;print;join;join;get 0;getf 0 0;print;ret", "get 0;small 1;putf 0 0;get 0;getf 0 0;print;get 0;small 2;putf 0 0;get 0;getf 0 0;print;get 0;getf 0 0;print;ret"},
	{"new 0;set 0;get 0;spawn 1;get 0;spawn 1;get 0;getf 0 1;isnull;print;join;join;ret", "new 0;set 1;get 1;small 5;putf 0 0;get 0;get 1;putf 0 1;get 0;getf 0 1;getf 0 0;print;get 0;getf 0 1;small 3;putf 0 0;ret"},
	{"null;spawn 1;drop;null;spawn 1;drop;null;spawn 1;drop;ret", "small 5;print;ret"},
	{"new 0;spawn 1;new 0;spawn 1;join;join;ret", "new 0;enter;get 0;exit;ret"},
	{"new 0;set 0;get 0;spawn 1;get 0;spawn 1;small 3;small 4;call 2;print;small 3;small 4;call 2;print;join;join;ret", "small 3;small 5;call 2;small 6;call 2;print;get 0;enter;small 1;small 1;call 2;print;get 0;exit;small 9;small 9;call 2;drop;ret", "get 0;get 1;add;small 2;call 3;ret", "get 0;get 1;mul;ret"},
	{"new 0;set 0;get 0;small 4;newa 1;putf 0 3;get 0;spawn 1;get 0;spawn 1;join;join;get 0;getf 0 3;small 0;geta 1;print;ret", "small 4;set 3;get 0;getf 0 3;small 0;get 3;puta 1;get 0;getf 0 3;small 0;geta 1;print;get 3;small -1;add;dup;set 3;if -29;ret"},
	{"new 0;set 0;get 0;spawn 1;drop;get 0;spawn 1;drop;small 1;small 0;div;drop;ret", "get 0;get 0;getf 0 2;small 1;add;putf 0 2;jump -13"},
	{"new 0;set 0;get 0;spawn 1;drop;get 0;spawn 1;drop;new 0;drop;jump -3", "new 0;drop;jump -3"},
}

// warmed are such whose threads run compiled code, if one call is enough.
var warmed = [][]string{
	{"new 0;call 1;new 0;set 0;get 0;spawn 1;get 0;spawn 1;join;join;get 0;getf 0 0;print;ret", "small 5;set 3;get 0;enter;get 0;get 0;getf 0 0;small 1;add;putf 0 0;get 0;exit;get 3;small -1;add;dup;set 3;if -27;ret"},
	{"new 0;call 1;new 0;set 0;get 0;spawn 1;get 0;spawn 1;join;join;ret", "get 0;small 1;putf 0 0;get 0;getf 0 0;print;get 0;small 2;putf 0 0;get 0;getf 0 0;print;get 0;small 3;putf 0 0;get 0;getf 0 0;print;ret"},
	{"new 0;call 1;new 0;set 0;get 0;spawn 1;get 0;spawn 1;join;join;ret", "get 0;small 1;putf 0 2;get 0;getf 0 2;print;get 0;small 2;putf 0 2;get 0;getf 0 2;print;get 0;getf 0 0;print;get 0;small 3;putf 0 0;get 0;small 4;putf 0 2;ret"},
	{"new 0;call 1;new 0;set 0;get 0;spawn 1;get 0;spawn 1;join;join;ret", "get 0;enter;get 0;exit;get 0;enter;get 0;small 1;putf 0 0;get 0;exit;get 0;enter;get 0;getf 0 0;print;get 0;exit;ret"},
	{"new 0;call 1;new 0;set 0;get 0;spawn 1;get 0;spawn 1;join;join;ret", "new 0;set 1;get 1;small 5;putf 0 0;get 0;get 1;putf 0 1;get 0;getf 0 1;getf 0 0;print;new 1;set 2;get 0;get 1;putf 0 3;get 0;getf 0 3;getf 0 0;print;ret"},
	{"new 0;set 0;get 0;small 4;newa 1;putf 0 3;get 0;call 1;get 0;spawn 1;get 0;spawn 1;join;join;ret", "get 0;getf 0 3;set 1;get 1;small 1;small 7;puta 1;get 1;small 1;geta 1;print;get 1;small 1;small 8;puta 1;get 1;small 1;geta 1;print;get 1;small 1;small 9;puta 1;get 1;small 1;geta 1;print;ret"},
	{"new 0;call 1;new 0;set 0;new 0;set 1;get 0;get 1;putf 0 1;get 1;get 0;putf 0 1;get 0;spawn 1;get 1;spawn 1;join;join;ret", "get 0;getf 0 1;isnull;if 26;get 0;small 1;putf 0 0;get 0;getf 0 1;getf 0 0;print;get 0;small 2;putf 0 0;ret"},
}

func TestScriptsOfThreadsP2705(t *testing.T) {
	n := numbers(77)
	for _, methods := range slices.Concat(threaded, warmed) {
		p := with(t, methods...)
		for k := range 12 {
			c := usual
			c.Hot = n.next(4)
			v := made(t, p, c)
			for range 6 {
				v.Play(script(&n, c, len(methods), n.next(1500))...)
				judged(t, p, c, v)
			}
			for range n.next(40) {
				v.Drive(1)
				judged(t, p, c, v)
			}
			if s := v.Drive(30000); s.Kind == api.SRuns {
				t.Errorf("%q, %d: it runs on", methods, k)
			}
			judged(t, p, c, v)
			sound(t, c, v)
		}
	}
}

func TestEndsP2703(t *testing.T) {
	p := with(t, threaded[0]...)
	v := made(t, p, usual)
	if s := v.Drive(100000); s != (api.Status{Kind: api.SDone}) || v.Threads() != 3 || !slices.Equal(v.Prints(), []int64{10}) {
		t.Errorf("%+v %v", s, v.Prints())
	}
	for core := range 3 {
		if v.Machine().Runs(core) {
			t.Errorf("core %d runs", core)
		}
	}
	p = with(t, threaded[8]...)
	v = made(t, p, usual)
	if s := v.Drive(100000); s != (api.Status{Kind: api.STrap, Trap: api.TDivide, Code: 18}) {
		t.Errorf("%+v", s)
	}
	for core := range 3 {
		if v.Machine().Runs(core) {
			t.Errorf("core %d runs behind a trap", core)
		}
	}
	moves, events := v.Machine().Moves(), len(v.Events())
	if v.Drive(100) != v.Status() || v.Machine().Moves() != moves || len(v.Events()) != events || v.Move(api.Move{Kind: api.KFetch, Core: 1}) != api.ErrNot {
		t.Error("it goes on behind a trap")
	}
	v = made(t, with(t, threaded[4]...), usual)
	if s := v.Drive(100000); s != (api.Status{Kind: api.STrap, Trap: api.TThread, Code: 9}) || v.Threads() != 3 {
		t.Errorf("%+v", s)
	}
}

func TestCompilingP2704(t *testing.T) {
	methods := []string{"small 5;set 2;get 2;small 3;call 2;print;get 2;small -1;add;dup;set 2;if -15;ret", "ret", "get 0;get 1;add;ret"}
	p := with(t, methods...)
	for hot, want := range map[int]int{0: 0, 1: 1, 5: 1, 6: 0} {
		c := usual
		c.Hot = hot
		v := made(t, p, c)
		v.Drive(100000)
		l := v.Pieces()
		if len(l) != want || v.Status().Kind != api.SDone || !slices.Equal(v.Prints(), []int64{8, 7, 6, 5, 4}) {
			t.Errorf("hot %d: %+v", hot, l)
		}
		if want == 1 && (l[0].Method != 2 || l[0].State != cache.Told || l[0].At != layout.Code || len(l[0].Words) == 0) {
			t.Errorf("hot %d: %+v", hot, l)
		}
	}
	v := made(t, p, usual)
	v.Move(api.Move{Kind: KHot, N: 2})
	v.Move(api.Move{Kind: KHot, N: 1})
	v.Drive(100000)
	if l := v.Pieces(); len(l) != 1 || l[0].Method != 2 {
		t.Errorf("KHot: %+v", l)
	}
	inCode := slices.ContainsFunc(v.Machine().Took(0), func(k mach.Took) bool { return layout.Which(usual, k.Pc) == 5 })
	if !inCode {
		t.Error("what is compiled is not run")
	}
	sound(t, usual, v)
	tight := usual
	tight.Code, tight.Hot = jit.Size(p, 2)-16, 1
	v = made(t, p, tight)
	v.Drive(100000)
	if v.Status().Kind != api.SDone || len(v.Pieces()) != 0 {
		t.Errorf("no room: %+v", v.Pieces())
	}
	tight.Code += 16
	v = made(t, p, tight)
	v.Drive(100000)
	if v.Status().Kind != api.SDone || len(v.Pieces()) != 1 {
		t.Errorf("just enough room: %+v", v.Pieces())
	}
	tight.Code = 0
	v = made(t, p, tight)
	if v.Drive(100000).Kind != api.SDone || len(v.Pieces()) != 0 {
		t.Error("no room at all")
	}
}

// Whatever the number of words: all of them are laid.
func TestLinesP2704(t *testing.T) {
	for nops := range 17 {
		p := with(t, "small 1;small 2;call 2;print;small 1;small 2;call 2;print;ret", "ret", strings.Repeat("nop;", nops)+"get 0;get 1;add;ret")
		c := usual
		c.Cores, c.Hot = 1, 1
		v := made(t, p, c)
		if s := v.Drive(100000); s.Kind != api.SDone || !slices.Equal(v.Prints(), []int64{3, 3}) || len(v.Pieces()) != 1 {
			t.Errorf("%d nops: %+v %v", nops, s, v.Prints())
		}
		sound(t, c, v)
	}
}

// The time of a call is the number of the move by which it is done.
func TestTimesP2703(t *testing.T) {
	v := made(t, with(t, "new 0;spawn 1;join;small 1;print;small 2;print;ret", "ret"), usual)
	seen := 0
	for v.Status().Kind == api.SRuns {
		for core := range 2 {
			for _, m := range []api.Move{{Kind: api.KFetch, Core: core}, {Kind: api.KDo, Core: core}} {
				v.Move(m)
				if l := v.Events(); len(l) > seen {
					seen = len(l)
					if e := l[seen-1]; e.At != v.Machine().Moves() {
						t.Errorf("%+v by move %d", e, v.Machine().Moves())
					}
				}
			}
		}
	}
	if seen != 5 {
		t.Errorf("%d events", seen)
	}
}

// The routine: stores, each line told, DSB, each line invalidated, DSB, ISB, and then the entry by STLR.
func TestRoutineP2704(t *testing.T) {
	p := with(t, "small 1;small 2;call 2;print;ret", "ret", strings.Repeat("nop;", 40)+"get 0;get 1;add;ret")
	c := usual
	c.Hot = 1
	v := made(t, p, c)
	v.Drive(100000)
	img, piece := v.Image(), v.Pieces()[0]
	lines := (len(piece.Words) + 15) / 16
	var ops []int
	for _, k := range v.Machine().Took(0) {
		if img.Lo <= k.Pc && k.Pc < img.Hi {
			ops = append(ops, dec.Ins(k.Word).Op)
		}
	}
	count := func(op int) (n int) {
		for _, o := range ops {
			if o == op {
				n++
			}
		}
		return n
	}
	if count(api.STR) != 8*lines || count(api.DC) != lines || count(api.IC) != lines || count(api.DSB) != 2 || count(api.ISB) != 1 || count(api.STLR) != 1 {
		t.Errorf("%v", ops)
	}
	at := func(op int) int { return slices.Index(ops, op) }
	if !(at(api.DC) < at(api.DSB) && at(api.DSB) < at(api.IC) && at(api.IC) < at(api.ISB) && at(api.ISB) < at(api.STLR)) || len(ops) > 6*len(piece.Words)+30*lines {
		t.Errorf("%v", ops)
	}
	entry, _ := v.Machine().Memory().Read(img.Entries + 16)
	other, _ := v.Machine().Memory().Read(img.Entries)
	if entry != piece.At || other != img.Enter {
		t.Errorf("entries %x %x", entry, other)
	}
}

func TestInstructionsP2401(t *testing.T) {
	p := with(t, threaded[6]...)
	c := usual
	c.Hot = 2
	v := made(t, p, c)
	v.Drive(100000)
	words, lines := 0, 0
	for _, k := range v.Pieces() {
		words, lines = words+len(k.Words), lines+(len(k.Words)+15)/16
	}
	all := 0
	for core := range c.Cores {
		all += len(v.Machine().Took(core))
	}
	if bytecodes := 120; all > 300*bytecodes+3*1200+6*words+30*lines {
		t.Errorf("%d instructions", all)
	}
}
