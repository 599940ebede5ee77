package sequel

import (
	"math"
	"slices"
	"strings"
	"testing"

	"brazier/api"
	"brazier/code"
	"brazier/step"
)

var _ step.World = &world{}

func bytesOf(t *testing.T, s string) []byte {
	t.Helper()
	b, n, e := code.Parse(strings.ReplaceAll(s, ";", "\n"))
	if e != api.OK {
		t.Fatalf("%q: line %d", s, n)
	}
	return b
}

// with tells a program of this code, with a class of an int and a ref, and the methods 1 (int to int: calls itself for ever) and 2 (a thread's).
func with(t *testing.T, s string) api.Program {
	return api.Program{
		Classes: [][]api.Field{{{Type: api.TInt}, {Type: api.TRef, Volatile: true}}},
		Methods: []api.Method{{Locals: []int{api.TInt, api.TRef}, Stack: 9, Code: bytesOf(t, s)}, {Params: []int{api.TInt}, Ret: api.TInt, Stack: 1, Code: bytesOf(t, "get 0;call 1;ret")}, {Params: []int{api.TRef}, Code: bytesOf(t, "ret")}},
	}
}

var usual = Config{Heap: 100, Depth: 10}

func TestCheckP1801(t *testing.T) {
	for _, c := range []struct {
		c  Config
		ok bool
	}{{Config{0, 1}, true}, {Config{api.MaxHeap, api.MaxDepth}, true}, {Config{-1, 1}, false}, {Config{api.MaxHeap + 1, 1}, false}, {Config{0, 0}, false}, {Config{0, api.MaxDepth + 1}, false}, {Config{}, false}} {
		if e := Check(c.c); (e == api.OK) != c.ok || e != api.OK && e != api.ErrArg {
			t.Errorf("%+v: %v", c.c, e)
		}
	}
}

func TestRunP1801(t *testing.T) {
	// counts down from 3
	p := with(t, "small 3;set 0;get 0;print;get 0;small -1;add;dup;set 0;if -11;new 0;drop;small 2;newa 2;drop;ret")
	r, e := Run(p, usual, 1000)
	if e != api.OK || r.Status != (api.Status{Kind: api.SDone}) || !slices.Equal(r.Prints, []int64{3, 2, 1}) || r.Used != 10 || r.Steps != 2+3*8+6 {
		t.Errorf("%+v %v", r, e)
	}
	for most := range 10 {
		r, e := Run(p, usual, most-1)
		if e != api.OK || r.Status != (api.Status{}) || r.Steps != max(0, most-1) {
			t.Errorf("%d steps: %+v", most-1, r)
		}
	}
}

func TestTrapsP1801(t *testing.T) {
	for _, c := range []struct {
		s    string
		want api.Status
		used int
	}{
		{"null;spawn 2;drop;ret", api.Status{Kind: api.STrap, Trap: api.TThread, Code: 1}, 0}, {"small 0;join;ret", api.Status{Kind: api.STrap, Trap: api.TThread, Code: 2}, 0}, {"small 1;join;ret", api.Status{Kind: api.STrap, Trap: api.TThread, Code: 2}, 0},
		{"small 1;call 1;drop;ret", api.Status{Kind: api.STrap, Trap: api.TDepth, Method: 1, Code: 2}, 0}, {"new 0;drop;jump -3", api.Status{Kind: api.STrap, Trap: api.TMemory}, 100}, {"small 1;small 0;div;drop;ret", api.Status{Kind: api.STrap, Trap: api.TDivide, Code: 4}, 0},
		{"new 0;set 1;get 1;enter;get 1;enter;get 1;exit;get 1;exit;ret", api.Status{Kind: api.SDone}, 5}, {"new 0;set 1;get 1;enter;new 0;exit;ret", api.Status{Kind: api.STrap, Trap: api.TMonitor, Code: 9}, 10},
		{"new 0;set 1;get 1;small 7;putf 0 0;get 1;getf 0 0;print;get 1;getf 0 1;isnull;print;get 1;get 1;putf 0 1;get 1;getf 0 1;get 1;same;print;ret", api.Status{Kind: api.SDone}, 5},
		{"small 3;newa 1;set 1;get 1;small 2;small 9;puta 1;get 1;small 2;geta 1;print;get 1;len;print;get 1;small 3;geta 1;drop;ret", api.Status{Kind: api.STrap, Trap: api.TBounds, Code: 29}, 6},
	} {
		if r, e := Run(with(t, c.s), usual, 10000); e != api.OK || r.Status != c.want || r.Used != c.used {
			t.Errorf("%s: %+v %v", c.s, r, e)
		}
	}
}

func TestWrongP1801(t *testing.T) {
	p := with(t, "ret")
	if r, e := Run(p, Config{}, 5); e != api.ErrArg || r.Steps != 0 || r.Prints != nil {
		t.Error(e)
	}
	for s, want := range map[string]api.Errno{"add": api.ErrStack, "nop": api.ErrEnd, "call 9": api.ErrName} {
		q := with(t, s)
		if _, e := Run(q, usual, 5); e != want {
			t.Errorf("%s: %v", s, e)
		}
		if l, e := Places(q, usual, 5); e != want || l != nil {
			t.Errorf("%s: %v", s, e)
		}
		for range Steps(q, usual) {
			t.Errorf("%s: a step", s)
		}
		if _, e := Run(q, Config{}, 5); e != api.ErrArg {
			t.Errorf("%s: %v", s, e)
		}
	}
	for range Steps(p, Config{}) {
		t.Error("a step")
	}
}

func TestStepsPlacesP1802(t *testing.T) {
	p := with(t, "small 1;small 0;div;drop;ret")
	seq := Steps(p, usual)
	p.Methods[0].Code[0] = 77
	for range 2 {
		n := 0
		for k, s := range seq {
			n++
			if k != n || (s == api.Status{}) != (n < 3) || n == 3 && s != (api.Status{Kind: api.STrap, Trap: api.TDivide, Code: 4}) {
				t.Errorf("%d: %+v", k, s)
			}
		}
		if n != 3 {
			t.Errorf("%d steps", n)
		}
	}
	q := with(t, "jump 0")
	n := 0
	for range Steps(q, usual) {
		if n++; n == 50 {
			break
		}
	}
	p = with(t, "small 1;call 1;drop;ret")
	if l, e := Places(p, Config{0, 2}, 100); e != api.OK || !slices.Equal(l, []int{0, 2, 4096, 4098}) {
		t.Errorf("%v %v", l, e)
	}
	for _, most := range []int{-1, 0, math.MinInt} {
		if l, e := Places(p, usual, most); e != api.OK || len(l) != 0 {
			t.Errorf("%v %v", l, e)
		}
	}
	for k, s := range Steps(with(t, "nop;ret"), usual) {
		if (s.Kind == api.SDone) != (k == 2) {
			t.Errorf("%d: %+v", k, s)
		}
	}
}

func TestGoesOnP1803(t *testing.T) {
	p := with(t, "small 5;set 0;get 0;print;get 0;small -1;add;dup;set 0;if -11;new 0;getf 0 1;getf 0 0;drop;ret")
	whole, _ := Run(p, usual, 1000)
	places, _ := Places(p, usual, 1000)
	if whole.Status != (api.Status{Kind: api.STrap, Trap: api.TNull, Code: 23}) || len(places) != whole.Steps+1 {
		t.Fatalf("%+v %d", whole, len(places))
	}
	for most := range 60 {
		r, _ := Run(p, usual, most)
		l, _ := Places(p, usual, most)
		if !slices.Equal(l, places[:min(most, len(places))]) || r.Steps != min(most, whole.Steps) || !slices.Equal(r.Prints, whole.Prints[:len(r.Prints)]) || (r.Status == whole.Status) != (most >= len(places)) {
			t.Errorf("%d steps: %+v", most, r)
		}
	}
}
