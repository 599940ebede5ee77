package verify

import (
	"math"
	"slices"
	"strings"
	"testing"

	"brazier/api"
	"brazier/class"
	"brazier/code"
)

const (
	tInt = api.TInt
	tRef = api.TRef
)

func bytesOf(t *testing.T, s string) []byte {
	t.Helper()
	b, n, e := code.Parse(strings.ReplaceAll(s, ";", "\n"))
	if e != api.OK {
		t.Fatalf("%q: line %d", s, n)
	}
	return b
}

// with tells a program whose method 1 (int, ref; locals int, ref) has this code; 0 does nothing, 2 tells an int of an int and a ref, 3 may be a thread, 4 tells a ref.
func with(b []byte) api.Program {
	ret := []byte{28}
	return api.Program{
		Pool:    []int64{7, 8},
		Classes: [][]api.Field{{{Type: tInt}, {Type: tRef, Volatile: true}}, {}},
		Methods: []api.Method{{Code: ret}, {Params: []int{tInt, tRef}, Locals: []int{tInt, tRef}, Stack: 4, Code: b}, {Params: []int{tInt, tRef}, Ret: tInt, Stack: 2, Code: []byte{2, 1, 28}}, {Params: []int{tRef}, Code: ret}, {Ret: tRef, Stack: 1, Code: []byte{3, 28}}, {Params: []int{tInt}, Code: ret}, {Params: []int{tRef}, Ret: tInt, Stack: 1, Code: []byte{2, 1, 28}}},
	}
}

func TestEffectP1501(t *testing.T) {
	for _, c := range []struct {
		op      string
		in, out []int
	}{
		{"nop", nil, nil}, {"const 1", nil, []int{tInt}}, {"small -3", nil, []int{tInt}}, {"null", nil, []int{tRef}}, {"get 0", nil, []int{tInt}}, {"get 1", nil, []int{tRef}}, {"get 3", nil, []int{tRef}}, {"set 2", []int{tInt}, nil}, {"set 1", []int{tRef}, nil},
		{"dup", []int{tRef}, []int{tRef, tRef}}, {"dup", []int{tInt}, []int{tInt, tInt}}, {"drop", []int{tRef}, nil}, {"swap", []int{tInt, tRef}, []int{tRef, tInt}},
		{"add", []int{tInt, tInt}, []int{tInt}}, {"sub", []int{tInt, tInt}, []int{tInt}}, {"mul", []int{tInt, tInt}, []int{tInt}}, {"div", []int{tInt, tInt}, []int{tInt}}, {"rem", []int{tInt, tInt}, []int{tInt}}, {"and", []int{tInt, tInt}, []int{tInt}}, {"or", []int{tInt, tInt}, []int{tInt}}, {"xor", []int{tInt, tInt}, []int{tInt}}, {"shl", []int{tInt, tInt}, []int{tInt}}, {"shr", []int{tInt, tInt}, []int{tInt}}, {"ushr", []int{tInt, tInt}, []int{tInt}},
		{"neg", []int{tInt}, []int{tInt}}, {"lt", []int{tInt, tInt}, []int{tInt}}, {"eq", []int{tInt, tInt}, []int{tInt}}, {"same", []int{tRef, tRef}, []int{tInt}}, {"isnull", []int{tRef}, []int{tInt}}, {"jump 99", nil, nil}, {"if -99", []int{tInt}, nil},
		{"call 2", []int{tInt, tRef}, []int{tInt}}, {"call 4", nil, []int{tRef}}, {"call 3", []int{tRef}, nil}, {"ret", nil, nil}, {"new 1", nil, []int{tRef}}, {"getf 0 0", []int{tRef}, []int{tInt}}, {"getf 0 1", []int{tRef}, []int{tRef}}, {"putf 0 0", []int{tRef, tInt}, nil}, {"putf 0 1", []int{tRef, tRef}, nil},
		{"newa 1", []int{tInt}, []int{tRef}}, {"newa 2", []int{tInt}, []int{tRef}}, {"geta 2", []int{tRef, tInt}, []int{tRef}}, {"geta 1", []int{tRef, tInt}, []int{tInt}}, {"puta 1", []int{tRef, tInt, tInt}, nil}, {"puta 2", []int{tRef, tInt, tRef}, nil}, {"len", []int{tRef}, []int{tInt}},
		{"spawn 3", []int{tRef}, []int{tInt}}, {"join", []int{tInt}, nil}, {"print", []int{tInt}, nil}, {"enter", []int{tRef}, nil}, {"exit", []int{tRef}, nil},
	} {
		o, _ := code.Read(bytesOf(t, c.op), 0)
		below := []int{tRef, tInt}
		in := append(slices.Clone(below), c.in...)
		was := slices.Clone(in)
		s, e := Effect(with(nil), 1, o, Shape{in, 3})
		held := 3
		switch c.op {
		case "enter":
			held = 4
		case "exit":
			held = 2
		}
		if e != api.OK || !slices.Equal(s.Types, append(below, c.out...)) || s.Held != held || !slices.Equal(in, was) {
			t.Errorf("%s: %+v %v", c.op, s, e)
		}
		for n := range c.in {
			if s, e := Effect(with(nil), 1, o, Shape{c.in[n+1:], 3}); e != api.ErrStack || s.Types != nil || s.Held != 0 {
				t.Errorf("%s with too few: %v", c.op, e)
			}
			if c.op == "dup" || c.op == "drop" || c.op == "swap" {
				continue
			}
			in := slices.Clone(c.in)
			in[n] = tInt + tRef - in[n]
			if s, e := Effect(with(nil), 1, o, Shape{in, 0}); e != api.ErrType || s.Types != nil {
				t.Errorf("%s with another type: %v", c.op, e)
			}
		}
	}
}

func TestEffectWrongP1501(t *testing.T) {
	p := with(nil)
	refs := Shape{[]int{tRef}, 0}
	for n, c := range []struct {
		m    int
		o    code.Op
		s    Shape
		want api.Errno
	}{
		{-1, code.Op{}, Shape{}, api.ErrName}, {7, code.Op{}, Shape{}, api.ErrName}, {1, code.Op{Code: 41}, Shape{}, api.ErrName}, {1, code.Op{Code: -1}, Shape{}, api.ErrName}, {1, code.Op{Code: math.MaxInt}, Shape{}, api.ErrName},
		{1, code.Op{Code: 1, A: 2}, Shape{}, api.ErrName}, {1, code.Op{Code: 1, A: -1}, Shape{}, api.ErrName}, {1, code.Op{Code: 5, A: 4}, Shape{}, api.ErrName}, {1, code.Op{Code: 25, A: math.MinInt}, Shape{}, api.OK},
		{1, code.Op{Code: 36}, Shape{[]int{tRef}, 10}, api.ErrHeld}, {1, code.Op{Code: 36}, Shape{[]int{tRef}, 9}, api.OK}, {1, code.Op{Code: 37}, refs, api.ErrHeld}, {1, code.Op{Code: 36}, Shape{[]int{tInt}, 10}, api.ErrType}, {1, code.Op{Code: 37}, Shape{}, api.ErrStack},
		{2, code.Op{Code: 28}, Shape{[]int{tRef}, 0}, api.ErrType}, {2, code.Op{Code: 28}, Shape{}, api.ErrStack}, {2, code.Op{Code: 28}, Shape{[]int{tRef, tInt}, 0}, api.OK},
	} {
		if s, e := Effect(p, c.m, c.o, c.s); e != c.want || e != api.OK && (s.Types != nil || s.Held != 0) {
			t.Errorf("case %d: %v", n, e)
		}
	}
	if s, e := Effect(p, 2, code.Op{Code: 28}, Shape{[]int{tRef, tInt}, 4}); e != api.OK || !slices.Equal(s.Types, []int{tRef}) || s.Held != 4 {
		t.Errorf("ret: %+v", s)
	}
	if _, e := Effect(api.Program{}, 0, code.Op{}, Shape{}); e != api.ErrName {
		t.Error("no methods")
	}
}

func TestMethodP1502(t *testing.T) {
	full := strings.Repeat("get 1;enter;", 11)
	for _, c := range []struct {
		s     string
		place int
		want  api.Errno
	}{
		{"ret", 0, api.OK}, {"small 1;if -2;ret", 0, api.OK}, {"small 1;if -2", 2, api.ErrEnd}, {"nop", 0, api.ErrEnd}, {"nop;nop", 1, api.ErrEnd}, {"jump 0", 0, api.OK},
		{"const 2;bad", 0, api.ErrName}, {"jump 3;const 2", 3, api.ErrName}, {"get 4", 0, api.ErrName}, {"set 4", 0, api.ErrName}, {"call 7", 0, api.ErrName}, {"new 2", 0, api.ErrName}, {"getf 2 0", 0, api.ErrName}, {"getf 0 2", 0, api.ErrName}, {"putf 1 0", 0, api.ErrName}, {"newa 0", 0, api.ErrName}, {"geta 3", 0, api.ErrName}, {"puta 0", 0, api.ErrName}, {"spawn 7", 0, api.ErrName}, {"spawn 0", 0, api.ErrName}, {"spawn 5", 0, api.ErrName}, {"spawn 6", 0, api.ErrName}, {"spawn 2", 0, api.ErrName}, {"null;spawn 3;join;ret", 0, api.OK},
		{"jump 3", 0, api.ErrPlace}, {"jump 1;ret", 0, api.ErrPlace}, {"jump -1;ret", 0, api.ErrPlace}, {"small 1;if -1;ret", 2, api.ErrPlace}, {"jump 32767;ret", 0, api.ErrPlace}, {"ret;jump 9", 1, api.ErrPlace}, {"jump 9;const 9", 0, api.ErrPlace},
		{"add", 0, api.ErrStack}, {"ret;add", 0, api.OK}, {"null;neg", 1, api.ErrType}, {"small 1;small 1;small 1;small 1;ret", 8, api.ErrStack}, {"small 1;small 1;small 1;small 1;small 1;ret", 8, api.ErrStack}, {"small 1;small 1;small 1;small 1;drop;drop;drop;drop;ret", 0, api.OK}, {"small 1;ret", 2, api.ErrStack},
		{"get 1;enter;ret", 3, api.ErrHeld}, {"get 1;enter;small 1;ret", 5, api.ErrStack}, {"get 1;enter;get 1;exit;ret", 0, api.OK}, {"get 1;exit;ret", 2, api.ErrHeld}, {full, 32, api.ErrHeld},
		{"get 0;if 5;small 1;ret", 5, api.ErrStack}, {"get 0;if 8;small 1;jump 4;null;ret", 10, api.ErrType}, {"get 0;if 9;get 1;enter;jump 3;ret", 8, api.ErrHeld}, {"get 0;if 5;small 1;nop;ret", 5, api.ErrStack},
		{"jump 4;ret;jump -1", 0, api.OK}, {"small 1;jump -2", 2, api.ErrStack}, {"jump 3;get 1;if -5;ret", 5, api.ErrType},
	} {
		s := c.s
		extra := []byte{}
		if strings.HasSuffix(s, ";bad") {
			s = strings.TrimSuffix(s, ";bad")
			extra = []byte{28}
		}
		p := with(append(bytesOf(t, s), extra...))
		if place, e := Method(p, 1); place != c.place || e != c.want {
			t.Errorf("%s: %d %v", c.s, place, e)
		}
		m, place, e := Program(p)
		if wantM := 1; e != c.want || place != c.place || e != api.OK && m != wantM || e == api.OK && m != 0 {
			t.Errorf("%s: program %d %d %v", c.s, m, place, e)
		}
		shapes, has, e := Shapes(p, 1)
		if e != c.want || e != api.OK && (shapes != nil || has != nil) {
			t.Errorf("%s: shapes %v", c.s, e)
		}
	}
}

func TestMethodBytesP1502(t *testing.T) {
	for _, c := range []struct {
		b     []byte
		place int
		want  api.Errno
	}{{[]byte{0, 2}, 1, api.ErrShort}, {[]byte{1, 99, 26, 0}, 2, api.ErrShort}, {[]byte{28, 77, 2}, 1, api.ErrForm}, {[]byte{1, 99, 77}, 2, api.ErrForm}, {[]byte{255}, 0, api.ErrForm}} {
		if place, e := Method(with(c.b), 1); place != c.place || e != c.want {
			t.Errorf("%v: %d %v", c.b, place, e)
		}
	}
	p := with([]byte{28})
	for _, m := range []int{-1, 7, math.MinInt} {
		if place, e := Method(p, m); place != 0 || e != api.ErrArg {
			t.Errorf("method %d: %v", m, e)
		}
	}
	p.Methods[2].Stack = 99
	if place, e := Method(p, 0); place != 0 || e != api.ErrArg {
		t.Error("what class.Check refuses")
	}
	if _, _, e := Shapes(p, 0); e != api.ErrArg {
		t.Error("Shapes of it")
	}
	if m, place, e := Program(p); m != 0 || place != 0 || e != api.ErrMany || class.Check(p) != e {
		t.Error("Program of it")
	}
	p = with([]byte{28})
	p.Methods[4].Code = []byte{0, 28}
	p.Methods[6].Code = []byte{9}
	if m, place, e := Program(p); m != 4 || place != 1 || e != api.ErrStack {
		t.Errorf("the first method: %d %d %v", m, place, e)
	}
}

func TestShapesP1503(t *testing.T) {
	p := with(bytesOf(t, "get 1;enter;get 0;if 5;null;drop;get 1;exit;ret;nop"))
	shapes, has, e := Shapes(p, 1)
	if e != api.OK || len(shapes) != 15 || len(has) != 15 {
		t.Fatal(e, len(shapes))
	}
	want := map[int]Shape{0: {}, 2: {[]int{tRef}, 0}, 3: {nil, 1}, 5: {[]int{tInt}, 1}, 8: {nil, 1}, 9: {[]int{tRef}, 1}, 10: {nil, 1}, 12: {[]int{tRef}, 1}, 13: {nil, 0}}
	for at := range shapes {
		w, ok := want[at]
		if has[at] != ok || !slices.Equal(shapes[at].Types, w.Types) || shapes[at].Held != w.Held {
			t.Errorf("place %d: %+v %v", at, shapes[at], has[at])
		}
	}
	shapes[5].Types[0] = 9
	shapes[2].Types = append(shapes[2].Types, 1)
	again, _, _ := Shapes(p, 1)
	if again[5].Types[0] != tInt || again[9].Types[0] != tRef {
		t.Error("what is told is not new memory")
	}
}

func TestLongMethodP1502(t *testing.T) {
	var b []byte
	for len(b) < 4096-6 { // jumps back, again and again
		b = append(b, 25, 3, 0)
	}
	b = append(b, 28)
	if _, e := Method(with(b), 1); e != api.OK {
		t.Error(e)
	}
	b = nil
	for range 1364 {
		b = append(b, 25, 0xFD, 0xFF)
	}
	copy(b, []byte{25, 0xFC, 0x0F, 25})
	b = append(b, 25, 0xFD, 0xFF)
	if _, e := Method(with(b), 1); e != api.ErrPlace && e != api.OK {
		t.Error(e)
	}
}
