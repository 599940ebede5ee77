package win

import (
	"math"
	"slices"
	"testing"

	"brazier/api"
	"brazier/text"
)

// base: X1 to X9 are places, each a line further on; X10 is that of X1 and one granule, X11 that of X1.
func base() api.Regs {
	r := api.Regs{SP: 0x5000}
	for n := 1; n < 10; n++ {
		r.X[n] = 0x1000 + uint64(n)*64
	}
	r.X[10], r.X[11], r.X[12] = r.X[1]+8, r.X[1], 1
	return r
}

// made tells a window of these instructions, one a line; those with ! ahead are Done.
func made(t *testing.T, lines ...string) []Inst {
	t.Helper()
	var w []Inst
	for n, l := range lines {
		x := Inst{Pc: uint64(0x100 + 4*n), Next: uint64(0x104 + 4*n)}
		if l[0] == '!' {
			x.Done, l = true, l[1:]
		}
		i, e := text.Parse(l)
		if e != api.OK {
			t.Fatalf("%q", l)
		}
		x.Ins = i
		w = append(w, x)
	}
	return w
}

func TestValueP901(t *testing.T) {
	w := made(t, "!movz x1, #7, 0", "add x2, x1, x1", "!subs x3, x1, x1", "!addi sp, sp, #8", "bl #8", "nop")
	w[0].Regs.X[1], w[0].Regs.X[4] = 7, 99
	w[2].Regs.X[3], w[2].Regs.Z, w[2].Regs.C, w[2].Regs.SP = 5, true, true, 44
	w[3].Regs.SP = 0x5008
	r := base()
	r.N, r.V = true, true
	for _, c := range []struct {
		i, reg int
		v      uint64
		ok     bool
	}{
		{0, 1, r.X[1], true}, {1, 1, 7, true}, {5, 1, 7, true}, {5, 2, 0, false}, {1, 2, r.X[2], true}, {5, 3, 5, true}, {5, 4, r.X[4], true}, {3, 32, 0x5000, true}, {4, 32, 0x5008, true},
		{2, 33, 2 | 8, true}, {3, 33, 1 | 4, true}, {5, 30, 0, false}, {4, 30, 0, true}, {5, 31, 0, true}, {5, 34, 0, true}, {5, -1, 0, true}, {5, math.MaxInt, 0, true}, {-1, 1, 0, false}, {6, 1, 0, false}, {6, 31, 0, false}, {math.MaxInt, 1, 0, false},
	} {
		if v, ok := Value(w, c.i, r, c.reg); v != c.v || ok != c.ok {
			t.Errorf("Value(%d, %d): %x %v", c.i, c.reg, v, ok)
		}
	}
	if v, ok := Value(nil, 0, r, 1); v != 0 || ok {
		t.Error("no window")
	}
}

func TestInputsP901(t *testing.T) {
	w := made(t, "!movz x1, #7, 0", "add x2, x1, x1", "!subs x3, x1, x1", "csinc x4, x1, x3, 0", "add x5, x2, x1", "madd x6, x1, x3, xzr", "svc #0")
	w[0].Regs.X[1] = 7
	w[2].Regs.X[3], w[2].Regs.Z = 5, true
	r := base()
	r.V = true
	want := r
	want.X[1], want.X[3], want.Z, want.V = 7, 5, true, false
	if got, ok := Inputs(w, 3, r); !ok || got != want {
		t.Errorf("%+v", got)
	}
	want.Z, want.V = false, true
	if got, ok := Inputs(w, 5, r); !ok || got != want {
		t.Errorf("%+v", got)
	}
	if got, ok := Inputs(w, 4, r); ok || got != (api.Regs{}) {
		t.Error("an input that is not known")
	}
	if got, ok := Inputs(w, 6, r); !ok || got != r {
		t.Error("no inputs")
	}
	w[4].Ins.Cond = 7
	if got, ok := Inputs(w, 4, r); !ok || got != r {
		t.Error("one that is not right reads nothing")
	}
	for _, i := range []int{-1, 7, math.MinInt} {
		if got, ok := Inputs(w, i, r); ok || got != (api.Regs{}) {
			t.Error("no place")
		}
	}
}

func TestAddrP901(t *testing.T) {
	w := made(t, "movz x20, #7, 0", "str x20, x1, #16", "str x1, x20, #0", "ldrr x3, x1, x12", "ldrr x3, x1, x20", "stxr x20, x20, sp", "dc x2", "ic xzr", "add x3, x1, x1", "ldrb x3, x1, #3", "stlr x20, x1")
	r := base()
	for i, c := range []struct {
		addr uint64
		ok   bool
	}{{0, false}, {r.X[1] + 16, true}, {0, false}, {r.X[1] + 8, true}, {0, false}, {0x5000, true}, {r.X[2], true}, {0, true}, {0, false}, {r.X[1] + 3, true}, {r.X[1], true}} {
		if a, ok := Addr(w, i, r); a != c.addr || ok != c.ok {
			t.Errorf("%d: %x %v", i, a, ok)
		}
	}
	w[1].Ins.Imm = 4
	for _, i := range []int{1, -1, 11} {
		if a, ok := Addr(w, i, r); a != 0 || ok {
			t.Errorf("%d: %x", i, a)
		}
	}
}

func TestMayP902(t *testing.T) {
	mem := []string{"ldr x20, x3, #0", "str x0, x3, #0", "ldrb x20, x3, #0", "ldrr x20, x3, xzr", "strr x0, x3, xzr", "ldar x20, x3", "stlr x0, x3", "ldxr x20, x3", "stxr x20, x0, x3"}
	loads := []string{mem[0], mem[2], mem[3], mem[5], mem[7]}
	stores := []string{mem[1], mem[4], mem[6], mem[8]}
	branches := []string{"b #8", "b. 1, #8", "cbz x0, #8", "cbnz x0, #8", "bl #8", "br x0", "blr x0", "ret x0"}
	rest := []string{"nop", "movz x21, #1, 0", "add x21, x0, x0", "subsi xzr, x0, #1", "csinc x21, x0, x0, 1"}
	others := []string{"dmb #0", "dmb #1", "dmb #2", "dsb", "isb", "dc x4", "ic x4", "svc #0", "udf #0"}
	all := slices.Concat(mem, branches, rest, others)
	in := func(l []string, s string) bool { return slices.Contains(l, s) }
	isMem := func(s string) bool { return in(mem, s) }
	for _, j := range all {
		for _, i := range all {
			waits := j == "isb" || j == "dsb" && (isMem(i) || in(others, i) && i != "udf #0")
			waits = waits || isMem(i) && (j == "dmb #0" || j == "dmb #1" || j == "dmb #2" && in(stores, i))
			waits = waits || isMem(i) && j == mem[5]
			waits = waits || (in(stores, i) || i == mem[7] || i == "dc x4" || i == "ic x4" || i == "svc #0") && in(branches, j)
			waits = waits || i == mem[6] && isMem(j) || i == mem[5] && j == mem[6]
			waits = waits || (i == mem[7] || i == mem[8]) && (j == mem[7] || j == mem[8])
			waits = waits || i == "dmb #0" && isMem(j) || i == "dmb #1" && in(loads, j) || i == "dmb #2" && in(stores, j)
			waits = waits || i == "dsb" && (isMem(j) || j == "dc x4" || j == "ic x4")
			waits = waits || i == "isb" || i == "svc #0" || i == "udf #0"
			waits = waits || j == rest[3] && (i == rest[4] || i == branches[1])
			k := i
			if isMem(i) { // elsewhere, and into another register
				k = replace(replace(i, "x3", "x5"), "x20", "x22")
			}
			w := made(t, j, k)
			want := api.OK
			if waits {
				want = api.ErrNot
			}
			if got := May(w, 1, base()); got != want {
				t.Errorf("%s behind %s: %v", k, j, got)
			}
			w[0].Done = true
			if got := May(w, 1, base()); got != api.OK {
				t.Errorf("%s behind %s, which is done: %v", k, j, got)
			}
			w[1].Done = true
			if got := May(w, 1, base()); got != api.ErrNot {
				t.Errorf("%s is done: %v", k, got)
			}
		}
	}
	w := made(t, "nop")
	for _, i := range []int{-1, 1, math.MaxInt} {
		if got := May(w, i, base()); got != api.ErrArg {
			t.Errorf("no place: %v", got)
		}
	}
}

func replace(s, a, b string) string {
	for n := 0; n+len(a) <= len(s); n++ {
		if s[n:n+len(a)] == a {
			return s[:n] + b + s[n+len(a):]
		}
	}
	return s
}

func TestMayOfPlacesP902(t *testing.T) {
	for _, c := range []struct {
		lines []string
		may   bool
	}{
		{[]string{"add x2, x3, x3", "add x4, x2, x2"}, false}, {[]string{"subsi xzr, x3, #1", "b. 1, #8"}, false}, {[]string{"subsi xzr, x3, #1", "cbz x3, #8"}, true},
		{[]string{"str x0, x1, #0", "ldr x2, x1, #0"}, true}, {[]string{"stlr x0, x1", "ldr x2, x1, #0"}, false}, {[]string{"str x0, x1, #0", "ldr x2, x1, #8"}, true}, {[]string{"str x0, x1, #0", "ldar x2, x1"}, false}, {[]string{"str x0, x1, #0", "ldxr x2, x1"}, false},
		{[]string{"str x0, x1, #0", "ldrb x2, x1, #7"}, true}, {[]string{"str x0, x1, #0", "str x0, x11, #0"}, false}, {[]string{"str x0, x1, #8", "str x0, x10, #0"}, false}, {[]string{"str x0, x1, #0", "str x0, x10, #0"}, true},
		{[]string{"ldr x2, x1, #0", "ldr x3, x1, #0"}, false}, {[]string{"ldr x2, x1, #0", "ldr x3, x1, #8"}, true}, {[]string{"ldrb x2, x1, #0", "ldrb x3, x1, #7"}, false}, {[]string{"ldr x2, x1, #0", "str x3, x11, #0"}, false},
		{[]string{"movz x2, #1, 0", "ldr x3, x2, #0", "ldr x4, x1, #0"}, false}, {[]string{"movz x2, #1, 0", "str x2, x3, #0", "ldr x4, x1, #0"}, true}, {[]string{"movz x2, #1, 0", "str x2, x1, #0", "ldr x4, x1, #0"}, false}, {[]string{"movz x2, #1, 0", "str x3, x2, #0", "dc x1"}, false}, {[]string{"movz x2, #1, 0", "ldr x3, x2, #0", "dc x1"}, false}, {[]string{"movz x2, #1, 0", "str x3, x2, #0", "ic x1"}, true},
		{[]string{"str x0, x1, #56", "dc x1"}, false}, {[]string{"str x0, x2, #0", "dc x1"}, true}, {[]string{"stxr x7, x0, x1", "dc x10"}, false}, {[]string{"ldr x0, x1, #0", "dc x1"}, true}, {[]string{"str x0, x1, #0", "ic x1"}, true},
		{[]string{"ldr x2, x1, #0", "str x0, x1, #0", "ldr x3, x1, #0"}, true}, {[]string{"str x0, x1, #0", "ldr x2, x1, #0", "ldr x3, x1, #0"}, false}, {[]string{"str x0, x1, #0", "!ldr x2, x1, #0", "ldr x3, x1, #0"}, true}, {[]string{"str x0, x1, #0", "!str x0, x1, #0", "ldr x3, x1, #0"}, false},
	} {
		want := api.ErrNot
		if c.may {
			want = api.OK
		}
		if got := May(made(t, c.lines...), len(c.lines)-1, base()); got != want {
			t.Errorf("%q: %v", c.lines, got)
		}
	}
}

func TestMayNotRightP902(t *testing.T) {
	w := made(t, "dmb #0", "ldr x2, x1, #0")
	w[0].Ins.Imm = 9
	if May(w, 1, base()) != api.ErrNot {
		t.Error("a DMB that is none counts as of 0")
	}
	w = made(t, "ldr x2, x1, #0", "dmb #0")
	w[1].Ins.Imm = -1
	if May(w, 1, base()) != api.OK {
		t.Error("a DMB that is none waits for nothing")
	}
	w = made(t, "ldr x2, x1, #0", "ldr x3, x1, #0")
	w[0].Ins.Imm = 4
	if May(w, 1, base()) != api.ErrNot {
		t.Error("no place is known of one that is not right")
	}
	w[0].Ins.Imm, w[1].Ins.Imm = 0, 4
	if May(w, 1, base()) != api.OK {
		t.Error("one that is not right touches no granule")
	}
	w = []Inst{{Ins: api.Ins{Op: -5}}, {Ins: api.Ins{Op: 99, D: -1, N: 400}}}
	if May(w, 1, base()) != api.OK {
		t.Error("what is no op waits for nothing")
	}
}

func TestForwardP903(t *testing.T) {
	for _, c := range []struct {
		lines []string
		at    int
		ok    bool
	}{
		{[]string{"str x0, x1, #0", "ldr x2, x1, #0"}, 0, true}, {[]string{"nop", "strr x0, x1, xzr", "ldrr x2, x1, xzr"}, 1, true}, {[]string{"nop", "str x0, x1, #0", "ldrb x2, x1, #5"}, 1, true},
		{[]string{"str x0, x1, #0", "str x0, x1, #0", "ldr x2, x1, #0"}, 1, true}, {[]string{"nop", "str x0, x1, #0", "str x0, x2, #0", "ldr x2, x1, #0"}, 1, true},
		{[]string{"stlr x0, x1", "ldr x2, x1, #0"}, 0, false}, {[]string{"str x0, x1, #0", "stlr x0, x1", "ldr x2, x1, #0"}, 0, false}, {[]string{"str x0, x1, #0", "stxr x3, x0, x1", "ldr x2, x1, #0"}, 0, false},
		{[]string{"nop", "!str x0, x1, #0", "ldr x2, x1, #0"}, 0, false}, {[]string{"movz x5, #1, 0", "str x5, x1, #0", "ldr x2, x1, #0"}, 0, false}, {[]string{"!movz x5, #1, 0", "str x5, x1, #0", "ldr x2, x1, #0"}, 1, true}, {[]string{"nop", "str xzr, x1, #0", "ldr x2, x1, #0"}, 1, true},
		{[]string{"nop", "str x0, x1, #0", "ldrb x3, x1, #1", "ldr x2, x1, #0"}, 0, false}, {[]string{"nop", "str x0, x1, #0", "!ldrb x3, x1, #1", "ldr x2, x1, #0"}, 1, true}, {[]string{"nop", "str x0, x1, #0", "ldr x3, x1, #8", "ldr x2, x1, #0"}, 1, true}, {[]string{"nop", "ldr x3, x1, #0", "str x0, x1, #0", "ldr x2, x1, #0"}, 2, true},
		{[]string{"movz x5, #1, 0", "nop", "str x0, x1, #0", "str x0, x5, #0", "ldr x2, x1, #0"}, 2, true}, {[]string{"movz x1, #1, 0", "str x0, x2, #0", "ldr x2, x1, #0"}, 0, false}, {[]string{"str x0, x1, #0", "ldar x2, x1"}, 0, false}, {[]string{"str x0, x1, #0", "ldxr x2, x1"}, 0, false},
		{[]string{"str x0, x1, #0", "str x2, x1, #0"}, 0, false}, {[]string{"str x0, x1, #8", "ldr x2, x1, #0"}, 0, false}, {[]string{"ldr x2, x1, #0"}, 0, false},
	} {
		w := made(t, c.lines...)
		if at, ok := Forward(w, len(w)-1, base()); at != c.at || ok != c.ok {
			t.Errorf("%q: %d %v", c.lines, at, ok)
		}
	}
	w := made(t, "nop", "str x0, x1, #0", "ldr x2, x13, #0", "ldrb x2, x13, #0")
	r := base()
	r.X[13] = r.X[1] + 4
	if at, ok := Forward(w, 2, r); at != 0 || ok {
		t.Error("a place that is no multiple of 8")
	}
	if at, ok := Forward(w[:2:2], 1, r); at != 0 || ok {
		t.Error("a store")
	}
	w[2].Done = true
	if at, ok := Forward(w, 3, r); at != 1 || !ok {
		t.Error("a byte anywhere in the granule")
	}
	for _, i := range []int{-1, 4} {
		if at, ok := Forward(w, i, r); at != 0 || ok {
			t.Error("no place")
		}
	}
}

func TestFetchesRetiresUndoneP904(t *testing.T) {
	w := make([]Inst, 11)
	for n := range w {
		w[n].Ins.Op = api.NOP
	}
	if !Fetches(nil) || !Fetches(w) || Fetches(append(w, Inst{Ins: api.Ins{Op: api.NOP}})) || Fetches(make([]Inst, 40)) {
		t.Error("how many")
	}
	for op := -1; op <= api.SVC+1; op++ {
		ends := slices.Contains([]int{api.BR, api.BLR, api.RET, api.SVC, api.UDF, api.ISB}, op)
		x := Inst{Ins: api.Ins{Op: op}}
		if Fetches([]Inst{{Done: false}, x}) == ends {
			t.Errorf("behind %d", op)
		}
		x.Done = true
		if !Fetches([]Inst{{}, x}) {
			t.Errorf("behind %d, which is done", op)
		}
	}
	w = made(t, "!nop", "!nop", "nop", "!nop", "nop")
	if Retires(w) != 2 || Retires(w[:2]) != 2 || Retires(w[2:]) != 0 || Retires(nil) != 0 {
		t.Error("Retires")
	}
	seq := Undone(w)
	w[2].Done = true
	for range 2 {
		if got := slices.Collect(seq); !slices.Equal(got, []int{2, 4}) {
			t.Errorf("Undone: %v", got)
		}
	}
	for range seq {
		break
	}
}
