package litmus

import (
	"slices"
	"strings"
	"testing"

	"brazier/api"
	"brazier/mach"
)

const (
	setX = "movz x1, #2, 1\naddi x2, x1, #64\nmovz x3, #1, 0\n" // X1: the place x, X2: the place y, X3: 1
	x, y = Data, Data + 64
)

func TestCheckP1201(t *testing.T) {
	long := strings.Repeat("nop\n", 200)
	for n, c := range []struct {
		t    Test
		want api.Errno
	}{
		{Test{Threads: []string{"nop"}}, api.OK}, {Test{Threads: []string{"", "", "", ""}}, api.OK}, {Test{}, api.ErrArg}, {Test{Threads: make([]string, 5)}, api.ErrArg}, {Test{Threads: []string{"nop", "bad"}}, api.ErrForm},
		{Test{Threads: []string{long}}, api.OK}, {Test{Threads: []string{long + "nop"}}, api.ErrMany}, {Test{Threads: []string{long + "nop", "bad"}}, api.ErrMany}, {Test{Threads: []string{"bad", long + "nop"}}, api.ErrForm}, {Test{Threads: []string{strings.Repeat("nop\n", api.MaxWords+1)}}, api.ErrMany},
		{Test{Threads: []string{"nop"}, Init: []Cell{{Addr: Data}, {Addr: Data + Size - 8}}}, api.OK}, {Test{Threads: []string{"nop"}, Init: []Cell{{Addr: Data + Size}}}, api.ErrArg}, {Test{Threads: []string{"nop"}, Init: []Cell{{Addr: Data - 8}}}, api.ErrArg}, {Test{Threads: []string{"nop"}, Init: []Cell{{Addr: Data + 4}}}, api.ErrArg},
		{Test{Threads: []string{"bad"}, Init: []Cell{{Addr: 3}}}, api.ErrForm},
	} {
		if e := Check(c.t); e != c.want {
			t.Errorf("case %d: %v", n, e)
		}
		if m, e := Build(c.t); e != c.want || (m == nil) != (e != api.OK) {
			t.Errorf("case %d: Build %v", n, e)
		}
		if o, e := Run(c.t); e != c.want || e != api.OK && (o.Regs != nil || o.Cells != nil || o.Ended) {
			t.Errorf("case %d: Run %v", n, e)
		}
	}
}

func TestBuildP1201(t *testing.T) {
	m, _ := Build(Test{[]string{"nop", "ret x30"}, []Cell{{x, 5}, {y, 6}, {x, 7}}})
	want := []api.Region{{At: Code, Size: Size, Execute: true}, {At: Code + Size, Size: Size, Execute: true}, {At: Data, Size: Size, Write: true}}
	if !slices.Equal(m.Memory().Regions(), want) {
		t.Errorf("%v", m.Memory().Regions())
	}
	word := func(addr uint64) uint32 { w, _ := m.Side().Told(addr); return w }
	if word(Code) != 0xD503201F || word(Code+4) != 0xD4000001 || word(Code+8) != 0 || word(Code+Size) != 0xD65F03C0 || word(Code+Size+4) != 0xD4000001 {
		t.Error("words")
	}
	if v, _ := m.Memory().Read(x); v != 7 {
		t.Error("the later cell of one place counts")
	}
	for k := range 2 {
		if !m.Runs(k) || m.Pc(k) != Code+uint64(k)*Size || m.Regs(k) != (api.Regs{SP: Data + Size}) {
			t.Errorf("core %d", k)
		}
	}
	if m.Runs(2) || m.Side().Pending(2) != 0 {
		t.Error("more cores than threads")
	}
}

func TestRunP1202(t *testing.T) {
	o, e := Run(Test{[]string{setX + "str x3, x1, #0", "movz x30, #9, 0"}, []Cell{{y, 6}, {x, 5}, {y, 8}}})
	if e != api.OK || !o.Ended || len(o.Regs) != 2 || o.Regs[0][3] != 1 || o.Regs[1][30] != 9 || !slices.Equal(o.Cells, []Cell{{x, 1}, {y, 8}}) {
		t.Errorf("%+v %v", o, e)
	}
	o, _ = Run(Test{[]string{"nop"}, []Cell{{x + 24, 1}, {x + 8, 2}, {x, 3}, {x + 16, 4}, {x + 8, 5}}})
	if !slices.Equal(o.Cells, []Cell{{x, 3}, {x + 8, 5}, {x + 16, 4}, {x + 24, 1}}) {
		t.Errorf("%+v", o.Cells)
	}
	for p, ended := range map[string]int{"b #0": 0, "udf #0": 0, "ldr x1, x0, #0": 0, "svc #77": 1} {
		if o, _ := Run(Test{Threads: []string{"nop", p}}); o.Ended != (ended == 1) {
			t.Errorf("%q: %v", p, o.Ended)
		}
	}
	if o, _ := Run(Test{Threads: []string{"movz x0, #1, 0\nsvc #3\nmovz x0, #2, 0"}}); !o.Ended || o.Regs[0][0] != 1 {
		t.Error("SVC ends a core")
	}
	o, _ = Run(Test{Threads: []string{"movz x0, #1, 0"}}, api.Move{Kind: 99}, api.Move{Kind: api.KDo}, api.Move{Kind: api.KFetch, Core: 7}, api.Move{Kind: api.KFetch})
	if !o.Ended || o.Regs[0][0] != 1 {
		t.Error("moves that are not OK are passed over")
	}
}

func TestConditionsP1202(t *testing.T) {
	o := Outcome{Regs: make([][31]uint64, 2)}
	o.Regs[1][30] = 7
	if !Holds(o, 1, 30, 7) || Holds(o, 1, 30, 8) || Holds(o, 2, 0, 0) || Holds(o, -1, 0, 0) || Holds(o, 0, 31, 0) || Holds(o, 0, -1, 0) || !Holds(o, 0, 0, 0) || Holds(Outcome{}, 0, 0, 0) {
		t.Error("Holds")
	}
	yes, no := func(Outcome) bool { return true }, func(o Outcome) bool { return Holds(o, 1, 30, 8) }
	if !All(o) || !All(o, yes, yes) || All(o, yes, no) || All(o, no, yes) {
		t.Error("All")
	}
}

// scripts are some moves, from a short rule.
func scripts(n, length int) [][]api.Move {
	seed := uint32(9)
	next := func(n int) int { seed = seed*1664525 + 1013904223; return int(seed>>8) % n }
	var all [][]api.Move
	for range n {
		var l []api.Move
		for range length {
			if next(2) == 0 {
				l = append(l, api.Move{Kind: api.KFetch, Core: next(2), N: next(2)})
			} else {
				l = append(l, api.Move{Kind: api.KDo, Core: next(2), N: next(6)})
			}
		}
		all = append(all, l)
	}
	return all
}

// shown tells whether some script shows what is asked for.
func shown(t *testing.T, test Test, f ...func(Outcome) bool) bool {
	t.Helper()
	for _, l := range append(scripts(1500, 50), nil) {
		o, e := Run(test, l...)
		if e != api.OK || !o.Ended {
			t.Fatalf("%v %+v", e, o)
		}
		if All(o, f...) {
			return true
		}
	}
	return false
}

func is(thread, reg int, v uint64) func(Outcome) bool {
	return func(o Outcome) bool { return Holds(o, thread, reg, v) }
}

func TestMessagesP1203(t *testing.T) {
	writes := func(barrier, flag string) string { return setX + "str x3, x1, #0\n" + barrier + flag + "\n" }
	reads := func(flag, barrier string) string { return setX + flag + "\n" + barrier + "ldr x11, x1, #0" }
	const plain, get = "str x3, x2, #0", "ldr x10, x2, #0"
	for _, c := range []struct {
		a, b  string
		fails bool
	}{
		{writes("", plain), reads(get, ""), true}, {writes("dmb #0\n", plain), reads(get, ""), true}, {writes("", plain), reads(get, "dmb #0\n"), true},
		{writes("dmb #0\n", plain), reads(get, "dmb #0\n"), false}, {writes("dmb #2\n", plain), reads(get, "dmb #1\n"), false}, {writes("", "stlr x3, x2"), reads("ldar x10, x2", ""), false},
	} {
		if shown(t, Test{Threads: []string{c.a, c.b}}, is(1, 10, 1), is(1, 11, 0)) != c.fails {
			t.Errorf("a message behind its flag: %q, %q", c.a, c.b)
		}
	}
}

func TestStoresAndLoadsP1203(t *testing.T) {
	side := func(barrier, a, b string) string {
		return setX + "str x3, " + a + ", #0\n" + barrier + "ldr x10, " + b + ", #0"
	}
	for barrier, fails := range map[string]int{"": 1, "dmb #2\n": 1, "dmb #0\n": 0} {
		got := shown(t, Test{Threads: []string{side(barrier, "x1", "x2"), side(barrier, "x2", "x1")}}, is(0, 10, 0), is(1, 10, 0))
		if got != (fails == 1) {
			t.Errorf("both miss the other's store, with %q: %v", barrier, got)
		}
	}
}

func TestOnePlaceP1203(t *testing.T) {
	test := Test{Threads: []string{setX + "str x3, x1, #0", setX + "ldr x10, x1, #0\nldr x11, x1, #0"}}
	if shown(t, test, is(1, 10, 1), is(1, 11, 0)) {
		t.Error("loads of one place go back")
	}
	if !shown(t, test, is(1, 10, 0), is(1, 11, 1)) {
		t.Error("they go on")
	}
}

func TestCountingP1203(t *testing.T) {
	const up = setX + "movz x4, #5, 0\nldxr x10, x1\naddi x10, x10, #1\nstxr x11, x10, x1\ncbnz x11, #-12\nsubsi x4, x4, #1\nb. 1, #-20"
	test := Test{Threads: []string{up, up}, Init: []Cell{{x, 0}}}
	for _, l := range append(scripts(100, 200), nil) {
		if o, _ := Run(test, l...); !o.Ended || o.Cells[0].Value != 10 {
			t.Errorf("%+v", o)
		}
	}
	const plain = setX + "ldr x10, x1, #0\naddi x10, x10, #1\nstr x10, x1, #0"
	if !shown(t, Test{[]string{plain, plain}, []Cell{{x, 0}}}, func(o Outcome) bool { return o.Cells[0].Value == 1 }) {
		t.Error("without them something may be lost")
	}
}

var _ mach.Host = ender{}
