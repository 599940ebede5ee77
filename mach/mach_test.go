package mach

import (
	"slices"
	"strconv"
	"testing"

	"brazier/a64"
	"brazier/api"
	"brazier/enc"
	"brazier/mem"
	"brazier/seq"
	"brazier/text"
)

const (
	codeAt = 0x1000 // 0x200 bytes a core
	dataAt = 0x8000
	readAt = 0x9000 // may only be read
)

// host notes its calls: 9 ends, 8 waits while it is told so, another one adds 1 to X0.
type host struct {
	calls []int
	waits bool
}

func (h *host) Call(core, n int, r api.Regs) (api.Regs, int) {
	h.calls = append(h.calls, n)
	switch {
	case n == 9:
		r.X[0] += 100
		return r, End
	case n == 7:
		return r, endAll
	case n == 8 && h.waits:
		r.X[0] = 77
		return r, Wait
	}
	r.X[0]++
	return r, Go
}

func memory1(t *testing.T, programs ...string) *mem.Memory {
	t.Helper()
	m, e := mem.New(api.Region{At: codeAt, Size: 0x800, Execute: true, Write: true}, api.Region{At: dataAt, Size: 256, Write: true}, api.Region{At: readAt, Size: 64})
	if e != api.OK {
		t.Fatal(e)
	}
	for k, p := range programs {
		l, n, e := text.Program(p)
		if e != api.OK {
			t.Fatalf("line %d: %v", n, e)
		}
		b, _ := enc.Bytes(l...)
		m.Load(uint64(codeAt+0x200*k), b)
	}
	return m
}

// made tells a machine on which each program is started: X1 is dataAt, X2 64 more, X3 readAt.
func made(t *testing.T, programs ...string) *Machine {
	t.Helper()
	x, e := New(memory1(t, programs...), len(programs))
	if e != api.OK {
		t.Fatal(e)
	}
	for k := range programs {
		if e := x.Start(k, uint64(codeAt+0x200*k), regs()); e != api.OK {
			t.Fatal(e)
		}
	}
	return x
}

func regs() api.Regs {
	var r api.Regs
	r.X[1], r.X[2], r.X[3], r.SP = dataAt, dataAt+64, readAt, dataAt+128
	return r
}

func fetch(x *Machine, core, n int) {
	for range n {
		x.Move(nil, api.Move{Kind: api.KFetch, Core: core})
	}
}

func do(x *Machine, h Host, core, at int) api.Errno {
	return x.Move(h, api.Move{Kind: api.KDo, Core: core, N: at})
}

func want(t *testing.T, what string, got, want any) {
	t.Helper()
	if got != want {
		t.Errorf("%s: %v, not %v", what, got, want)
	}
}

func TestNewStartP1101(t *testing.T) {
	for _, n := range []int{0, -1, 5} {
		if x, e := New(memory1(t), n); x != nil || e != api.ErrArg {
			t.Errorf("%d cores: %v", n, e)
		}
	}
	m := memory1(t, "nop\nnop")
	x, _ := New(m, 2)
	if x.Memory() != m || x.Side() == nil || x.Runs(0) || x.Runs(1) || x.Moves() != 0 || len(x.Log()) != 0 {
		t.Error("a new machine")
	}
	want(t, "a core that does not run", x.Move(nil, api.Move{Kind: api.KFetch}), api.ErrNot)
	for _, c := range []int{-1, 2} {
		want(t, "Start", x.Start(c, codeAt, regs()), api.ErrArg)
		if x.Runs(c) || x.Fault(c) || x.Pc(c) != 0 || x.Regs(c) != (api.Regs{}) || x.Window(c) != nil || x.Took(c) != nil {
			t.Errorf("core %d", c)
		}
	}
	want(t, "Start", x.Start(1, codeAt, regs()), api.OK)
	want(t, "Start again", x.Start(1, codeAt, regs()), api.ErrNot)
	if !x.Runs(1) || x.Runs(0) || x.Pc(1) != codeAt || x.Regs(1) != regs() {
		t.Error("a core that was started")
	}
	fetch(x, 1, 2)
	do(x, nil, 1, 0)
	want(t, "moves", x.Moves(), 3)
	if w := x.Window(1); len(w) != 1 || w[0].Pc != codeAt+4 || w[0].Next != codeAt+8 || !slices.Equal(x.Took(1), []Took{{codeAt, 0xD503201F}}) {
		t.Error("Window and Took")
	}
	x.Window(1)[0].Done = true
	x.Took(1)[0].Pc = 5
	if x.Window(1)[0].Done || x.Took(1)[0].Pc != codeAt {
		t.Error("what is told is not new memory")
	}
}

func TestMovesWrongP1102(t *testing.T) {
	x := made(t, "nop")
	for _, m := range []api.Move{{}, {Kind: 9}, {Kind: -1}, {Kind: api.KFetch, Core: 1}, {Kind: api.KDo, Core: -1}, {Kind: api.KInterrup, Core: 4}, {Kind: api.KDeliver, Core: 1}, {Kind: api.KEvict, Core: 1}, {Kind: api.KRefill, Core: 1, Addr: codeAt}, {Kind: api.KAhead, Core: 1, Addr: codeAt}, {Kind: api.KDo}, {Kind: api.KDo, N: -1}} {
		want(t, "wrong move", x.Move(nil, m), api.ErrArg)
	}
	for _, m := range []api.Move{{Kind: api.KEvict, Addr: codeAt}, {Kind: api.KDeliver}, {Kind: api.KInterrup}} {
		want(t, "not now", x.Move(nil, m), api.ErrNot)
	}
	for _, m := range []api.Move{{Kind: api.KAhead, Addr: 4}, {Kind: api.KRefill, Addr: dataAt}, {Kind: api.KFlow, Addr: dataAt}} {
		want(t, "no word", x.Move(nil, m), api.ErrFault)
	}
	want(t, "moves", x.Moves(), 0)
	for _, m := range []api.Move{{Kind: api.KAhead, Addr: codeAt}, {Kind: api.KRefill, Addr: codeAt + 4}, {Kind: api.KFlow, Core: 99, Addr: codeAt}, {Kind: api.KEvict, Addr: codeAt}} {
		want(t, "move", x.Move(nil, m), api.OK)
	}
	want(t, "moves", x.Moves(), 4)
}

func TestFetchP1102(t *testing.T) {
	x := made(t, "b #8\nudf #3\nb. 1, #8\nudf #3\ncbz x5, #8\nnop\nbl #8\nnop\nret x30")
	steps := []struct {
		n          int
		at, behind uint64
	}{{0, 0, 8}, {1, 8, 16}, {0, 16, 20}, {0, 20, 24}, {0, 24, 32}, {0, 32, 0}}
	for n, s := range steps {
		want(t, "pc", x.Pc(0), codeAt+s.at)
		want(t, "fetch", x.Move(nil, api.Move{Kind: api.KFetch, N: s.n}), api.OK)
		behind := s.behind
		if behind != 0 {
			behind += codeAt
		}
		w := x.Window(0)
		if len(w) != n+1 || w[n].Pc != codeAt+s.at || w[n].Next != behind || x.Pc(0) != behind || w[n].Done {
			t.Errorf("%+v: %+v", s, w[n])
		}
	}
	want(t, "behind RET", x.Move(nil, api.Move{Kind: api.KFetch}), api.ErrNot)
	for p, behind := range map[string]uint64{"b. 1, #8": codeAt + 4, "cbnz x1, #8": codeAt + 4} {
		x := made(t, p)
		x.Move(nil, api.Move{Kind: api.KFetch, N: 2})
		want(t, p, x.Pc(0), behind)
	}
	x = made(t, "b #4096\nnop")
	fetch(x, 0, 2)
	if w := x.Window(0); w[1].Ins != (api.Ins{}) || w[1].Next != codeAt+4100 {
		t.Errorf("a word that is not there: %+v", w[1])
	}
	x = made(t, "udf #0")
	x.Memory().Load(codeAt, []byte{0xFF, 0xFF, 0xFF, 0xFF})
	x.Side().Clean(codeAt)
	fetch(x, 0, 1)
	if w := x.Window(0); w[0].Ins != (api.Ins{Imm: 0xFFFF}) {
		t.Errorf("a word that is none's: %+v", w[0])
	}
}

func TestFetchAheadP1102(t *testing.T) {
	x := made(t, "nop")
	x.Move(nil, api.Move{Kind: api.KAhead, Addr: codeAt})
	b, _ := enc.Bytes(api.Ins{Op: api.ISB})
	x.Memory().Load(codeAt, b)
	x.Move(nil, api.Move{Kind: api.KFlow, Addr: codeAt})
	x.Move(nil, api.Move{Kind: api.KEvict, Addr: codeAt})
	x.Move(nil, api.Move{Kind: api.KFetch, N: 2})
	x.Move(nil, api.Move{Kind: api.KInterrup})
	want(t, "pc", x.Pc(0), uint64(codeAt))
	x.Move(nil, api.Move{Kind: api.KFetch, N: 2})
	want(t, "ahead", x.Window(0)[0].Ins.Op, api.NOP)
	x.Move(nil, api.Move{Kind: api.KInterrup})
	x.Move(nil, api.Move{Kind: api.KFetch, N: 1})
	want(t, "not ahead", x.Window(0)[0].Ins.Op, api.ISB)
	do(x, nil, 0, 0)
	if _, held := x.Side().Held(0, codeAt); held {
		t.Error("ISB lets go what is held ahead")
	}
}

func TestInterruptP1102(t *testing.T) {
	x := made(t, "movz x5, #1, 0\nmovz x6, #1, 0\nmovz x7, #1, 0\nnop")
	want(t, "empty", x.Move(nil, api.Move{Kind: api.KInterrup}), api.ErrNot)
	fetch(x, 0, 4)
	do(x, nil, 0, 1)
	want(t, "interrupt", x.Move(nil, api.Move{Kind: api.KInterrup}), api.OK)
	if len(x.Window(0)) != 2 || x.Pc(0) != codeAt+8 {
		t.Error("what stands behind the last one that is done is dropped")
	}
	want(t, "again", x.Move(nil, api.Move{Kind: api.KInterrup}), api.ErrNot)
	fetch(x, 0, 2)
	do(x, nil, 0, 0)
	if x.Move(nil, api.Move{Kind: api.KInterrup}) != api.OK || len(x.Window(0)) != 0 || x.Pc(0) != codeAt+8 || x.Regs(0).X[6] != 1 {
		t.Error("without one that is done all is dropped")
	}
}

func TestOutOfOrderP1103P1104(t *testing.T) {
	x := made(t, "str x1, x1, #8\nldr x6, x1, #8\nldrb x7, x1, #9\nldr x8, x2, #0\nldrb x9, x1, #9")
	x.Memory().Write(dataAt+64, 99)
	fetch(x, 0, 5)
	want(t, "load elsewhere", do(x, nil, 0, 3), api.OK)
	want(t, "forwarded", do(x, nil, 0, 1), api.OK)
	want(t, "forwarded byte", do(x, nil, 0, 2), api.OK)
	want(t, "nothing retired", len(x.Log()), 0)
	want(t, "not written", func() uint64 { v, _ := x.Memory().Read(dataAt + 8); return v }(), uint64(0))
	want(t, "store", do(x, nil, 0, 0), api.OK)
	want(t, "last", do(x, nil, 0, 0), api.OK)
	own := api.Write{Core: 0, N: 1}
	log := []api.Access{
		{Pc: codeAt, Op: api.STR, Addr: dataAt + 8, Value: dataAt, From: own, At: 9}, {Pc: codeAt + 4, Op: api.LDR, Addr: dataAt + 8, Value: dataAt, From: own, At: 7}, {Pc: codeAt + 8, Op: api.LDRB, Addr: dataAt + 9, Value: 0x80, From: own, At: 8},
		{Pc: codeAt + 12, Op: api.LDR, Addr: dataAt + 64, Value: 99, From: api.Write{Core: -1}, At: 6}, {Pc: codeAt + 16, Op: api.LDRB, Addr: dataAt + 9, Value: 0x80, From: own, At: 10},
	}
	if !slices.Equal(x.Log(), log) {
		t.Errorf("Log: %+v", x.Log())
	}
	if r := x.Regs(0); r.X[6] != dataAt || r.X[7] != 0x80 || r.X[8] != 99 || r.X[9] != 0x80 {
		t.Errorf("registers: %v", r.X[:10])
	}
	want(t, "took", len(x.Took(0)), 5)
}

func TestWritesAreNumberedAsDoneP1104(t *testing.T) {
	x := made(t, "str x1, x1, #0\nstr x2, x1, #8\nldr x5, x1, #0", "ldr x5, x1, #8\nldr x6, x1, #0\nstr x6, x1, #16")
	fetch(x, 0, 3)
	fetch(x, 1, 3)
	want(t, "the later store first", do(x, nil, 0, 1), api.OK)
	want(t, "forwarded", do(x, nil, 0, 2), api.OK)
	do(x, nil, 1, 0)
	do(x, nil, 1, 0)
	do(x, nil, 0, 0)
	do(x, nil, 1, 0)
	var from []api.Write
	for _, a := range x.Log() {
		from = append(from, a.From)
	}
	if !slices.Equal(from, []api.Write{{Core: 0, N: 1}, {Core: -1}, {Core: 0, N: 2}, {Core: 0, N: 1}, {Core: 0, N: 2}, {Core: 1, N: 1}}) {
		t.Errorf("%v", from)
	}
}

func TestFaultsP1103(t *testing.T) {
	for _, p := range []string{"ldr x5, x9, #0", "ldrb x5, x9, #0", "ldar x5, x9", "ldxr x5, x9", "str x5, x9, #0", "stlr x5, x9", "str x5, x3, #0", "udf #7"} {
		x := made(t, "nop\n"+p+"\nnop")
		fetch(x, 0, 3)
		want(t, p+" behind another", do(x, nil, 0, 1), api.ErrNot)
		do(x, nil, 0, 0)
		if x.Fault(0) || !x.Runs(0) {
			t.Fatal(p)
		}
		before := x.Moves()
		want(t, p, do(x, nil, 0, 0), api.OK)
		if !x.Fault(0) || x.Runs(0) || x.Moves() != before+1 || len(x.Took(0)) != 1 || len(x.Log()) != 0 {
			t.Errorf("%s: no fault", p)
		}
		want(t, "at fault", do(x, nil, 0, 0), api.ErrNot)
		want(t, "at fault", x.Move(nil, api.Move{Kind: api.KFetch}), api.ErrNot)
		want(t, "at fault", x.Move(nil, api.Move{Kind: api.KInterrup}), api.ErrNot)
		want(t, "started", x.Start(0, codeAt, regs()), api.OK)
		if x.Fault(0) || len(x.Window(0)) != 0 || len(x.Took(0)) != 0 {
			t.Error("started again")
		}
	}
	x := made(t, "cbz x5, #8\nldr x6, x9, #0\nnop")
	fetch(x, 0, 2)
	want(t, "on a way that is not gone", do(x, nil, 0, 1), api.ErrNot)
	do(x, nil, 0, 0)
	if len(x.Window(0)) != 0 || x.Pc(0) != codeAt+8 || x.Fault(0) {
		t.Error("it is dropped")
	}
}

func TestExclusiveP1103(t *testing.T) {
	const p = "ldxr x5, x1\nstxr x6, x2, x1\nnop"
	status := func(x *Machine, core int) uint64 { return x.Regs(core).X[6] }
	round := func(x *Machine, core int, addr uint64) {
		for x.Move(nil, api.Move{Kind: api.KDo, Core: core, Addr: addr}) == api.OK {
		}
	}
	x := made(t, p, p)
	fetch(x, 0, 2)
	fetch(x, 1, 2)
	round(x, 0, 0)
	round(x, 1, 0)
	if status(x, 0) != 0 || status(x, 1) != 0 || len(x.Log()) != 4 || x.Log()[2].From != (api.Write{Core: 0, N: 1}) {
		t.Error("one behind the other")
	}
	x = made(t, p, p)
	fetch(x, 0, 2)
	fetch(x, 1, 2)
	do(x, nil, 0, 0)
	do(x, nil, 1, 0)
	do(x, nil, 1, 0)
	do(x, nil, 0, 0)
	if status(x, 0) != 1 || status(x, 1) != 0 || len(x.Log()) != 3 {
		t.Error("another core's store takes the mark")
	}
	x = made(t, p)
	fetch(x, 0, 2)
	round(x, 0, 1)
	v, _ := x.Memory().Read(dataAt)
	if status(x, 0) != 1 || v != 0 || len(x.Log()) != 1 {
		t.Error("it is let fail")
	}
	x = made(t, "ldxr x5, x1\nstr x3, x1, #0\nstxr x6, x2, x1\nstxr x7, x2, x1\nstxr x8, x2, x9\nnop", "str x1, x1, #8")
	fetch(x, 0, 5)
	fetch(x, 1, 1)
	do(x, nil, 0, 0)
	do(x, nil, 1, 0)
	round(x, 0, 0)
	if r := x.Regs(0); r.X[6] != 0 || r.X[7] != 1 || r.X[8] != 1 || x.Fault(0) {
		t.Errorf("own stores, stores elsewhere leave the mark; no STXR does; one that fails touches nothing: %v", r.X[5:9])
	}
	x = made(t, "ldxr x5, x3\nstxr x6, x2, x3")
	fetch(x, 0, 2)
	want(t, "behind another", do(x, nil, 0, 1), api.ErrNot)
	do(x, nil, 0, 0)
	do(x, nil, 0, 0)
	want(t, "fault", x.Fault(0), true)
}

func TestExclusiveRefusedP1103(t *testing.T) {
	x := made(t, "ldxr x5, x3\nnop\nstxr x6, x2, x3")
	fetch(x, 0, 3)
	do(x, nil, 0, 0)
	moves := x.Moves()
	if do(x, nil, 0, 1) != api.ErrNot || x.Moves() != moves || x.Window(0)[1].Done || x.Fault(0) {
		t.Error("a store that memory refuses, behind another")
	}
	do(x, nil, 0, 0)
	if do(x, nil, 0, 0) != api.OK || !x.Fault(0) || x.Regs(0).X[6] != 0 {
		t.Error("and as the first")
	}
}

func TestMarkStaysP1101(t *testing.T) {
	x := made(t, "ldxr x5, x1\nstr x1, x2, #0\nudf #0")
	fetch(x, 0, 3)
	for do(x, nil, 0, 0) == api.OK {
	}
	b, _ := enc.Bytes(api.Ins{Op: api.STXR, D: 6, N: 1, M: 2})
	x.Memory().Load(codeAt+64, b)
	x.Side().Clean(codeAt + 64)
	x.Start(0, codeAt+64, regs())
	fetch(x, 0, 1)
	do(x, nil, 0, 0)
	l := x.Log()
	if x.Regs(0).X[6] != 0 || l[len(l)-1].From != (api.Write{Core: 0, N: 2}) {
		t.Errorf("mark and count stay: %+v", l)
	}
}

func TestTellingP1103(t *testing.T) {
	x := made(t, "str x9, x10, #0\ndc x10\ndsb\nic x10\ndsb\nisb\nnop", "nop")
	r := regs()
	b, _ := enc.Words(api.Ins{Op: api.ISB}, api.Ins{Op: api.ISB})
	r.X[9], r.X[10] = uint64(b[0])|uint64(b[1])<<32, codeAt+0x200
	x, _ = New(x.Memory(), 2)
	x.Start(0, codeAt, r)
	x.Move(nil, api.Move{Kind: api.KRefill, Core: 1, Addr: codeAt + 0x200})
	x.Move(nil, api.Move{Kind: api.KAhead, Core: 0, Addr: codeAt + 0x200})
	fetch(x, 0, 9)
	want(t, "window up to ISB", len(x.Window(0)), 6)
	told := func() uint32 { w, _ := x.Side().Told(codeAt + 0x200); return w }
	want(t, "told", told(), uint32(0xD503201F))
	do(x, nil, 0, 0)
	want(t, "written, not told", told(), uint32(0xD503201F))
	do(x, nil, 0, 0)
	want(t, "DC", told(), b[0])
	do(x, nil, 0, 0)
	do(x, nil, 0, 0)
	if x.Side().Waiting(0) != 1 || x.Side().Waiting(1) != 1 {
		t.Error("IC")
	}
	want(t, "DSB waits", do(x, nil, 0, 0), api.ErrNot)
	x.Move(nil, api.Move{Kind: api.KDeliver, Core: 0})
	want(t, "DSB waits", do(x, nil, 0, 0), api.ErrNot)
	x.Move(nil, api.Move{Kind: api.KDeliver, Core: 1})
	want(t, "DSB", do(x, nil, 0, 0), api.OK)
	if _, ok := x.Side().Cached(1, codeAt+0x200); ok {
		t.Error("delivered")
	}
	do(x, nil, 0, 0)
	if _, ok := x.Side().Held(0, codeAt+0x200); ok || x.Pc(0) != codeAt+24 {
		t.Error("ISB")
	}
}

func TestBranchesP1103(t *testing.T) {
	x := made(t, "cbz x5, #12\nmovz x6, #1, 0\nmovz x7, #1, 0\nbl #8\nnop\nret x30")
	fetch(x, 0, 3)
	do(x, nil, 0, 2)
	do(x, nil, 0, 0)
	if len(x.Window(0)) != 0 || x.Pc(0) != codeAt+12 || x.Regs(0).X[7] != 0 {
		t.Error("what stands behind is dropped, done or not")
	}
	fetch(x, 0, 3)
	want(t, "RET", len(x.Window(0)), 2)
	do(x, nil, 0, 1)
	do(x, nil, 0, 0)
	want(t, "done", len(x.Window(0)), 1)
	do(x, nil, 0, 0)
	if x.Pc(0) != codeAt+16 || x.Regs(0).X[30] != codeAt+16 {
		t.Error("BL and RET")
	}
	x = made(t, "cbnz x5, #8\nnop\nnop")
	x.Move(nil, api.Move{Kind: api.KFetch, N: 1})
	fetch(x, 0, 1)
	do(x, nil, 0, 0)
	want(t, "guessed wrong", x.Pc(0), uint64(codeAt+4))
	x = made(t, "cbnz x1, #8\nnop\nnop")
	x.Move(nil, api.Move{Kind: api.KFetch, N: 1})
	fetch(x, 0, 1)
	do(x, nil, 0, 0)
	want(t, "guessed right", len(x.Window(0)), 1)
}

func TestCallsP1103(t *testing.T) {
	h := &host{waits: true}
	x := made(t, "nop\nsvc #8\nsvc #3\nsvc #9\nnop")
	fetch(x, 0, 5)
	want(t, "behind SVC", len(x.Window(0)), 2)
	want(t, "not first", do(x, h, 0, 1), api.ErrNot)
	do(x, h, 0, 0)
	want(t, "waits", do(x, h, 0, 0), api.ErrNot)
	want(t, "nothing is done", x.Regs(0).X[0], uint64(0))
	h.waits = false
	want(t, "goes", do(x, h, 0, 0), api.OK)
	want(t, "registers", x.Regs(0).X[0], uint64(1))
	fetch(x, 0, 1)
	do(x, h, 0, 0)
	fetch(x, 0, 1)
	want(t, "ends", do(x, h, 0, 0), api.OK)
	if x.Runs(0) || x.Fault(0) || x.Regs(0).X[0] != 102 || len(x.Took(0)) != 4 || !slices.Equal(h.calls, []int{8, 8, 3, 9}) {
		t.Errorf("ended: %v %v", x.Regs(0).X[0], h.calls)
	}
}

func TestAllEndP1103(t *testing.T) {
	h := &host{}
	x := made(t, "svc #7\nnop", "nop\nnop")
	fetch(x, 1, 2)
	fetch(x, 0, 1)
	want(t, "ends", do(x, h, 0, 0), api.OK)
	if x.Runs(0) || x.Runs(1) || x.Fault(1) || len(x.Took(0)) != 1 || do(x, h, 1, 0) != api.ErrNot {
		t.Error("all end")
	}
}

func TestDriveP1105(t *testing.T) {
	h := &host{}
	x := made(t, "movz x5, #3, 0\nsubsi x5, x5, #1\nb. 1, #-4\nsvc #9", "ic x1\ndsb\nsvc #9")
	want(t, "no rounds", x.Drive(h, 0)+x.Drive(h, -3), 0)
	one := x.Drive(h, 1)
	// core 0: fetches and does 3; core 1: fetches and does IC, fetches DSB and SVC, its own invalidation is delivered
	want(t, "one round", one, 6+1+1+2+1)
	n := x.Drive(h, 1000)
	if x.Runs(0) || x.Runs(1) || x.Moves() != one+n || x.Regs(0).X[5] != 0 || x.Drive(h, 5) != 0 {
		t.Errorf("driven: %d", n)
	}
	z := made(t, "ic x1\ndsb\nnop\nsvc #9", "nop\nsvc #9")
	want(t, "the first place at which it is OK", z.Drive(h, 1), 3+2+1+2+2+1)
	y := made(t, "movz x5, #3, 0\nsubsi x5, x5, #1\nb. 1, #-4\nsvc #9", "ic x1\ndsb\nsvc #9")
	for range 1000 {
		y.Drive(h, 1)
	}
	want(t, "round by round", y.Moves(), x.Moves())
}

// numbers are from a short rule, so that each run is the same.
type numbers uint32

func (n *numbers) next(below int) int {
	*n = *n*1664525 + 1013904223
	return int(*n>>8) % below
}

// program tells some instructions that touch data alone, with branches ahead.
func program(n *numbers, shared bool) string {
	places := []string{"x1", "x2", "sp"}
	if shared {
		places = places[:2]
	}
	s := ""
	for range 40 {
		d, a, b, at := "x"+strconv.Itoa(5+n.next(5)), "x"+strconv.Itoa(5+n.next(5)), "x"+strconv.Itoa(5+n.next(5)), places[n.next(len(places))]
		off := ", #" + strconv.Itoa(8*n.next(2))
		far := ", #" + strconv.Itoa(4+4*n.next(4))
		lines := []string{"movz " + d + ", #" + strconv.Itoa(n.next(300)) + ", 0", "add " + d + ", " + a + ", " + b, "subs " + d + ", " + a + ", " + b, "csinc " + d + ", " + a + ", " + b + ", " + strconv.Itoa(n.next(14)), "cbz " + a + far, "b. " + strconv.Itoa(n.next(14)) + far,
			"ldr " + d + ", " + at + off, "ldr " + d + ", " + at + off, "str " + a + ", " + at + off, "str " + a + ", " + at + off, "ldrb " + d + ", " + at + ", #" + strconv.Itoa(n.next(16)), "ldar " + d + ", " + at, "stlr " + a + ", " + at, "ldxr " + d + ", " + at, "stxr " + d + ", " + a + ", " + at, "dmb #" + strconv.Itoa(n.next(3)), "isb", "dsb", "svc #1", "ldrr " + d + ", " + at + ", xzr", "strr " + a + ", " + at + ", xzr"}
		s += lines[n.next(len(lines))] + "\n"
	}
	return s + "nop\nnop\nnop\nnop\nsvc #9\n"
}

func play(x *Machine, h Host, n *numbers, moves int) {
	for range moves {
		core := n.next(len(x.cores))
		switch n.next(12) {
		case 0, 1, 2, 3:
			x.Move(h, api.Move{Kind: api.KFetch, Core: core, N: n.next(4)})
		case 4:
			if n.next(5) == 0 {
				x.Move(h, api.Move{Kind: api.KInterrup, Core: core})
			}
		case 5:
			x.Move(h, api.Move{Kind: 3 + n.next(5), Core: core, N: n.next(3), Addr: uint64(codeAt + 4*n.next(64))})
		default:
			x.Move(h, api.Move{Kind: api.KDo, Core: core, N: n.next(12)})
		}
	}
	x.Drive(h, 1000)
}

// sequential is a host for chapter 8's core.
type sequential struct{ *host }

func (s sequential) Call(n int, r api.Regs) (api.Regs, bool) {
	r, how := s.host.Call(0, n, r)
	return r, how != End
}

func TestOneCoreP1106(t *testing.T) {
	n := numbers(1)
	for range 150 {
		p := program(&n, false)
		x := made(t, p)
		m := memory1(t, p)
		play(x, &host{}, &n, 300)
		c := seq.New(m, codeAt, regs())
		var took []Took
		for !c.Ended() {
			w, _ := m.Word(c.Pc())
			took = append(took, Took{c.Pc(), w})
			if e := c.Step(sequential{&host{}}); e != api.OK {
				t.Fatal(e)
			}
		}
		a, _ := m.Copy(dataAt, 256)
		b, _ := x.Memory().Copy(dataAt, 256)
		if x.Runs(0) || x.Fault(0) || x.Regs(0) != c.Regs() || !slices.Equal(a, b) || !slices.Equal(took, x.Took(0)) {
			t.Fatalf("%s\n%v\n%v", p, x.Regs(0), c.Regs())
		}
	}
}

func TestCoherenceP1107(t *testing.T) {
	n := numbers(5)
	for range 100 {
		x := made(t, program(&n, true), program(&n, true), program(&n, true))
		h := &host{}
		play(x, h, &n, 1500)
		log := x.Log()
		stores := slices.DeleteFunc(slices.Clone(log), func(a api.Access) bool { return !a64.Store(a.Op) })
		slices.SortFunc(stores, func(a, b api.Access) int { return a.At - b.At })
		row := map[api.Write]int{{Core: -1}: 0} // the place of each write among all: rising in each granule
		for k, a := range stores {
			row[a.From] = k + 1
		}
		type seen struct {
			core int
			addr uint64
		}
		last := map[seen]int{}
		for _, a := range log {
			at := seen{a.Core, a.Addr / 8}
			if k, ok := row[a.From]; !ok || k < last[at] {
				t.Fatalf("%+v goes back", a)
			} else {
				last[at] = k
			}
			if a64.Load(a.Op) && a.From.Core >= 0 {
				from := stores[row[a.From]-1]
				v := from.Value
				if a.Op == api.LDRB {
					v = v >> (8 * (a.Addr % 8)) & 0xFF
				}
				if v != a.Value || from.Addr/8 != a.Addr/8 {
					t.Fatalf("%+v is not from %+v", a, from)
				}
			}
		}
	}
}
