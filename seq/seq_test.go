package seq

import (
	"testing"

	"brazier/api"
	"brazier/enc"
	"brazier/mem"
	"brazier/text"
)

const (
	codeAt = 0x1000
	dataAt = 0x2000
)

// host notes its calls, adds 1 to X0, and ends at 9.
type host struct {
	calls []int
}

func (h *host) Call(n int, r api.Regs) (api.Regs, bool) {
	h.calls = append(h.calls, n)
	r.X[0]++
	return r, n != 9
}

func made(t *testing.T, program string) *Core {
	t.Helper()
	l, n, e := text.Program(program)
	if e != api.OK {
		t.Fatalf("line %d: %v", n, e)
	}
	b, _ := enc.Bytes(l...)
	m, e := mem.New(api.Region{At: codeAt, Size: 0x100, Execute: true}, api.Region{At: dataAt, Size: 0x40, Write: true}, api.Region{At: 0x3000, Size: 8})
	if e != api.OK {
		t.Fatal(e)
	}
	m.Load(codeAt, b)
	var r api.Regs
	r.X[1], r.SP = dataAt, dataAt+0x20
	return New(m, codeAt, r)
}

func TestNewP801(t *testing.T) {
	c := made(t, "nop")
	if c.Pc() != codeAt || c.Regs().X[1] != dataAt || c.Regs().SP != dataAt+0x20 || c.Ended() {
		t.Error("New")
	}
}

func TestStepsP801(t *testing.T) {
	c := made(t, `movz x2, #513, 0
str x2, x1, #8
ldrb x3, x1, #9
ldr x4, x1, #8
addi x5, x1, #8
ldar x6, x5
stlr x3, x5
str x5, sp, #0
movz x7, #2, 0
strr x7, x1, x7
ldrr x8, x1, x7
dmb #0
dsb
isb
dc x1
ic x1
svc #3
svc #9
nop`)
	h := &host{}
	if n, e := c.Run(h, 100); n != 18 || e != api.OK || !c.Ended() {
		t.Fatalf("%d steps: %v", n, e)
	}
	r := c.Regs()
	if r.X[3] != 2 || r.X[4] != 513 || r.X[6] != 513 || r.X[8] != 2 || r.X[0] != 2 || c.Pc() != codeAt+18*4 {
		t.Errorf("%v", r)
	}
	if v, _ := c.m.Read(dataAt + 8); v != 2 {
		t.Errorf("stored: %d", v)
	}
	if v, _ := c.m.Read(dataAt + 0x20); v != dataAt+8 {
		t.Errorf("stored at SP: %x", v)
	}
	if len(h.calls) != 2 || h.calls[0] != 3 || h.calls[1] != 9 {
		t.Errorf("calls: %v", h.calls)
	}
	if c.Step(h) != api.ErrNot || len(h.calls) != 2 || c.Regs() != r {
		t.Error("a step of an ended core")
	}
	if n, e := c.Run(h, 5); n != 0 || e != api.OK {
		t.Errorf("a run of an ended core: %d %v", n, e)
	}
}

func TestFaultsP801(t *testing.T) {
	for _, p := range []string{"udf #0", "udf #7", "ldr x0, x0, #0", "ldrb x0, x0, #0", "str x0, x0, #0", "ldar x0, x0", "stlr x0, x0", "ldxr x0, x0", "ldr x0, x9, #0", "str x1, x9, #8", "ldrr x0, x1, x1", "str x0, x10, #0", "ldxr x3, x10\nstxr x2, x1, x10"} {
		c := made(t, p)
		c.regs.X[9] = dataAt + 4
		c.regs.X[10] = 0x3000
		if p[:4] == "ldxr" && len(p) > 12 {
			if c.Step(nil) != api.OK {
				t.Fatal("LDXR")
			}
		}
		was := *c
		if e := c.Step(nil); e != api.ErrFault || *c != was {
			t.Errorf("%s: %v", p, e)
		}
		if n, e := c.Run(nil, 3); n != 0 || e != api.ErrFault || *c != was {
			t.Errorf("%s: run %d %v", p, n, e)
		}
	}
	c := made(t, "b #4096")
	if n, e := c.Run(nil, 9); n != 1 || e != api.ErrFault || c.Pc() != codeAt+4096 {
		t.Errorf("a place that may not be executed: %d %v", n, e)
	}
	c = made(t, "ldrb x0, x9, #0")
	c.regs.X[9] = dataAt + 3
	if c.Step(nil) != api.OK {
		t.Error("a byte may stand anywhere")
	}
}

func TestExclusiveP801(t *testing.T) {
	for _, c := range []struct {
		p    string
		want uint64
		mem  uint64
	}{
		{"stxr x2, x1, x1", 1, 0}, {"ldxr x3, x1\nstxr x2, x1, x1", 0, dataAt}, {"ldxr x3, x1\nstxr x2, x1, x1\nstxr x2, x9, x1", 1, dataAt},
		{"ldxr x3, x1\nstxr x2, x1, x9\nstxr x2, x1, x1", 1, 0}, {"ldxr x3, x1\nldxr x3, x9\nstxr x2, x1, x1", 1, 0}, {"ldxr x3, x1\nldr x3, x9, #0\nstr x9, x1, #0\nstxr x2, x1, x1", 0, dataAt},
		{"stxr x2, x1, x10", 1, 0}, {"ldxr x3, x1\nstxr x2, x1, x10", 1, 0},
	} {
		k := made(t, c.p+"\nsvc #9")
		k.regs.X[9] = dataAt + 8
		if _, e := k.Run(&host{}, 20); e != api.OK || !k.Ended() {
			t.Fatalf("%q: %v", c.p, e)
		}
		if v, _ := k.m.Read(dataAt); k.Regs().X[2] != c.want || v != c.mem {
			t.Errorf("%q: %d, %x", c.p, k.Regs().X[2], v)
		}
	}
}

func TestRunP802(t *testing.T) {
	const p = `movz x2, #10, 0
addi x3, x3, #7
subsi x2, x2, #1
str x3, x1, #0
ldr x4, x1, #0
b. 1, #-16
svc #1
svc #9`
	whole := made(t, p)
	n, e := whole.Run(&host{}, 1000)
	if e != api.OK || n != 53 {
		t.Fatalf("%d %v", n, e)
	}
	for first := -1; first < 60; first++ {
		c := made(t, p)
		a, e1 := c.Run(&host{}, first)
		if a != max(0, min(first, n)) {
			t.Fatalf("%d steps of %d", a, first)
		}
		b, e2 := c.Run(&host{}, 1000)
		if a+b != n || e1 != api.OK || e2 != api.OK || c.Regs() != whole.Regs() || c.Pc() != whole.Pc() || c.Ended() != whole.Ended() {
			t.Errorf("%d and %d steps", a, b)
		}
	}
}
