package lab

import (
	"math"
	"slices"
	"testing"

	"brazier/api"
	"brazier/enc"
)

var (
	nop = api.Ins{Op: api.NOP}
	b   = api.Ins{Op: api.B}
)

func words(t *testing.T, c *Code, want ...api.Ins) {
	t.Helper()
	w, _ := enc.Words(want...)
	if got, e := c.Words(); e != api.OK || !slices.Equal(got, w) {
		t.Errorf("%x %v, not %x", got, e, w)
	}
}

func TestCodeP2301(t *testing.T) {
	c := New(4096)
	if c.Here() != 4096 || c.Len() != 0 || c.Err() != api.OK {
		t.Error("New")
	}
	words(t, c)
	c.Label("a")
	c.Put(nop)
	c.Jump(b, "a")
	if got, e := c.Words(); e != api.OK || !slices.Equal(got, []uint32{0xD503201F, 0x17FFFFFF}) {
		t.Errorf("%x %v", got, e)
	}
	c.Jump(api.Ins{Op: api.BCOND, Cond: 3, Imm: 7}, "end")
	c.Jump(api.Ins{Op: api.CBZ, D: 4}, "end")
	c.Jump(api.Ins{Op: api.CBNZ, D: 5}, "b")
	c.Label("b")
	c.Jump(api.Ins{Op: api.BL}, "a")
	c.Put()
	c.Put(nop, nop)
	c.Label("end")
	c.Label("")
	if c.Here() != 4096+32 || c.Len() != 8 {
		t.Errorf("%x %d", c.Here(), c.Len())
	}
	for range 2 {
		words(t, c, nop, api.Ins{Op: api.B, Imm: -4}, api.Ins{Op: api.BCOND, Cond: 3, Imm: 24}, api.Ins{Op: api.CBZ, D: 4, Imm: 20}, api.Ins{Op: api.CBNZ, D: 5, Imm: 4}, api.Ins{Op: api.BL, Imm: -20}, nop, nop)
	}
	for name, want := range map[string]uint64{"a": 4096, "b": 4116, "end": 4128, "": 4128} {
		if at, ok := c.Where(name); at != want || !ok {
			t.Errorf("%q: %x", name, at)
		}
	}
	if at, ok := c.Where("zzz"); at != 0 || ok {
		t.Error("no label")
	}
	high := New(math.MaxUint64 - 3)
	high.Put(nop)
	if high.Here() != 0 {
		t.Error("places wrap")
	}
}

func TestConstP2301(t *testing.T) {
	movz := func(d int, imm int64, m int) api.Ins { return api.Ins{Op: api.MOVZ, D: d, Imm: imm, M: m} }
	movk := func(d int, imm int64, m int) api.Ins { return api.Ins{Op: api.MOVK, D: d, Imm: imm, M: m} }
	for _, c := range []struct {
		v    uint64
		want []api.Ins
	}{
		{0, []api.Ins{movz(1, 0, 0)}}, {7, []api.Ins{movz(1, 7, 0)}}, {0x10002, []api.Ins{movz(1, 2, 0), movk(1, 1, 1)}}, {0x50000, []api.Ins{movz(1, 5, 1)}}, {1 << 63, []api.Ins{movz(1, 0x8000, 3)}}, {0xF00000000000F, []api.Ins{movz(1, 15, 0), movk(1, 15, 3)}}, {math.MaxUint64, []api.Ins{movz(1, 65535, 0), movk(1, 65535, 1), movk(1, 65535, 2), movk(1, 65535, 3)}},
	} {
		x := New(0)
		x.Const(1, c.v)
		words(t, x, c.want...)
	}
	zero := New(0)
	zero.Const(0, 9)
	words(t, zero, movz(0, 9, 0))
	x := New(0)
	x.Const(30, 9)
	words(t, x, movz(30, 9, 0))
}

func TestErrorsP2302(t *testing.T) {
	for n, c := range []struct {
		do   func(c *Code)
		want api.Errno
		n    int
	}{
		{func(c *Code) { c.Put(nop, api.Ins{Op: api.NOP, D: 1}, nop) }, api.ErrArg, 0}, {func(c *Code) { c.Put(api.Ins{Op: 99}) }, api.ErrArg, 0}, {func(c *Code) { c.Jump(nop, "a") }, api.ErrArg, 0}, {func(c *Code) { c.Jump(api.Ins{Op: api.BR}, "a") }, api.ErrArg, 0}, {func(c *Code) { c.Jump(api.Ins{Op: api.CBZ, D: 32}, "a") }, api.ErrArg, 0}, {func(c *Code) { c.Jump(api.Ins{Op: api.B, D: 1}, "a") }, api.ErrArg, 0},
		{func(c *Code) { c.Const(31, 5) }, api.ErrArg, 0}, {func(c *Code) { c.Const(-1, 5) }, api.ErrArg, 0}, {func(c *Code) { c.Label("a"); c.Label("a") }, api.ErrName, 0}, {func(c *Code) { c.Label("a"); c.Label("a"); c.Put(api.Ins{Op: 99}) }, api.ErrName, 0}, {func(c *Code) { c.Const(31, 5); c.Label("a"); c.Label("a"); c.Put(nop) }, api.ErrArg, 1},
		{func(c *Code) { c.Jump(api.Ins{Op: api.B, Imm: 3}, "a"); c.Label("a") }, api.OK, 1},
	} {
		x := New(0)
		c.do(x)
		if x.Err() != c.want || x.Len() != c.n {
			t.Errorf("case %d: %v, %d", n, x.Err(), x.Len())
		}
		if w, e := x.Words(); e != c.want || e != api.OK && w != nil {
			t.Errorf("case %d: Words %v", n, e)
		}
	}
	x := New(0)
	x.Label("a")
	x.Put(nop)
	x.Label("a")
	if at, _ := x.Where("a"); at != 0 {
		t.Error("a label stays where it is")
	}
	x = New(0)
	x.Jump(b, "nowhere")
	if w, e := x.Words(); x.Err() != api.OK || e != api.ErrName || w != nil {
		t.Errorf("%v", e)
	}
	x.Label("nowhere")
	words(t, x, api.Ins{Op: api.B, Imm: 4})
}

func TestManyP2302(t *testing.T) {
	l := slices.Repeat([]api.Ins{nop}, api.MaxWords-1)
	full := func() *Code {
		x := New(0)
		x.Put(l...)
		return x
	}
	x := full()
	x.Jump(b, "end")
	x.Label("end")
	if w, e := x.Words(); e != api.OK || len(w) != api.MaxWords || w[api.MaxWords-1] != 0x14000001 {
		t.Error(e)
	}
	x.Jump(b, "nowhere")
	if x.Err() != api.ErrMany || x.Len() != api.MaxWords {
		t.Error(x.Err())
	}
	if _, e := x.Words(); e != api.ErrMany {
		t.Error(e)
	}
	x = full()
	x.Put(nop, nop, nop)
	if x.Err() != api.ErrMany || x.Len() != api.MaxWords {
		t.Error("so many are kept")
	}
	x = full()
	x.Const(1, math.MaxUint64)
	if x.Err() != api.ErrMany || x.Len() != api.MaxWords {
		t.Error("so many are kept")
	}
	x.Put(api.Ins{Op: 99})
	if x.Err() != api.ErrMany {
		t.Error("the first error")
	}
	x = full()
	x.Put(nop)
	x.Put(api.Ins{Op: 99})
	if x.Err() != api.ErrArg {
		t.Error("what is wrong is not too much")
	}
	x = New(0)
	x.Jump(api.Ins{Op: api.CBZ}, "end")
	x.Put(l...)
	x.Label("end")
	if w, e := x.Words(); e != api.OK || len(w) != api.MaxWords {
		t.Error(e)
	}
}
