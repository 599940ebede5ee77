package sem

import (
	"math"
	"slices"
	"testing"

	"brazier/a64"
	"brazier/api"
)

func regs(x ...uint64) api.Regs {
	var r api.Regs
	copy(r.X[:], x)
	r.SP = 0x8000
	return r
}

func TestGetSetP601(t *testing.T) {
	r := api.Regs{SP: 77, N: true}
	for n := range r.X {
		r.X[n] = uint64(100 + n)
	}
	for n := 0; n < 31; n++ {
		if Get(r, n) != uint64(100+n) || Get(Set(r, n, 5), n) != 5 || Get(Set(r, n, 5), (n+1)%31) != uint64(100+(n+1)%31) {
			t.Errorf("register %d", n)
		}
	}
	if Get(r, 32) != 77 || Set(r, 32, 9).SP != 9 {
		t.Error("SP")
	}
	for _, n := range []int{31, 33, -1, 99, math.MinInt, math.MaxInt} {
		if Get(r, n) != 0 || Set(r, n, 5) != r {
			t.Errorf("register %d", n)
		}
	}
}

func TestHoldsP601(t *testing.T) {
	for f := range 16 {
		r := api.Regs{N: f&1 != 0, Z: f&2 != 0, C: f&4 != 0, V: f&8 != 0}
		want := []bool{r.Z, !r.Z, r.C, !r.C, r.N, !r.N, r.V, !r.V, r.C && !r.Z, !r.C || r.Z, r.N == r.V, r.N != r.V, !r.Z && r.N == r.V, r.Z || r.N != r.V, true, true}
		for cond, w := range want {
			if Holds(r, cond) != w {
				t.Errorf("Holds(%+v, %d)", r, cond)
			}
		}
		for _, cond := range []int{-1, 16, 17, math.MinInt, math.MaxInt} {
			if Holds(r, cond) {
				t.Errorf("Holds(%d)", cond)
			}
		}
	}
}

func TestComputesP602(t *testing.T) {
	r := regs(7, 0xFFFFFFFFFFFFFFF8, 3, 100, 0x123456789ABCDEF0)
	for _, c := range []struct {
		i    api.Ins
		reg  int
		want uint64
	}{
		{api.Ins{Op: api.MOVZ, D: 9, Imm: 0xBEEF, M: 3}, 9, 0xBEEF << 48}, {api.Ins{Op: api.MOVZ, D: 4, Imm: 5}, 4, 5},
		{api.Ins{Op: api.MOVK, D: 4, Imm: 0xFFFF, M: 1}, 4, 0x12345678FFFFDEF0}, {api.Ins{Op: api.MOVK, D: 4, Imm: 1, M: 3}, 4, 0x000156789ABCDEF0},
		{api.Ins{Op: api.ADDI, D: 9, N: 0, Imm: 4095}, 9, 4102}, {api.Ins{Op: api.ADDI, D: 31, N: 31, Imm: 8}, 32, 0x8008}, {api.Ins{Op: api.SUBI, D: 31, N: 0, Imm: 8}, 32, math.MaxUint64}, {api.Ins{Op: api.SUBI, D: 9, N: 31, Imm: 8}, 9, 0x7FF8},
		{api.Ins{Op: api.ADD, D: 9, N: 0, M: 1}, 9, math.MaxUint64}, {api.Ins{Op: api.ADD, D: 9, N: 31, M: 1}, 9, 0xFFFFFFFFFFFFFFF8}, {api.Ins{Op: api.SUB, D: 9, N: 0, M: 3}, 9, 0xFFFFFFFFFFFFFFA3},
		{api.Ins{Op: api.AND, D: 9, N: 1, M: 4}, 9, 0x123456789ABCDEF0}, {api.Ins{Op: api.ORR, D: 9, N: 0, M: 3}, 9, 103}, {api.Ins{Op: api.EOR, D: 9, N: 0, M: 2}, 9, 4},
		{api.Ins{Op: api.MADD, D: 9, N: 0, M: 2, A: 3}, 9, 121}, {api.Ins{Op: api.MSUB, D: 9, N: 0, M: 2, A: 3}, 9, 79},
		{api.Ins{Op: api.SDIV, D: 9, N: 1, M: 2}, 9, 0xFFFFFFFFFFFFFFFE}, {api.Ins{Op: api.SDIV, D: 9, N: 1, M: 31}, 9, 0},
		{api.Ins{Op: api.LSLV, D: 9, N: 0, M: 2}, 9, 56}, {api.Ins{Op: api.LSRV, D: 9, N: 1, M: 2}, 9, 0x1FFFFFFFFFFFFFFF}, {api.Ins{Op: api.ASRV, D: 9, N: 1, M: 2}, 9, math.MaxUint64}, {api.Ins{Op: api.LSLV, D: 9, N: 0, M: 3}, 9, 7 << 36},
		{api.Ins{Op: api.CSINC, D: 0, N: 31, M: 31, Cond: 1}, 0, 0}, {api.Ins{Op: api.CSINC, D: 0, N: 31, M: 31, Cond: 0}, 0, 1}, {api.Ins{Op: api.CSINC, D: 9, N: 2, M: 3, Cond: 0}, 9, 101}, {api.Ins{Op: api.CSINC, D: 9, N: 2, M: 3, Cond: 14}, 9, 3},
		{api.Ins{Op: api.BL, Imm: 64}, 30, 0x1004}, {api.Ins{Op: api.BLR, N: 3}, 30, 0x1004},
	} {
		e := Do(c.i, 0x1000, r)
		if e.Regs != Set(r, c.reg, c.want) || e.Touch || e.Addr != 0 || e.Data != 0 {
			t.Errorf("%+v: %x", c.i, Get(e.Regs, c.reg))
		}
		if !a64.Branch(c.i.Op) && e.Next != 0x1004 {
			t.Errorf("%+v: next %x", c.i, e.Next)
		}
		c.i.Cond += 16
		if e := Do(c.i, 0x1000, r); e != (Effect{Regs: r, Next: 0x1004}) {
			t.Errorf("not right %+v", c.i)
		}
	}
	if x := r.X[4]; Do(api.Ins{Op: api.MADD, D: 9, N: 4, M: 4, A: 31}, 0, r).Regs.X[9] != x*x {
		t.Error("products wrap")
	}
	if e := Do(api.Ins{Op: api.ADD, D: 31, N: 0, M: 0}, 0, r); e.Regs != r {
		t.Error("XZR takes nothing")
	}
}

func TestFlagsP602(t *testing.T) {
	r := regs(5, 4, 6, 1<<63)
	for _, c := range []struct {
		i          api.Ins
		d          uint64
		n, z, c, v bool
	}{
		{api.Ins{Op: api.SUBSI, D: 9, N: 0, Imm: 5}, 0, false, true, true, false}, {api.Ins{Op: api.SUBSI, D: 9, N: 1, Imm: 5}, math.MaxUint64, true, false, false, false},
		{api.Ins{Op: api.SUBSI, D: 9, N: 31, Imm: 1}, 0x7FFF, false, false, true, false}, {api.Ins{Op: api.SUBS, D: 9, N: 2, M: 0}, 1, false, false, true, false},
		{api.Ins{Op: api.SUBS, D: 9, N: 3, M: 0}, 1<<63 - 5, false, false, true, true}, {api.Ins{Op: api.SUBS, D: 9, N: 31, M: 3}, 1 << 63, true, false, false, true},
	} {
		e := Do(c.i, 8, r)
		want := r
		want.X[9], want.N, want.Z, want.C, want.V = c.d, c.n, c.z, c.c, c.v
		if e != (Effect{Regs: want, Next: 12}) {
			t.Errorf("%+v: %+v", c.i, e)
		}
		c.i.D = 31
		want.X[9] = r.X[9]
		if Do(c.i, 8, r).Regs != want {
			t.Errorf("%+v to XZR", c.i)
		}
	}
}

func TestWaysP602(t *testing.T) {
	r := regs(0, 9)
	r.X[30], r.Z = 0x5000, true
	for _, c := range []struct {
		i    api.Ins
		want uint64
	}{
		{api.Ins{Op: api.B, Imm: -8}, 0xFF8}, {api.Ins{Op: api.BL, Imm: 8}, 0x1008}, {api.Ins{Op: api.BCOND, Imm: 16}, 0x1010}, {api.Ins{Op: api.BCOND, Imm: 16, Cond: 1}, 0x1004},
		{api.Ins{Op: api.CBZ, D: 0, Imm: 16}, 0x1010}, {api.Ins{Op: api.CBZ, D: 1, Imm: 16}, 0x1004}, {api.Ins{Op: api.CBNZ, D: 0, Imm: 16}, 0x1004}, {api.Ins{Op: api.CBNZ, D: 1, Imm: -16}, 0xFF0}, {api.Ins{Op: api.CBZ, D: 31, Imm: 16}, 0x1010},
		{api.Ins{Op: api.BR, N: 1}, 9}, {api.Ins{Op: api.RET, N: 30}, 0x5000}, {api.Ins{Op: api.BLR, N: 30}, 0x5000}, {api.Ins{Op: api.BR, N: 31}, 0},
		{api.Ins{Op: api.NOP}, 0x1004}, {api.Ins{Op: api.DMB, Imm: 1}, 0x1004}, {api.Ins{Op: api.DSB}, 0x1004}, {api.Ins{Op: api.ISB}, 0x1004}, {api.Ins{Op: api.SVC, Imm: 3}, 0x1004}, {api.Ins{Op: api.UDF, Imm: 3}, 0x1004},
	} {
		e := Do(c.i, 0x1000, r)
		if e.Next != c.want || e.Touch || e.Addr != 0 || e.Data != 0 {
			t.Errorf("%+v: %x", c.i, e.Next)
		}
		if c.i.Op != api.BL && c.i.Op != api.BLR && e.Regs != r {
			t.Errorf("%+v: registers", c.i)
		}
	}
	if Do(api.Ins{Op: api.B, Imm: -8}, 4, r).Next != math.MaxUint64-3 || Do(api.Ins{Op: api.NOP}, math.MaxUint64-3, r).Next != 0 {
		t.Error("places wrap")
	}
}

func TestPlacesP602(t *testing.T) {
	r := regs(0x100, 2, 55)
	for _, c := range []struct {
		i          api.Ins
		addr, data uint64
	}{
		{api.Ins{Op: api.LDR, D: 2, N: 0, Imm: 16}, 0x110, 0}, {api.Ins{Op: api.STR, D: 2, N: 31, Imm: 8}, 0x8008, 55}, {api.Ins{Op: api.STR, D: 31, N: 0}, 0x100, 0}, {api.Ins{Op: api.LDRB, D: 2, N: 0, Imm: 3}, 0x103, 0},
		{api.Ins{Op: api.LDRR, D: 2, N: 0, M: 1}, 0x110, 0}, {api.Ins{Op: api.LDRR, D: 2, N: 31, M: 31}, 0x8000, 0}, {api.Ins{Op: api.STRR, D: 2, N: 0, M: 1}, 0x110, 55},
		{api.Ins{Op: api.LDAR, D: 2, N: 0}, 0x100, 0}, {api.Ins{Op: api.STLR, D: 2, N: 0}, 0x100, 55}, {api.Ins{Op: api.LDXR, D: 2, N: 31}, 0x8000, 0}, {api.Ins{Op: api.STXR, D: 1, N: 0, M: 2}, 0x100, 55},
		{api.Ins{Op: api.DC, N: 0}, 0x100, 0}, {api.Ins{Op: api.IC, N: 31}, 0, 0},
	} {
		if e := Do(c.i, 4, r); e != (Effect{Regs: r, Next: 8, Addr: c.addr, Data: c.data, Touch: true}) {
			t.Errorf("%+v: %x %x", c.i, e.Addr, e.Data)
		}
	}
}

func TestLoadedStoredP603(t *testing.T) {
	r := regs(1, 2, 3)
	for op := range a64.Ops() {
		i := api.Ins{Op: op, D: 1, N: 2}
		if a64.Check(i) != api.OK {
			continue
		}
		want := r
		if op == api.LDRB {
			want.X[1] = 0x88
		} else if a64.Load(op) {
			want.X[1] = 0x1188
		}
		if Loaded(i, r, 0x1188) != want {
			t.Errorf("Loaded %d", op)
		}
		bad := i
		bad.A = 1
		if Loaded(bad, r, 7) != r || Stored(bad, r, true) != r {
			t.Errorf("not right: %d", op)
		}
		want = r
		if op == api.STXR {
			want.X[1] = 1
		}
		if Stored(i, r, true) != want {
			t.Errorf("Stored %d", op)
		}
	}
	if Stored(api.Ins{Op: api.STXR, D: 1}, r, false).X[1] != 0 || Loaded(api.Ins{Op: api.LDR, D: 31}, r, 7) != r || Stored(api.Ins{Op: api.STXR, D: 31}, r, true) != r {
		t.Error("XZR")
	}
}

// What is written is what Out says, and nothing hangs on a register that In does not say.
func TestInOutP602(t *testing.T) {
	r, q := regs(), regs()
	for n := range r.X {
		r.X[n], q.X[n] = uint64(n*n*77+8), uint64(n*31+1000000)
	}
	q.SP, q.N, q.C = 0x9000, true, true
	for op := range a64.Ops() {
		for k := range 200 {
			i := api.Ins{Op: op, D: k % 32, N: k * 7 % 32, M: k * 11 % 32, A: k * 13 % 32, Cond: k % 14, Imm: int64(k * 8)}
			if i = right(i); a64.Check(i) != api.OK {
				t.Fatalf("%+v", i)
			}
			e := Do(i, 64, r)
			back := e.Regs
			for _, n := range a64.Out(i) {
				if n == a64.Flags {
					back.N, back.Z, back.C, back.V = r.N, r.Z, r.C, r.V
				} else {
					back = Set(back, n, Get(r, n))
				}
			}
			if back != r {
				t.Errorf("%+v writes more than %v", i, a64.Out(i))
			}
			in := q
			for _, n := range a64.In(i) {
				if n == a64.Flags {
					in.N, in.Z, in.C, in.V = r.N, r.Z, r.C, r.V
				} else {
					in = Set(in, n, Get(r, n))
				}
			}
			f := Do(i, 64, in)
			if f.Next != e.Next || f.Addr != e.Addr || f.Data != e.Data {
				t.Errorf("%+v reads more than %v", i, a64.In(i))
			}
			for _, n := range a64.Out(i) {
				if !a64.Load(op) && op != api.STXR && Get(f.Regs, n) != Get(e.Regs, n) && !slices.Contains(a64.In(i), n) {
					t.Errorf("%+v reads more than %v", i, a64.In(i))
				}
			}
		}
	}
}

// right leaves out the fields that keep i from being right.
func right(i api.Ins) api.Ins {
	if a64.Check(i) == api.OK {
		return i
	}
	for m := range 64 {
		j := api.Ins{Op: i.Op}
		for b, f := range []func(){func() { j.D = i.D }, func() { j.N = i.N }, func() { j.M = i.M }, func() { j.A = i.A }, func() { j.Cond = i.Cond }, func() { j.Imm = i.Imm }} {
			if m>>b&1 == 0 {
				f()
			}
		}
		if a64.Check(j) == api.OK {
			return j
		}
	}
	return api.Ins{Op: i.Op}
}
