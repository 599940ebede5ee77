package a64

import (
	"math"
	"slices"
	"testing"

	"brazier/api"
)

var names = []string{"udf", "nop", "movz", "movk", "addi", "subi", "subsi", "add", "sub", "subs", "and", "orr", "eor", "madd", "msub", "sdiv", "lslv", "lsrv", "asrv", "csinc", "b", "b.", "cbz", "cbnz", "bl", "br", "blr", "ret",
	"ldr", "str", "ldrb", "ldrr", "strr", "ldar", "stlr", "ldxr", "stxr", "dmb", "dsb", "isb", "dc", "ic", "svc"}

func TestCheckP201(t *testing.T) {
	for _, c := range []struct {
		i  api.Ins
		ok bool
	}{
		{api.Ins{}, true}, {api.Ins{Op: api.UDF, Imm: 65535}, true}, {api.Ins{Op: api.UDF, Imm: 65536}, false}, {api.Ins{Op: api.UDF, M: 1}, false}, {api.Ins{Op: api.UDF, Imm: -1}, false},
		{api.Ins{Op: -1}, false}, {api.Ins{Op: api.SVC + 1}, false}, {api.Ins{Op: math.MinInt}, false},
		{api.Ins{Op: api.NOP}, true}, {api.Ins{Op: api.NOP, Imm: 1}, false}, {api.Ins{Op: api.DSB, N: 1}, false}, {api.Ins{Op: api.ISB, Cond: 1}, false},
		{api.Ins{Op: api.MOVZ, D: 31, Imm: 65535, M: 3}, true}, {api.Ins{Op: api.MOVZ, M: 4}, false}, {api.Ins{Op: api.MOVK, M: -1}, false}, {api.Ins{Op: api.MOVK, Imm: 65536}, false}, {api.Ins{Op: api.MOVZ, N: 1}, false},
		{api.Ins{Op: api.ADDI, D: 31, N: 31, Imm: 4095}, true}, {api.Ins{Op: api.ADDI, Imm: 4096}, false}, {api.Ins{Op: api.SUBI, Imm: -1}, false}, {api.Ins{Op: api.SUBSI, D: 32}, false}, {api.Ins{Op: api.SUBSI, M: 1}, false},
		{api.Ins{Op: api.ADD, D: 31, N: 31, M: 31}, true}, {api.Ins{Op: api.ADD, A: 1}, false}, {api.Ins{Op: api.ADD, Imm: 8}, false}, {api.Ins{Op: api.ADD, M: 32}, false}, {api.Ins{Op: api.ASRV, N: -1}, false},
		{api.Ins{Op: api.MADD, A: 31}, true}, {api.Ins{Op: api.MSUB, A: 32}, false}, {api.Ins{Op: api.SDIV, A: 1}, false},
		{api.Ins{Op: api.CSINC, Cond: 15}, true}, {api.Ins{Op: api.CSINC, Cond: 16}, false}, {api.Ins{Op: api.CSINC, Cond: -1}, false}, {api.Ins{Op: api.ADD, Cond: 1}, false},
		{api.Ins{Op: api.B, Imm: -(1 << 27)}, true}, {api.Ins{Op: api.B, Imm: 1<<27 - 4}, true}, {api.Ins{Op: api.B, Imm: 1 << 27}, false}, {api.Ins{Op: api.BL, Imm: -(1 << 27) - 4}, false}, {api.Ins{Op: api.BL, Imm: 2}, false}, {api.Ins{Op: api.B, D: 1}, false},
		{api.Ins{Op: api.BCOND, Imm: -(1 << 20), Cond: 13}, true}, {api.Ins{Op: api.BCOND, Cond: 14}, false}, {api.Ins{Op: api.BCOND, Imm: 1 << 20}, false}, {api.Ins{Op: api.BCOND, Imm: 1<<20 - 4}, true}, {api.Ins{Op: api.BCOND, Imm: 1}, false},
		{api.Ins{Op: api.CBZ, D: 31, Imm: -4}, true}, {api.Ins{Op: api.CBZ, N: 1}, false}, {api.Ins{Op: api.CBNZ, Imm: -(1 << 20) - 4}, false}, {api.Ins{Op: api.CBNZ, Imm: math.MinInt64}, false},
		{api.Ins{Op: api.BR, N: 31}, true}, {api.Ins{Op: api.RET, D: 1}, false}, {api.Ins{Op: api.BLR, Imm: 4}, false},
		{api.Ins{Op: api.LDR, Imm: 32760}, true}, {api.Ins{Op: api.LDR, Imm: 32768}, false}, {api.Ins{Op: api.STR, Imm: 4}, false}, {api.Ins{Op: api.STR, Imm: -8}, false}, {api.Ins{Op: api.STR, M: 1}, false},
		{api.Ins{Op: api.LDRB, Imm: 4095}, true}, {api.Ins{Op: api.LDRB, Imm: 4096}, false}, {api.Ins{Op: api.LDRR, M: 31}, true}, {api.Ins{Op: api.STRR, Imm: 8}, false},
		{api.Ins{Op: api.LDAR, D: 1, N: 2}, true}, {api.Ins{Op: api.STLR, M: 1}, false}, {api.Ins{Op: api.LDXR, Imm: 8}, false}, {api.Ins{Op: api.STXR, D: 1, N: 2, M: 3}, true}, {api.Ins{Op: api.STXR, A: 3}, false},
		{api.Ins{Op: api.DMB}, true}, {api.Ins{Op: api.DMB, Imm: 2}, true}, {api.Ins{Op: api.DMB, Imm: -1}, false}, {api.Ins{Op: api.DMB, Imm: 3}, false}, {api.Ins{Op: api.DMB, N: 1}, false}, {api.Ins{Op: api.DC, N: 31}, true}, {api.Ins{Op: api.IC, N: 32}, false}, {api.Ins{Op: api.DC, D: 1}, false},
		{api.Ins{Op: api.SVC, Imm: 65535}, true}, {api.Ins{Op: api.SVC, Imm: 65536}, false}, {api.Ins{Op: api.SVC, M: 1}, false},
	} {
		if got := Check(c.i); got != api.OK && got != api.ErrArg || (got == api.OK) != c.ok {
			t.Errorf("Check(%+v): %v", c.i, got)
		}
	}
}

func TestNamesP202(t *testing.T) {
	var ops []int
	for op := range Ops() {
		ops = append(ops, op)
		if Name(op) != names[op] {
			t.Errorf("Name(%d): %q", op, Name(op))
		}
	}
	if len(ops) != len(names) || ops[0] != api.UDF || !slices.IsSorted(ops) {
		t.Errorf("Ops: %v", ops)
	}
	if Name(-1) != "" || Name(api.SVC+1) != "" || Name(math.MinInt) != "" {
		t.Error("Name of none")
	}
	seq := Ops()
	for op := range seq {
		if op == 3 {
			break
		}
	}
	if got := slices.Collect(seq); len(got) != len(names) {
		t.Error("Ops ranged over again")
	}
}

func TestInOutP203(t *testing.T) {
	for _, c := range []struct {
		i       api.Ins
		in, out []int
	}{
		{api.Ins{Op: api.ADD, D: 1, N: 2, M: 31}, []int{2}, []int{1}},
		{api.Ins{Op: api.SUBSI, D: 31, N: 0, Imm: 5}, []int{0}, []int{33}},
		{api.Ins{Op: api.STXR, D: 3, M: 4, N: 31}, []int{4, 32}, []int{3}},
		{api.Ins{Op: api.MOVZ, D: 5, M: 2}, nil, []int{5}}, {api.Ins{Op: api.MOVK, D: 5, M: 2}, []int{5}, []int{5}}, {api.Ins{Op: api.MOVK, D: 31}, nil, nil},
		{api.Ins{Op: api.ADDI, D: 31, N: 31}, []int{32}, []int{32}}, {api.Ins{Op: api.SUBI, D: 31, N: 3}, []int{3}, []int{32}}, {api.Ins{Op: api.SUBSI, D: 4, N: 31}, []int{32}, []int{4, 33}},
		{api.Ins{Op: api.SUBS, D: 7, N: 9, M: 8}, []int{8, 9}, []int{7, 33}}, {api.Ins{Op: api.SUBS, D: 31, N: 9, M: 9}, []int{9}, []int{33}},
		{api.Ins{Op: api.MADD, D: 1, N: 3, M: 2, A: 1}, []int{1, 2, 3}, []int{1}}, {api.Ins{Op: api.MSUB, D: 31, N: 3, M: 3, A: 3}, []int{3}, nil},
		{api.Ins{Op: api.CSINC, D: 1, N: 2, M: 31, Cond: 3}, []int{2, 33}, []int{1}}, {api.Ins{Op: api.BCOND, Imm: 8}, []int{33}, nil},
		{api.Ins{Op: api.B, Imm: 8}, nil, nil}, {api.Ins{Op: api.BL, Imm: 8}, nil, []int{30}}, {api.Ins{Op: api.CBZ, D: 6, Imm: 8}, []int{6}, nil}, {api.Ins{Op: api.CBNZ, D: 31}, nil, nil},
		{api.Ins{Op: api.BR, N: 6}, []int{6}, nil}, {api.Ins{Op: api.BLR, N: 30}, []int{30}, []int{30}}, {api.Ins{Op: api.RET, N: 31}, nil, nil},
		{api.Ins{Op: api.LDR, D: 2, N: 31}, []int{32}, []int{2}}, {api.Ins{Op: api.LDR, D: 31, N: 1}, []int{1}, nil}, {api.Ins{Op: api.STR, D: 2, N: 31}, []int{2, 32}, nil}, {api.Ins{Op: api.STR, D: 31, N: 1}, []int{1}, nil},
		{api.Ins{Op: api.LDRB, D: 2, N: 1}, []int{1}, []int{2}}, {api.Ins{Op: api.LDRR, D: 2, N: 31, M: 31}, []int{32}, []int{2}}, {api.Ins{Op: api.STRR, D: 9, N: 8, M: 7}, []int{7, 8, 9}, nil},
		{api.Ins{Op: api.LDAR, D: 2, N: 1}, []int{1}, []int{2}}, {api.Ins{Op: api.STLR, D: 2, N: 1}, []int{1, 2}, nil}, {api.Ins{Op: api.LDXR, D: 2, N: 31}, []int{32}, []int{2}},
		{api.Ins{Op: api.DC, N: 31}, nil, nil}, {api.Ins{Op: api.IC, N: 1}, []int{1}, nil}, {api.Ins{Op: api.DMB}, nil, nil}, {api.Ins{Op: api.DSB}, nil, nil}, {api.Ins{Op: api.SVC, Imm: 7}, nil, nil}, {api.Ins{Op: api.UDF}, nil, nil}, {api.Ins{Op: api.NOP}, nil, nil},
		{api.Ins{Op: api.ADD, D: 1, N: 2, M: 3, Imm: 1}, nil, nil}, {api.Ins{Op: api.LDR, D: 1, N: 2, Imm: 4}, nil, nil}, {api.Ins{Op: -7, D: 1}, nil, nil},
	} {
		if in, out := In(c.i), Out(c.i); !slices.Equal(in, c.in) || !slices.Equal(out, c.out) {
			t.Errorf("%s %+v: in %v, out %v", Name(c.i.Op), c.i, in, out)
		}
	}
}

func TestKindsP204(t *testing.T) {
	lists := []struct {
		is   func(int) bool
		have []int
	}{
		{Memory, []int{api.LDR, api.STR, api.LDRB, api.LDRR, api.STRR, api.LDAR, api.STLR, api.LDXR, api.STXR}},
		{Load, []int{api.LDR, api.LDRB, api.LDRR, api.LDAR, api.LDXR}},
		{Store, []int{api.STR, api.STRR, api.STLR, api.STXR}},
		{Branch, []int{api.B, api.BCOND, api.CBZ, api.CBNZ, api.BL, api.BR, api.BLR, api.RET}},
	}
	for op := -2; op <= api.SVC+2; op++ {
		for n, l := range lists {
			if l.is(op) != slices.Contains(l.have, op) {
				t.Errorf("list %d: %d", n, op)
			}
		}
		unknown := slices.Contains([]int{api.BCOND, api.CBZ, api.CBNZ, api.BR, api.BLR, api.RET}, op)
		if Known(op) == unknown {
			t.Errorf("Known(%d)", op)
		}
	}
}
