package ins

import (
	"testing"

	"brazier/api"
	"brazier/sem"
	"brazier/text"
)

func TestTexts(t *testing.T) {
	for want, i := range map[string]api.Ins{
		"add x1, x2, x3": Three(api.ADD, 1, 2, 3), "subi x1, x2, #7": Number(api.SUBI, 1, 2, 7), "ldar x1, x2": Two(api.LDAR, 1, 2), "ret x30": At(api.RET, 30), "isb": Bare(api.ISB), "orr x1, xzr, x2": Move(1, 2), "movz x1, #9, 0": Small(1, 9),
		"ldr x1, x2, #8": Load(1, 2, 8), "str x1, x2, #8": Store(1, 2, 8), "ldrb x1, x2, #3": Byte(1, 2, 3), "addi x1, x2, #3": Add(1, 2, 3), "subi x1, x2, #3": Sub(1, 2, 3), "subs xzr, x1, x2": Compare(1, 2), "subsi xzr, x1, #5": CompareTo(1, 5), "csinc x1, xzr, xzr, 10": Unless(1, 10),
		"stxr x1, x2, x3": StoreIfMarked(1, 2, 3), "madd x1, x2, x3, x4": Multiply(1, 2, 3, 4), "svc #5": Call(5), "dmb #2": Barrier(2), "b. 1, #0": If(1), "cbz x4, #0": Zero(4), "cbnz x4, #0": NotZero(4), "b #0": Go(), "bl #0": Link(),
	} {
		if got := text.Ins(i); got != want {
			t.Errorf("%q, not %q", got, want)
		}
	}
}

func TestConditions(t *testing.T) {
	for _, a := range []int64{-5, -1, 0, 1, 7} {
		for _, b := range []int64{-5, -1, 0, 1, 7} {
			var r api.Regs
			r.X[1], r.X[2] = uint64(a), uint64(b)
			r = sem.Do(Compare(1, 2), 0, r).Regs
			for cond, want := range map[int]bool{Equal: a == b, NotEqual: a != b, NotBelow: uint64(a) >= uint64(b), Above: uint64(a) > uint64(b), NotLess: a >= b} {
				if sem.Holds(r, cond) != want {
					t.Errorf("%d, %d: %d", a, b, cond)
				}
			}
		}
		var r api.Regs
		r.X[1] = uint64(a)
		if r = sem.Do(CompareTo(1, 0), 0, r).Regs; sem.Holds(r, Negative) != (a < 0) {
			t.Errorf("%d", a)
		}
	}
}
