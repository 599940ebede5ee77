package text

import (
	"strings"
	"testing"

	"brazier/a64"
	"brazier/api"
)

var told = []struct {
	i    api.Ins
	want string
}{
	{api.Ins{Op: api.ADD, D: 1, N: 2, M: 3}, "add x1, x2, x3"}, {api.Ins{Op: api.ADDI, D: 31, N: 31, Imm: 16}, "addi sp, sp, #16"}, {api.Ins{Op: api.BCOND, Cond: 1, Imm: -8}, "b. 1, #-8"},
	{api.Ins{Op: api.STXR, D: 1, M: 2, N: 3}, "stxr x1, x2, x3"}, {api.Ins{Op: api.STXR, D: 31, M: 31, N: 31}, "stxr xzr, xzr, sp"}, {api.Ins{Op: api.MOVZ, D: 0, Imm: 7}, "movz x0, #7, 0"}, {api.Ins{Op: api.MOVK, D: 31, Imm: 65535, M: 3}, "movk xzr, #65535, 3"},
	{api.Ins{Op: api.UDF, Imm: 9}, "udf #9"}, {api.Ins{Op: api.NOP}, "nop"}, {api.Ins{Op: api.DSB}, "dsb"}, {api.Ins{Op: api.ISB}, "isb"}, {api.Ins{Op: api.DMB, Imm: 2}, "dmb #2"}, {api.Ins{Op: api.SVC}, "svc #0"},
	{api.Ins{Op: api.SUBI, D: 30, N: 31}, "subi x30, sp, #0"}, {api.Ins{Op: api.SUBSI, D: 31, N: 31, Imm: 5}, "subsi xzr, sp, #5"}, {api.Ins{Op: api.SUBS, D: 31, N: 31, M: 31}, "subs xzr, xzr, xzr"},
	{api.Ins{Op: api.MADD, D: 1, N: 2, M: 3, A: 31}, "madd x1, x2, x3, xzr"}, {api.Ins{Op: api.CSINC, D: 1, N: 2, M: 31, Cond: 15}, "csinc x1, x2, xzr, 15"},
	{api.Ins{Op: api.B, Imm: -134217728}, "b #-134217728"}, {api.Ins{Op: api.BL, Imm: 4}, "bl #4"}, {api.Ins{Op: api.CBZ, D: 31, Imm: 8}, "cbz xzr, #8"}, {api.Ins{Op: api.CBNZ, D: 3}, "cbnz x3, #0"},
	{api.Ins{Op: api.RET, N: 30}, "ret x30"}, {api.Ins{Op: api.BR, N: 31}, "br xzr"}, {api.Ins{Op: api.BLR, N: 1}, "blr x1"}, {api.Ins{Op: api.DC, N: 31}, "dc xzr"}, {api.Ins{Op: api.IC, N: 0}, "ic x0"},
	{api.Ins{Op: api.LDR, D: 31, N: 31, Imm: 32760}, "ldr xzr, sp, #32760"}, {api.Ins{Op: api.STR, D: 1, N: 2}, "str x1, x2, #0"}, {api.Ins{Op: api.LDRB, D: 1, N: 31, Imm: 3}, "ldrb x1, sp, #3"}, {api.Ins{Op: api.LDRR, D: 1, N: 31, M: 31}, "ldrr x1, sp, xzr"},
	{api.Ins{Op: api.STRR, D: 1, N: 2, M: 3}, "strr x1, x2, x3"}, {api.Ins{Op: api.LDAR, D: 1, N: 31}, "ldar x1, sp"}, {api.Ins{Op: api.STLR, D: 31, N: 1}, "stlr xzr, x1"}, {api.Ins{Op: api.LDXR, D: 4, N: 5}, "ldxr x4, x5"},
}

func TestInsParseP501P502(t *testing.T) {
	for _, c := range told {
		if a64.Check(c.i) != api.OK || Ins(c.i) != c.want {
			t.Errorf("Ins(%+v): %q, not %q", c.i, Ins(c.i), c.want)
		}
		if i, e := Parse(c.want); i != c.i || e != api.OK {
			t.Errorf("Parse(%q): %+v %v", c.want, i, e)
		}
	}
	for _, i := range []api.Ins{{Op: -1}, {Op: 99}, {Op: api.NOP, D: 1}, {Op: api.ADD, D: 32}, {Op: api.LDR, Imm: 4}} {
		if Ins(i) != "" {
			t.Errorf("Ins(%+v): %q", i, Ins(i))
		}
	}
}

func TestParseWrongP502(t *testing.T) {
	for _, s := range []string{"", " ", "nop ", " nop", "NOP", "nop x1", "add", "add x1", "add x1, x2", "add x1, x2, x3, x4", "add x1,x2,x3", "add  x1, x2, x3", "add x1, x2, x3 ", "add x1, x2, x3,", "add x1, x2, x31", "add x1, x2, sp", "add x01, x2, x3", "add x1, x2, #3", "add 1, 2, 3",
		"addi x1, xzr, #3", "addi x1, x2, 3", "addi x1, x2, #+3", "addi x1, x2, #03", "addi x1, x2, #-0", "addi x1, x2, #4096", "addi x1, x2, ##3", "addi xx1, x2, #3", "ldr x1, xzr, #0", "ldr x1, x2", "dc sp", "b. 14, #8", "b. #8, 1", "b 8", "b #2", "movz x0, 7, 0", "movz x0, #7", "movz x0, #7, #0", "movz x0, #65536, 0", "svc", "ret", "b #99999999999999999999", "nop\n", "str x1, x2, #0;"} {
		if i, e := Parse(s); i != (api.Ins{}) || e != api.ErrForm {
			t.Errorf("Parse(%q): %+v %v", s, i, e)
		}
	}
}

func TestLinesP502(t *testing.T) {
	seq := Lines(" a \n\n\tb;c;d\n;x\n \t \ne\r\n  f  g\t")
	want := []struct {
		n int
		s string
	}{{1, "a"}, {3, "b"}, {6, "e\r"}, {7, "f  g"}}
	for range 2 {
		at := 0
		for n, s := range seq {
			if at >= len(want) || n != want[at].n || s != want[at].s {
				t.Fatalf("%d: %q", n, s)
			}
			at++
		}
		if at != len(want) {
			t.Errorf("%d lines", at)
		}
	}
	for n := range seq {
		if n == 3 {
			break
		}
	}
	for range Lines("") {
		t.Error("lines of nothing")
	}
	for n, s := range Lines("\n;\nz") {
		if n != 3 || s != "z" {
			t.Errorf("%d: %q", n, s)
		}
	}
}

func TestProgramPrintP502P503(t *testing.T) {
	var l []api.Ins
	for _, c := range told {
		l = append(l, c.i)
	}
	s := Print(l...)
	if s != func() string {
		w := ""
		for _, c := range told {
			w += c.want + "\n"
		}
		return w
	}() {
		t.Errorf("Print: %q", s)
	}
	got, n, e := Program(s)
	if n != 0 || e != api.OK || len(got) != len(l) || Print(got...) != s {
		t.Errorf("Program: %d %v", n, e)
	}
	if Print(api.Ins{Op: 99}, api.Ins{Op: api.NOP}, api.Ins{Op: api.NOP, D: 1}) != "nop\n" || Print() != "" {
		t.Error("Print of wrong ones")
	}
	if l, n, e := Program("nop ; one\n\n  add x1, x2\n zzz"); l != nil || n != 3 || e != api.ErrForm {
		t.Errorf("%v %d %v", l, n, e)
	}
	if l, n, e := Program(" ; nothing\n"); len(l) != 0 || n != 0 || e != api.OK {
		t.Errorf("%v %d %v", l, n, e)
	}
}

func TestProgramManyP502(t *testing.T) {
	full := strings.Repeat("nop\n", api.MaxWords)
	if l, n, e := Program(full); len(l) != api.MaxWords || n != 0 || e != api.OK {
		t.Errorf("full: %d %d %v", len(l), n, e)
	}
	if l, n, e := Program(full + "nop"); l != nil || n != 0 || e != api.ErrMany {
		t.Errorf("one more: %d %d %v", len(l), n, e)
	}
	if l, n, e := Program(full + "nop\nbad"); l != nil || n != api.MaxWords+2 || e != api.ErrForm {
		t.Errorf("one more, and a bad one: %d %d %v", len(l), n, e)
	}
}
