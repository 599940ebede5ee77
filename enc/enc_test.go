package enc

import (
	"bytes"
	"slices"
	"testing"

	"brazier/a64"
	"brazier/api"
)

func TestWordP301(t *testing.T) {
	for _, c := range []struct {
		i    api.Ins
		want uint32
	}{
		{api.Ins{Op: api.UDF, Imm: 0xBEEF}, 0xBEEF}, {api.Ins{Op: api.NOP}, 0xD503201F},
		{api.Ins{Op: api.MOVZ, D: 3, Imm: 0x1234, M: 2}, 0xD2C24683}, {api.Ins{Op: api.MOVK, D: 31, Imm: 65535, M: 3}, 0xF2FFFFFF},
		{api.Ins{Op: api.ADDI, D: 0, N: 0, Imm: 1}, 0x91000400}, {api.Ins{Op: api.SUBI, D: 31, N: 31, Imm: 16}, 0xD10043FF}, {api.Ins{Op: api.SUBSI, D: 31, N: 1, Imm: 4095}, 0xF13FFC3F},
		{api.Ins{Op: api.ADD, D: 1, N: 2, M: 3}, 0x8B030041}, {api.Ins{Op: api.SUB, D: 1, N: 2, M: 3}, 0xCB030041}, {api.Ins{Op: api.SUBS, D: 31, N: 2, M: 3}, 0xEB03005F},
		{api.Ins{Op: api.AND, D: 1, N: 2, M: 3}, 0x8A030041}, {api.Ins{Op: api.ORR, D: 1, N: 31, M: 3}, 0xAA0303E1}, {api.Ins{Op: api.EOR, D: 1, N: 2, M: 3}, 0xCA030041},
		{api.Ins{Op: api.MADD, D: 1, N: 2, M: 3, A: 31}, 0x9B037C41}, {api.Ins{Op: api.MSUB, D: 1, N: 2, M: 3, A: 4}, 0x9B039041},
		{api.Ins{Op: api.SDIV, D: 1, N: 2, M: 3}, 0x9AC30C41}, {api.Ins{Op: api.LSLV, D: 1, N: 2, M: 3}, 0x9AC32041}, {api.Ins{Op: api.LSRV, D: 1, N: 2, M: 3}, 0x9AC32441}, {api.Ins{Op: api.ASRV, D: 1, N: 2, M: 3}, 0x9AC32841},
		{api.Ins{Op: api.CSINC, D: 0, N: 31, M: 31, Cond: 1}, 0x9A9F17E0}, {api.Ins{Op: api.CSINC, D: 0, N: 1, M: 2, Cond: 15}, 0x9A82F420},
		{api.Ins{Op: api.B, Imm: -4}, 0x17FFFFFF}, {api.Ins{Op: api.B, Imm: 1<<27 - 4}, 0x15FFFFFF}, {api.Ins{Op: api.BL, Imm: 8}, 0x94000002}, {api.Ins{Op: api.BL, Imm: -(1 << 27)}, 0x96000000},
		{api.Ins{Op: api.BCOND, Imm: 8, Cond: 13}, 0x5400004D}, {api.Ins{Op: api.BCOND, Imm: -4}, 0x54FFFFE0},
		{api.Ins{Op: api.CBZ, D: 5, Imm: -(1 << 20)}, 0xB4800005}, {api.Ins{Op: api.CBNZ, D: 31, Imm: 1<<20 - 4}, 0xB57FFFFF},
		{api.Ins{Op: api.BR, N: 17}, 0xD61F0220}, {api.Ins{Op: api.BLR, N: 1}, 0xD63F0020}, {api.Ins{Op: api.RET, N: 30}, 0xD65F03C0},
		{api.Ins{Op: api.LDR, D: 1, N: 31, Imm: 32760}, 0xF97FFFE1}, {api.Ins{Op: api.STR, D: 1, N: 2, Imm: 8}, 0xF9000441}, {api.Ins{Op: api.LDRB, D: 1, N: 2, Imm: 4095}, 0x397FFC41},
		{api.Ins{Op: api.LDRR, D: 1, N: 2, M: 3}, 0xF8637841}, {api.Ins{Op: api.STRR, D: 1, N: 2, M: 3}, 0xF8237841},
		{api.Ins{Op: api.LDAR, D: 1, N: 2}, 0xC8DFFC41}, {api.Ins{Op: api.STLR, D: 1, N: 2}, 0xC89FFC41}, {api.Ins{Op: api.LDXR, D: 1, N: 2}, 0xC85F7C41}, {api.Ins{Op: api.STXR, D: 1, N: 2, M: 3}, 0xC8017C43},
		{api.Ins{Op: api.DMB}, 0xD5033BBF}, {api.Ins{Op: api.DMB, Imm: 1}, 0xD50339BF}, {api.Ins{Op: api.DMB, Imm: 2}, 0xD5033ABF}, {api.Ins{Op: api.DSB}, 0xD5033B9F}, {api.Ins{Op: api.ISB}, 0xD5033FDF},
		{api.Ins{Op: api.DC, N: 7}, 0xD50B7B27}, {api.Ins{Op: api.IC, N: 31}, 0xD50B753F}, {api.Ins{Op: api.SVC, Imm: 65535}, 0xD41FFFE1},
	} {
		if got, e := Word(c.i); got != c.want || e != api.OK {
			t.Errorf("Word(%s %+v): %08X %v", a64.Name(c.i.Op), c.i, got, e)
		}
		if e := a64.Check(c.i); e != api.OK {
			t.Errorf("a sample that is not right: %+v", c.i)
		}
	}
	for _, i := range []api.Ins{{Op: -1}, {Op: api.SVC + 1}, {Op: api.ADD, D: 32}, {Op: api.NOP, D: 1}, {Op: api.LDR, Imm: 4}, {Op: api.BCOND, Cond: 14}} {
		if w, e := Word(i); w != 0 || e != api.ErrArg {
			t.Errorf("Word(%+v): %x %v", i, w, e)
		}
	}
}

func TestWordsBytesP302(t *testing.T) {
	l := []api.Ins{{Op: api.NOP}, {Op: api.RET, N: 30}}
	if w, e := Words(l...); e != api.OK || !slices.Equal(w, []uint32{0xD503201F, 0xD65F03C0}) {
		t.Errorf("Words: %x %v", w, e)
	}
	if b, e := Bytes(l...); e != api.OK || !bytes.Equal(b, []byte{0x1F, 0x20, 0x03, 0xD5, 0xC0, 0x03, 0x5F, 0xD6}) {
		t.Errorf("Bytes: %x %v", b, e)
	}
	if w, e := Words(); len(w) != 0 || e != api.OK {
		t.Error("Words of none")
	}
	bad := []api.Ins{{Op: api.NOP}, {Op: api.NOP, D: 1}}
	if w, e := Words(bad...); w != nil || e != api.ErrArg {
		t.Error("Words of a wrong one")
	}
	if b, e := Bytes(bad...); b != nil || e != api.ErrArg {
		t.Error("Bytes of a wrong one")
	}
}

func TestBaseP302(t *testing.T) {
	for op := range a64.Ops() {
		w, e := Word(api.Ins{Op: op})
		if e != api.OK || Base(op) != w {
			t.Errorf("Base(%d): %x, %x", op, Base(op), w)
		}
	}
	if Base(-1) != 0 || Base(api.UDF) != 0 || Base(api.SVC+1) != 0 || Base(api.DMB) != 0xD5033BBF {
		t.Error("Base of none")
	}
}
