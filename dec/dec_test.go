package dec

import (
	"slices"
	"testing"

	"brazier/a64"
	"brazier/api"
	"brazier/enc"
)

// samples are instructions of all ops, with fields at their edges.
func samples() []api.Ins {
	var l []api.Ins
	regs := []int{0, 1, 17, 30, 31}
	imms := []int64{0, 1, 2, 3, 4, 8, 16, 4095, 4096, 32760, 65535, -4, -8, 1<<20 - 4, -(1 << 20), 1<<27 - 4, -(1 << 27)}
	for op := range a64.Ops() {
		for _, r := range regs {
			for _, imm := range imms {
				for _, i := range []api.Ins{{Op: op}, {Op: op, Imm: imm}, {Op: op, D: r, Imm: imm}, {Op: op, D: 31 - r, N: r, Imm: imm}, {Op: op, D: r, Imm: imm, M: int(imm & 3)}, {Op: op, Cond: r & 15, Imm: imm}, {Op: op, N: r}, {Op: op, D: r, N: 5, M: 31 - r}, {Op: op, D: 3, N: r, M: 31, A: r}, {Op: op, D: r, N: 31, M: 9, Cond: r & 15}} {
					if a64.Check(i) == api.OK {
						l = append(l, i)
					}
				}
			}
		}
	}
	return l
}

func TestInsOfWordP402(t *testing.T) {
	words := map[uint32]api.Ins{}
	for _, i := range samples() {
		w, e := enc.Word(i)
		if e != api.OK || Ins(w) != i {
			t.Fatalf("%+v: %08X, %+v", i, w, Ins(w))
		}
		if Right(w) != (i.Op != api.UDF) {
			t.Errorf("Right(%08X)", w)
		}
		if j, ok := words[w]; ok && j != i {
			t.Errorf("%+v and %+v have one word", i, j)
		}
		words[w] = i
	}
}

func TestWordOfInsP401(t *testing.T) {
	w := uint32(1)
	check := func(w uint32) {
		i := Ins(w)
		if i.Op == api.UDF {
			if i != (api.Ins{Op: api.UDF, Imm: int64(w & 0xFFFF)}) || Right(w) {
				t.Fatalf("%08X: %+v, %v", w, i, Right(w))
			}
			return
		}
		if got, e := enc.Word(i); got != w || e != api.OK || !Right(w) {
			t.Fatalf("%08X: %+v, %08X", w, i, got)
		}
	}
	for range 100000 {
		w = w*1664525 + 1013904223
		check(w ^ w>>16)
	}
	for _, i := range samples()[:4000] { // words one bit away from an instruction's
		base, _ := enc.Word(i)
		for b := range 32 {
			check(base ^ 1<<b)
		}
	}
	for op := range a64.Ops() {
		for b := range 32 {
			for c := range 32 {
				check(enc.Base(op) ^ 1<<b ^ 1<<c)
			}
		}
	}
}

func TestExamplesP401(t *testing.T) {
	if Ins(0xD65F03C0) != (api.Ins{Op: api.RET, N: 30}) || Ins(0xFFFFFFFF) != (api.Ins{Op: api.UDF, Imm: 65535}) || Ins(0) != (api.Ins{}) || Ins(0x12345) != (api.Ins{Imm: 0x2345}) {
		t.Error("examples")
	}
	for _, w := range []uint32{0, 1, 0xFFFF, 0x10000, 0xFFFFFFFF, 0x5400000E, 0x5400000F, 0x54000010, 0xD503205F, 0xD50338BF, 0xD4000002, 0xD4000000, 0xD65F03C1, 0x8B000400, 0x9A800000, 0xF8206800, 0xC8008000, 0xB9400000} {
		if Right(w) {
			t.Errorf("Right(%08X): %+v", w, Ins(w))
		}
	}
}

func TestAllP401(t *testing.T) {
	words := []uint32{0xD503201F, 0, 0xD65F03C0}
	seq := All(words)
	words[0] = 0
	for range 2 {
		var places []int
		var l []api.Ins
		for at, i := range seq {
			places, l = append(places, at), append(l, i)
		}
		if !slices.Equal(places, []int{0, 1, 2}) || !slices.Equal(l, []api.Ins{{Op: api.NOP}, {}, {Op: api.RET, N: 30}}) {
			t.Errorf("%v %v", places, l)
		}
	}
	for at := range seq {
		if at == 1 {
			break
		}
	}
	for range All(nil) {
		t.Error("All of none")
	}
}

func TestBytesP401(t *testing.T) {
	l, e := Bytes([]byte{0x1F, 0x20, 0x03, 0xD5, 0xC0, 0x03, 0x5F, 0xD6})
	if e != api.OK || !slices.Equal(l, []api.Ins{{Op: api.NOP}, {Op: api.RET, N: 30}}) {
		t.Errorf("%v %v", l, e)
	}
	for n := 1; n < 8; n++ {
		if l, e := Bytes(make([]byte, n)); n != 4 && (l != nil || e != api.ErrShort) {
			t.Errorf("%d bytes: %v %v", n, l, e)
		}
	}
	if l, e := Bytes(nil); len(l) != 0 || e != api.OK {
		t.Error("no bytes")
	}
}
