package a64

import (
	"brazier/api"
	"iter"
)

// In tells the registers that i reads, rising, each once.
func In(i api.Ins) []int {
	return registers(i, read)
}

// Out tells those that it writes.
func Out(i api.Ins) []int {
	return registers(i, written)
}

// registers puts those that tells says in order; one that is none is left out.
func registers(i api.Ins, tells func(api.Ins) iter.Seq[int]) []int {
	if Check(i) != api.OK {
		return nil
	}
	var l []int
	for r := range tells(i) {
		if r != none {
			l = insert(l, r)
		}
	}
	return l
}

func insert(l []int, r int) []int {
	at := len(l)
	for at > 0 && l[at-1] >= r {
		at--
	}
	if at < len(l) && l[at] == r {
		return l
	}
	l = append(l, r)
	copy(l[at+1:], l[at:])
	l[at] = r
	return l
}

func read(i api.Ins) iter.Seq[int] {
	return func(yield func(int) bool) {
		have := fields(i.Op)
		_ = (!readsD(i.Op) || yield(i.D)) &&
			(have&hasN == 0 || yield(first(i))) &&
			(have&hasM == 0 || i.Op == api.MOVZ || i.Op == api.MOVK || yield(i.M)) &&
			(have&hasA == 0 || yield(i.A)) &&
			(have&hasCond == 0 || yield(Flags))
	}
}

func written(i api.Ins) iter.Seq[int] {
	return func(yield func(int) bool) {
		_ = (!writesD(i.Op) || yield(target(i))) &&
			(i.Op != api.BL && i.Op != api.BLR || yield(link)) &&
			(i.Op != api.SUBSI && i.Op != api.SUBS || yield(Flags))
	}
}

func readsD(op int) bool {
	switch op {
	case api.MOVK, api.CBZ, api.CBNZ, api.STR, api.STLR, api.STRR:
		return true
	}
	return false
}

func writesD(op int) bool {
	return api.MOVZ <= op && op <= api.CSINC || Load(op) || op == api.STXR
}

// first tells which register N is.
func first(i api.Ins) int {
	if i.N == none && (takesSP(i.Op) || i.Op == api.SUBSI || Memory(i.Op)) {
		return SP
	}
	return i.N
}

// target tells which register D is, where it is written.
func target(i api.Ins) int {
	if i.D == none && takesSP(i.Op) {
		return SP
	}
	return i.D
}

func takesSP(op int) bool {
	return op == api.ADDI || op == api.SUBI
}
