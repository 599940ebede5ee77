package win

import (
	"brazier/a64"
	"brazier/api"
)

// May tells whether instruction i may be done now.
func May(w []Inst, i int, base api.Regs) api.Errno {
	v, ok := see(w, i, base)
	if !ok {
		return api.ErrArg
	}
	if w[i].Done {
		return api.ErrNot
	}
	if _, known := v.inputs(i, a64.In(w[i].Ins)); !known {
		return api.ErrNot
	}
	t := trial{view: v, ins: w[i].Ins, place: v.placeOf(i)}
	e := api.OK
ahead:
	for j := range undone(w[:i]) {
		for _, waits := range [...]func(trial, int) bool{trial.waitsForBarrier, trial.waitsForKind, trial.waitsForPlace} {
			if waits(t, j) {
				e = api.ErrNot
				break ahead
			}
		}
	}
	return e
}

// trial is an instruction that is held against those ahead of it, rule by rule.
type trial struct {
	view
	ins   api.Ins
	place touch
}

// touch is the place that an instruction touches, where it is known, and whether a store ahead hands its data on.
type touch struct {
	addr      uint64
	known     bool
	forwarded bool
}

func (v view) placeOf(i int) touch {
	var t touch
	t.addr, t.known = v.addr(i)
	_, t.forwarded = v.forward(i)
	return t
}

// waitsForBarrier: rules 1 and 2.
func (t trial) waitsForBarrier(at int) bool {
	i, j := t.ins, t.w[at].Ins
	switch j.Op {
	case api.ISB:
		return true
	case api.DSB:
		switch i.Op {
		case api.DC, api.IC, api.DMB, api.DSB, api.ISB, api.SVC:
			return true
		}
		return a64.Memory(i.Op)
	case api.DMB:
		return a64.Memory(i.Op) && (j.Imm != 2 || a64.Store(i.Op))
	}
	return false
}

// waitsForKind: rules 3, 6 to 11 and 13, and of 12 that of IC.
func (t trial) waitsForKind(at int) bool {
	i, j := t.ins, t.w[at].Ins
	switch {
	case a64.Memory(i.Op) && j.Op == api.LDAR:
		return true
	case a64.Branch(j.Op) && isForGood(i.Op):
		return true
	}
	switch i.Op {
	case api.STLR:
		return a64.Memory(j.Op)
	case api.LDAR:
		return j.Op == api.STLR
	case api.LDXR, api.STXR:
		return j.Op == api.LDXR || j.Op == api.STXR
	case api.DMB:
		return isOrdered(i.Imm, j.Op)
	case api.DSB:
		return touches(j.Op)
	case api.IC:
		return j.Op == api.DSB
	case api.ISB, api.SVC, api.UDF:
		return true
	}
	return false
}

// isForGood tells of ops that cannot be taken back, and wait for branches therefore.
func isForGood(op int) bool {
	switch op {
	case api.LDXR, api.DC, api.IC, api.SVC:
		return true
	}
	return a64.Store(op)
}

// isOrdered tells whether a DMB of that number waits for op.
func isOrdered(imm int64, op int) bool {
	switch imm {
	case 0:
		return a64.Memory(op)
	case 1:
		return a64.Load(op)
	case 2:
		return a64.Store(op)
	}
	return false
}

// waitsForPlace: rules 4 and 5, and of 12 that of DC.
func (t trial) waitsForPlace(at int) bool {
	ahead := t.w[at].Ins.Op
	if !a64.Memory(ahead) || !a64.Memory(t.ins.Op) && t.ins.Op != api.DC {
		return false
	}
	addr, known := t.addr(at)
	switch {
	case !known:
		return true
	case !t.place.known:
		return false
	case t.ins.Op == api.DC:
		return a64.Store(ahead) && addr/api.Line == t.place.addr/api.Line
	}
	return addr/8 == t.place.addr/8 && !t.place.forwarded
}
