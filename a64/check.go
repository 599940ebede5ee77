package a64

import "brazier/api"

// Fields that an instruction may have, besides its Op.
const (
	hasD = 1 << iota
	hasN
	hasM
	hasA
	hasCond
	hasImm
)

// Check tells ErrArg of an instruction that may not be.
func Check(i api.Ins) api.Errno {
	if !isOp(i.Op) || !hasOnly(i, fields(i.Op)) || !areRegisters(i) || !isCond(i) || !isImm(i) {
		return api.ErrArg
	}
	return api.OK
}

func fields(op int) int {
	switch op {
	case api.MOVZ, api.MOVK:
		return hasD | hasM | hasImm
	case api.ADDI, api.SUBI, api.SUBSI, api.LDR, api.STR, api.LDRB:
		return hasD | hasN | hasImm
	case api.MADD, api.MSUB:
		return hasD | hasN | hasM | hasA
	case api.CSINC:
		return hasD | hasN | hasM | hasCond
	case api.UDF, api.SVC, api.DMB, api.B, api.BL:
		return hasImm
	case api.BCOND:
		return hasImm | hasCond
	case api.CBZ, api.CBNZ:
		return hasD | hasImm
	case api.BR, api.BLR, api.RET, api.DC, api.IC:
		return hasN
	case api.LDAR, api.STLR, api.LDXR:
		return hasD | hasN
	case api.NOP, api.DSB, api.ISB:
		return 0
	}
	return hasD | hasN | hasM
}

func hasOnly(i api.Ins, have int) bool {
	return (have&hasD != 0 || i.D == 0) && (have&hasN != 0 || i.N == 0) && (have&hasM != 0 || i.M == 0) &&
		(have&hasA != 0 || i.A == 0) && (have&hasCond != 0 || i.Cond == 0) && (have&hasImm != 0 || i.Imm == 0)
}

func areRegisters(i api.Ins) bool {
	most := none
	if i.Op == api.MOVZ || i.Op == api.MOVK { // their M is no register
		most = 3
	}
	return within(i.D, 0, none) && within(i.N, 0, none) && within(i.M, 0, most) && within(i.A, 0, none)
}

func isCond(i api.Ins) bool {
	if i.Op == api.BCOND {
		return within(i.Cond, 0, 13)
	}
	return within(i.Cond, 0, 15)
}

func isImm(i api.Ins) bool {
	switch i.Op {
	case api.MOVZ, api.MOVK, api.SVC, api.UDF:
		return within(i.Imm, 0, 65535)
	case api.ADDI, api.SUBI, api.SUBSI, api.LDRB:
		return within(i.Imm, 0, 4095)
	case api.LDR, api.STR:
		return within(i.Imm, 0, 32760) && i.Imm%8 == 0
	case api.B, api.BL:
		return within(i.Imm, -(1<<27), 1<<27-4) && i.Imm%4 == 0
	case api.BCOND, api.CBZ, api.CBNZ:
		return within(i.Imm, -(1<<20), 1<<20-4) && i.Imm%4 == 0
	case api.DMB:
		return within(i.Imm, 0, 2)
	}
	return true
}

func within[T int | int64](v, lo, hi T) bool {
	return lo <= v && v <= hi
}
