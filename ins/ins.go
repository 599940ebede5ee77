// Package ins: instructions by short names, for those that lay code.
package ins

import "brazier/api"

// None is the register that is 0 and takes nothing.
const None = 31

// Conditions.
const (
	Equal    = 0
	NotEqual = 1
	NotBelow = 2 // of numbers from 0 on
	Negative = 4
	Above    = 8 // of numbers from 0 on
	NotLess  = 10
)

// Three tells one of D, N, M.
func Three(op, d, n, m int) api.Ins { return api.Ins{Op: op, D: d, N: n, M: m} }

// Number tells one of D, N and a number.
func Number(op, d, n int, imm int64) api.Ins { return api.Ins{Op: op, D: d, N: n, Imm: imm} }

// Two tells one of D and N.
func Two(op, d, n int) api.Ins { return api.Ins{Op: op, D: d, N: n} }

// At tells one of N alone.
func At(op, n int) api.Ins { return api.Ins{Op: op, N: n} }

// Bare tells one without fields.
func Bare(op int) api.Ins { return api.Ins{Op: op} }

// Move tells one that makes d what m is.
func Move(d, m int) api.Ins { return Three(api.ORR, d, None, m) }

// Small tells one that makes d a number of 16 bits.
func Small(d int, v int64) api.Ins { return api.Ins{Op: api.MOVZ, D: d, Imm: v} }

// Load tells LDR.
func Load(d, n int, imm int64) api.Ins { return Number(api.LDR, d, n, imm) }

// Store tells STR.
func Store(d, n int, imm int64) api.Ins { return Number(api.STR, d, n, imm) }

// Byte tells LDRB.
func Byte(d, n int, imm int64) api.Ins { return Number(api.LDRB, d, n, imm) }

// Add tells ADDI.
func Add(d, n int, imm int64) api.Ins { return Number(api.ADDI, d, n, imm) }

// Sub tells SUBI.
func Sub(d, n int, imm int64) api.Ins { return Number(api.SUBI, d, n, imm) }

// Compare tells SUBS for the flags alone.
func Compare(n, m int) api.Ins { return Three(api.SUBS, None, n, m) }

// CompareTo tells SUBSI for the flags alone.
func CompareTo(n int, imm int64) api.Ins { return Number(api.SUBSI, None, n, imm) }

// Unless tells one that makes d 1, unless the condition holds, else 0.
func Unless(d, cond int) api.Ins { return api.Ins{Op: api.CSINC, D: d, N: None, M: None, Cond: cond} }

// StoreIfMarked tells STXR: d says whether it failed.
func StoreIfMarked(d, m, n int) api.Ins { return Three(api.STXR, d, n, m) }

// Multiply tells MADD: a + n times m.
func Multiply(d, n, m, a int) api.Ins { return api.Ins{Op: api.MADD, D: d, N: n, M: m, A: a} }

// Call tells SVC.
func Call(n int64) api.Ins { return api.Ins{Op: api.SVC, Imm: n} }

// Barrier tells DMB: 0 all, 1 loads ahead, 2 stores.
func Barrier(n int64) api.Ins { return api.Ins{Op: api.DMB, Imm: n} }

// If tells a branch on a condition, Zero and NotZero on a register, Go one always, Link one that comes back: where to is left open.
func If(cond int) api.Ins   { return api.Ins{Op: api.BCOND, Cond: cond} }
func Zero(d int) api.Ins    { return api.Ins{Op: api.CBZ, D: d} }
func NotZero(d int) api.Ins { return api.Ins{Op: api.CBNZ, D: d} }
func Go() api.Ins           { return api.Ins{Op: api.B} }
func Link() api.Ins         { return api.Ins{Op: api.BL} }
