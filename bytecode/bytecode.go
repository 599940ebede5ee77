// Package bytecode: the numbers of the bytecodes of doc/13-code.md, for all that tell them apart.
package bytecode

const (
	Nop = iota
	Const
	Small
	Null
	Get
	Set
	Dup
	Drop
	Swap
	Add
	Sub
	Mul
	Div
	Rem
	And
	Or
	Xor
	Shl
	Shr
	Ushr
	Neg
	Lt
	Eq
	Same
	IsNull
	Jump
	If
	Call
	Ret
	New
	Getf
	Putf
	Newa
	Geta
	Puta
	Len
	Enter
	Exit
	Spawn
	Join
	Print
)
