package bytecode

import (
	"testing"

	"brazier/code"
)

func TestNumbersP1301(t *testing.T) {
	for n, c := range map[string]int{"nop": Nop, "const": Const, "small": Small, "null": Null, "get": Get, "set": Set, "dup": Dup, "drop": Drop, "swap": Swap, "add": Add, "sub": Sub, "mul": Mul, "div": Div, "rem": Rem, "and": And, "or": Or, "xor": Xor, "shl": Shl, "shr": Shr, "ushr": Ushr, "neg": Neg, "lt": Lt, "eq": Eq, "same": Same, "isnull": IsNull, "jump": Jump, "if": If, "call": Call, "ret": Ret, "new": New, "getf": Getf, "putf": Putf, "newa": Newa, "geta": Geta, "puta": Puta, "len": Len, "enter": Enter, "exit": Exit, "spawn": Spawn, "join": Join, "print": Print} {
		if code.Name(c) != n {
			t.Errorf("%d is %q, not %q", c, code.Name(c), n)
		}
	}
}
