package verify

import (
	"brazier/api"
	"brazier/bytecode"
	"brazier/code"
	"slices"
)

const (
	mostHeld = 10
	anyType  = -1
)

// Effect tells the shape behind a bytecode.
func Effect(p api.Program, m int, o code.Op, s Shape) (Shape, api.Errno) {
	if !isMethod(p, m) || o.Code < 0 || o.Code > bytecode.Print || !names(p, m, o) {
		return Shape{}, api.ErrName
	}
	takes := takesOf(p, m, o)
	left := len(s.Types) - len(takes)
	if left < 0 {
		return Shape{}, api.ErrStack
	}
	for n := len(takes) - 1; n >= 0; n-- {
		if takes[n] != anyType && takes[n] != s.Types[left+n] {
			return Shape{}, api.ErrType
		}
	}
	held := s.Held
	switch {
	case o.Code == bytecode.Enter && held >= mostHeld, o.Code == bytecode.Exit && held == 0:
		return Shape{}, api.ErrHeld
	case o.Code == bytecode.Enter:
		held++
	case o.Code == bytecode.Exit:
		held--
	}
	puts := putsOf(p, m, o, s.Types[left:])
	return Shape{slices.Concat(s.Types[:left], puts), held}, api.OK
}

// names tells whether each operand of o names something (where a jump goes is not asked).
func names(p api.Program, m int, o code.Op) bool {
	switch o.Code {
	case bytecode.Const:
		return isIn(o.A, len(p.Pool))
	case bytecode.Get, bytecode.Set:
		return isIn(o.A, len(p.Methods[m].Params)+len(p.Methods[m].Locals))
	case bytecode.Call:
		return isIn(o.A, len(p.Methods))
	case bytecode.New:
		return isIn(o.A, len(p.Classes))
	case bytecode.Getf, bytecode.Putf:
		return isIn(o.A, len(p.Classes)) && isIn(o.B, len(p.Classes[o.A]))
	case bytecode.Newa, bytecode.Geta, bytecode.Puta:
		return o.A == api.TInt || o.A == api.TRef
	case bytecode.Spawn:
		return isIn(o.A, len(p.Methods)) && isThreads(p.Methods[o.A])
	}
	return true
}

func isIn(n, count int) bool {
	return 0 <= n && n < count
}

// isThreads tells whether a thread may begin with m.
func isThreads(m api.Method) bool {
	return len(m.Params) == 1 && m.Params[0] == api.TRef && m.Ret == api.TVoid
}

// takesOf tells the types that o takes, the topmost last.
func takesOf(p api.Program, m int, o code.Op) []int {
	switch o.Code {
	case bytecode.Set:
		return []int{local(p.Methods[m], o.A)}
	case bytecode.Dup, bytecode.Drop:
		return []int{anyType}
	case bytecode.Swap:
		return []int{anyType, anyType}
	case bytecode.Neg, bytecode.If, bytecode.Newa, bytecode.Join, bytecode.Print:
		return []int{api.TInt}
	case bytecode.Same:
		return []int{api.TRef, api.TRef}
	case bytecode.IsNull, bytecode.Getf, bytecode.Len, bytecode.Enter, bytecode.Exit, bytecode.Spawn:
		return []int{api.TRef}
	case bytecode.Call:
		return p.Methods[o.A].Params
	case bytecode.Ret:
		return valueOf(p.Methods[m].Ret)
	case bytecode.Putf:
		return []int{api.TRef, p.Classes[o.A][o.B].Type}
	case bytecode.Geta:
		return []int{api.TRef, api.TInt}
	case bytecode.Puta:
		return []int{api.TRef, api.TInt, o.A}
	}
	if isSum(o.Code) {
		return []int{api.TInt, api.TInt}
	}
	return nil
}

// putsOf tells the types that o puts, where it has taken those.
func putsOf(p api.Program, m int, o code.Op, taken []int) []int {
	switch o.Code {
	case bytecode.Get:
		return []int{local(p.Methods[m], o.A)}
	case bytecode.Dup:
		return []int{taken[0], taken[0]}
	case bytecode.Swap:
		return []int{taken[1], taken[0]}
	case bytecode.Const, bytecode.Small, bytecode.Neg, bytecode.Same, bytecode.IsNull, bytecode.Len, bytecode.Spawn:
		return []int{api.TInt}
	case bytecode.Null, bytecode.New, bytecode.Newa:
		return []int{api.TRef}
	case bytecode.Call:
		return valueOf(p.Methods[o.A].Ret)
	case bytecode.Getf:
		return []int{p.Classes[o.A][o.B].Type}
	case bytecode.Geta:
		return []int{o.A}
	}
	if isSum(o.Code) {
		return []int{api.TInt}
	}
	return nil
}

// isSum tells of the bytecodes that make one number of two.
func isSum(c int) bool {
	return bytecode.Add <= c && c <= bytecode.Ushr || c == bytecode.Lt || c == bytecode.Eq
}

func local(m api.Method, n int) int {
	if n < len(m.Params) {
		return m.Params[n]
	}
	return m.Locals[n-len(m.Params)]
}

func valueOf(ret int) []int {
	if ret == api.TVoid {
		return nil
	}
	return []int{ret}
}

func jumps(c int) bool {
	return c == bytecode.Jump || c == bytecode.If
}

func returns(c int) bool {
	return c == bytecode.Ret
}

func goesOn(c int) bool {
	return c != bytecode.Jump && c != bytecode.Ret
}
