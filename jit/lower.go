package jit

import (
	"brazier/abi"
	"brazier/api"
	"brazier/bytecode"
	"brazier/ins"
	"brazier/layout"
)

// lowering tells what lowers a bytecode.
func lowering(c int) func(*compiler) {
	switch c {
	case bytecode.Nop, bytecode.Drop:
		return (*compiler).nothing
	case bytecode.Const, bytecode.Small, bytecode.Null:
		return (*compiler).constant
	case bytecode.Get, bytecode.Set:
		return (*compiler).variable
	case bytecode.Dup, bytecode.Swap:
		return (*compiler).shuffle
	case bytecode.Div, bytecode.Rem:
		return (*compiler).divide
	case bytecode.Lt, bytecode.Eq, bytecode.Same, bytecode.IsNull:
		return (*compiler).compare
	case bytecode.Jump, bytecode.If:
		return (*compiler).jump
	case bytecode.Call:
		return (*compiler).call
	case bytecode.Ret:
		return (*compiler).ret
	case bytecode.New:
		return (*compiler).object
	case bytecode.Newa:
		return (*compiler).array
	case bytecode.Getf, bytecode.Putf:
		return (*compiler).field
	case bytecode.Geta, bytecode.Puta:
		return (*compiler).element
	case bytecode.Len:
		return (*compiler).length
	case bytecode.Enter, bytecode.Exit:
		return (*compiler).monitor
	case bytecode.Spawn, bytecode.Join, bytecode.Print:
		return (*compiler).thread
	}
	return (*compiler).compute
}

func (x *compiler) nothing() {
	x.Put(ins.Bare(api.NOP))
}

func (x *compiler) constant() {
	v := int64(0)
	switch x.o.Code {
	case bytecode.Const:
		v = x.p.Pool[x.o.A]
	case bytecode.Small:
		v = int64(x.o.A)
	}
	x.Const(0, uint64(v))
	x.put(0)
}

func (x *compiler) variable() {
	if x.o.Code == bytecode.Get {
		x.put(0, ins.Load(0, abi.Locals, local(x.o.A)))
		return
	}
	x.take(1)
	x.Put(ins.Store(0, abi.Locals, local(x.o.A)))
}

func (x *compiler) shuffle() {
	if x.o.Code == bytecode.Dup {
		x.take(1)
		x.put(0)
		return
	}
	x.take(2)
	x.put(1)
	x.put(2, ins.Move(0, 1))
}

// opOf tells which instruction makes one number of two.
func opOf(c int) int {
	switch c {
	case bytecode.Sub:
		return api.SUB
	case bytecode.And:
		return api.AND
	case bytecode.Or:
		return api.ORR
	case bytecode.Xor:
		return api.EOR
	case bytecode.Shl:
		return api.LSLV
	case bytecode.Shr:
		return api.ASRV
	case bytecode.Ushr:
		return api.LSRV
	}
	return api.ADD
}

func (x *compiler) compute() {
	switch x.o.Code {
	case bytecode.Neg:
		x.take(1)
		x.put(1, ins.Three(api.SUB, 0, ins.None, 0))
	case bytecode.Mul:
		x.take(2)
		x.put(2, ins.Multiply(0, 0, 1, ins.None))
	default:
		x.take(2)
		x.put(2, ins.Three(opOf(x.o.Code), 0, 0, 1))
	}
}

func (x *compiler) divide() {
	x.here()
	x.take(2)
	x.trapIf(ins.Zero(1), api.TDivide)
	if x.o.Code == bytecode.Div {
		x.put(2, ins.Three(api.SDIV, 0, 0, 1))
		return
	}
	x.put(2, ins.Three(api.SDIV, 2, 0, 1), api.Ins{Op: api.MSUB, D: 0, N: 2, M: 1, A: 0})
}

func (x *compiler) compare() {
	switch x.o.Code {
	case bytecode.IsNull:
		x.take(1)
		x.put(1, ins.CompareTo(0, 0), ins.Unless(0, ins.NotEqual))
	case bytecode.Lt:
		x.take(2)
		x.put(2, ins.Compare(0, 1), ins.Unless(0, ins.NotLess))
	default:
		x.take(2)
		x.put(2, ins.Compare(0, 1), ins.Unless(0, ins.NotEqual))
	}
}

func (x *compiler) jump() {
	branch := ins.Go()
	if x.o.Code == bytecode.If {
		x.take(1)
		branch = ins.NotZero(0)
	}
	x.Jump(branch, start(x.place+x.o.A))
}

// call: the values that the callee takes become its locals where they are.
func (x *compiler) call() {
	callee := x.p.Methods[x.o.A]
	params := len(callee.Params)
	frame := x.value(x.depth - params)
	x.here()
	x.Put(ins.Small(abi.InMethod, int64(x.method)), ins.Small(abi.Callee, int64(x.o.A)), ins.Add(abi.NewFrame, abi.Locals, frame))
	x.away(api.BL, abi.ToCall)
	x.Put(ins.Sub(abi.Locals, abi.Locals, frame))
	if callee.Ret != api.TVoid {
		x.put(params)
	}
}

func (x *compiler) ret() {
	if x.m.Ret != api.TVoid {
		x.take(1)
	}
	x.away(api.B, abi.ToLeave)
}

func (x *compiler) object() {
	x.here()
	x.Put(ins.Small(1, int64(len(x.p.Classes[x.o.A]))))
	x.Const(3, layout.Kind(x.o.A))
	x.routine(abi.ToNew)
	x.put(0)
}

// kindOfArray tells the first word of an array of a type.
func kindOfArray(t int) uint64 {
	if t == api.TRef {
		return layout.Kind(-2)
	}
	return layout.Kind(-1)
}

func (x *compiler) array() {
	x.here()
	x.Put(ins.Load(1, abi.Locals, x.value(x.depth-1)))
	x.trapIf(ins.If(ins.Negative), api.TSize, ins.CompareTo(1, 0))
	x.Const(2, api.MaxHeap)
	x.trapIf(ins.If(ins.Above), api.TMemory, ins.Compare(1, 2))
	x.Const(3, kindOfArray(x.o.A))
	x.routine(abi.ToNew)
	x.put(1)
}

// is holds X0, a reference, against null, and its first word against that of a class or an array.
func (x *compiler) is(kind uint64) {
	x.trapIf(ins.Zero(0), api.TNull)
	x.Const(3, kind)
	x.trapIf(ins.If(ins.NotEqual), api.TKind, ins.Load(4, 0, 0), ins.Compare(4, 3))
}

// field: stores to slots stand behind an ISB, so that they are done only when all ahead of them has retired.
func (x *compiler) field() {
	f := x.p.Classes[x.o.A][x.o.B]
	slot := layout.Head + 8*int64(x.o.B)
	reads := x.o.Code == bytecode.Getf
	x.here()
	if reads {
		x.take(1)
	} else {
		x.take(2)
	}
	x.is(layout.Kind(x.o.A))
	switch {
	case reads && f.Volatile:
		x.put(1, ins.Add(0, 0, slot), ins.Two(api.LDAR, 0, 0))
	case reads:
		x.put(1, ins.Load(0, 0, slot))
	case f.Volatile:
		x.Put(ins.Add(0, 0, slot), ins.Bare(api.ISB), ins.Two(api.STLR, 1, 0))
	default:
		x.Put(ins.Bare(api.ISB), ins.Store(1, 0, slot))
	}
}

func (x *compiler) element() {
	reads := x.o.Code == bytecode.Geta
	x.here()
	if reads {
		x.take(2)
	} else {
		x.take(3)
	}
	x.is(kindOfArray(x.o.A))
	// As a number from 0 on, so that none below 0 is less.
	x.trapIf(ins.If(ins.NotBelow), api.TBounds, ins.Load(4, 0, 8), ins.Compare(1, 4))
	x.Put(ins.Add(0, 0, layout.Head))
	if reads {
		x.put(2, ins.Three(api.LDRR, 0, 0, 1))
		return
	}
	x.Put(ins.Bare(api.ISB), ins.Three(api.STRR, 2, 0, 1))
}

func (x *compiler) length() {
	x.here()
	x.take(1)
	x.trapIf(ins.Zero(0), api.TNull)
	x.trapIf(ins.Zero(3), api.TKind, ins.Load(3, 0, 0), ins.Three(api.LSRV, 3, 3, abi.Half))
	x.put(1, ins.Load(0, 0, 8))
}

func (x *compiler) monitor() {
	x.here()
	x.Put(ins.Load(1, abi.Locals, x.value(x.depth-1)))
	x.trapIf(ins.Zero(1), api.TNull)
	then := x.lock
	if x.o.Code == bytecode.Exit {
		then = x.unlock
	}
	then()
}

func (x *compiler) lock()   { x.away(api.BL, abi.ToLock) }
func (x *compiler) unlock() { x.routine(abi.ToUnlock) }

func (x *compiler) thread() {
	x.here()
	x.Put(ins.Load(1, abi.Locals, x.value(x.depth-1)))
	switch x.o.Code {
	case bytecode.Spawn:
		x.trapIf(ins.Zero(0), api.TThread, ins.Small(3, int64(x.o.A)), ins.Call(abi.Spawn))
		x.put(1)
	case bytecode.Join:
		x.trapIf(ins.Zero(0), api.TThread, ins.Call(abi.Join))
	default:
		x.Put(ins.Call(abi.Print))
	}
}
