package rt

import (
	"brazier/abi"
	"brazier/api"
	"brazier/bytecode"
	"brazier/ins"
	"brazier/layout"
	"strconv"
)

// interpreter is a loop that takes a method's bytecodes from the tables, and does them.
// While a bytecode is done its place stays, so that a trap can tell it.
type interpreter struct {
	part
}

func (x interpreter) lay() {
	x.resume()
	x.enter()
	x.traps()
	x.moves()
	x.sums()
	x.divisions()
	x.comparisons()
	x.jumps()
	x.calls()
	x.objects()
	x.fields()
	x.elements()
	x.monitors()
	x.threads()
}

// next goes on behind a bytecode of so many bytes.
func (x interpreter) next(size int64, l ...api.Ins) {
	x.Put(l...)
	x.then(ins.Go(), labelNext, ins.Add(abi.Place, abi.Place, size))
}

// push puts X0 onto the stack, and goes on.
func (x interpreter) push(size int64, l ...api.Ins) {
	x.Put(l...)
	x.next(size, ins.Store(0, abi.Top, 0), ins.Add(abi.Top, abi.Top, 8))
}

// on begins what does a bytecode that takes so many values: they are loaded into X0, X1, .., the topmost last.
func (x interpreter) on(c, takes int, l ...api.Ins) {
	x.Label(handler(c))
	if takes > 0 {
		x.Put(ins.Sub(abi.Top, abi.Top, int64(8*takes)))
	}
	for k := range takes {
		x.Put(ins.Load(k, abi.Top, int64(8*k)))
	}
	x.Put(l...)
}

// trapLabel tells the label of a trap of the bytecode that is done.
func trapLabel(trap int) string {
	return "trap " + strconv.Itoa(trap)
}

// operand loads the n-th byte behind a bytecode.
func operand(reg int, n int64) api.Ins {
	return ins.Byte(reg, abi.Place, n)
}

// row makes a register the k-th number of a row of the tables.
func row(reg, k int, at int64) []api.Ins {
	return []api.Ins{ins.Add(reg, abi.Tables, at), ins.Three(api.LDRR, reg, reg, k)}
}

// resume goes on behind a call, by what the word of the control stack says.
func (x interpreter) resume() {
	x.Label(labelResume)
	x.Const(1, layout.TableSize-1)
	x.Put(ins.Three(api.LSRV, 2, abi.Word, abi.Half), ins.Three(api.AND, 2, 2, 1), ins.Three(api.ADD, abi.Place, abi.Tables, 2))
	x.Put(ins.Small(1, abi.MethodBit), ins.Three(api.LSRV, abi.Method, abi.Word, 1))
	x.Put(ins.Small(1, abi.FrameBit), ins.Three(api.LSRV, 2, abi.Word, 1), ins.Small(1, 1<<(abi.PlaceBit-abi.FrameBit)-1), ins.Three(api.AND, 2, 2, 1))
	x.Put(ins.Move(abi.Top, abi.Locals), ins.Three(api.SUB, abi.Locals, abi.Locals, 2))
	x.Put(operand(1, 1))
	x.Put(row(2, 1, abi.Tells)...)
	x.Jump(ins.Zero(2), "resume void")
	x.push(2)
	x.Label("resume void")
	x.next(2)
}

// enter begins a method, and goes on to the loop.
func (x interpreter) enter() {
	x.routine(labelEnter, ins.Move(abi.Method, abi.Callee))
	x.Put(row(1, abi.Method, abi.Params)...)
	x.Put(ins.Three(api.ADD, abi.Top, abi.Locals, 1))
	x.Put(row(2, abi.Method, abi.Others)...)
	x.Jump(ins.Zero(2), "enter begun")
	x.routine("enter local", ins.Store(ins.None, abi.Top, 0), ins.Add(abi.Top, abi.Top, 8))
	x.then(ins.If(ins.NotEqual), "enter local", ins.Number(api.SUBSI, 2, 2, 1))
	x.Label("enter begun")
	x.Put(row(abi.Place, abi.Method, abi.Codes)...)
	x.routine(labelNext, operand(0, 0), ins.Multiply(0, 0, abi.Four, abi.Vector), ins.At(api.BR, 0))
}

// traps tells which trap, and where.
func (x interpreter) traps() {
	x.routine("trap of routine", ins.Move(0, 2))
	x.Label("trap here")
	x.Put(ins.Move(1, abi.Method))
	x.Put(row(3, abi.Method, abi.Codes)...)
	x.then(ins.Go(), labelTrap, ins.Three(api.SUB, 2, abi.Place, 3))
	for trap := api.TNull; trap <= api.TMemory; trap++ {
		x.Label(trapLabel(trap))
		x.then(ins.Go(), "trap here", ins.Small(0, int64(trap)))
	}
}

func (x interpreter) moves() {
	x.on(bytecode.Nop, 0)
	x.next(1)
	x.on(bytecode.Const, 0, operand(1, 1), ins.Small(2, abi.Pool), ins.Three(api.ADD, 2, 2, abi.Tables))
	x.push(2, ins.Three(api.LDRR, 0, 2, 1))
	x.on(bytecode.Small, 0, operand(0, 1), ins.Small(1, 56))
	x.push(2, ins.Three(api.LSLV, 0, 0, 1), ins.Three(api.ASRV, 0, 0, 1))
	x.on(bytecode.Null, 0)
	x.push(1, ins.Small(0, 0))
	x.on(bytecode.Get, 0, operand(1, 1))
	x.push(2, ins.Three(api.LDRR, 0, abi.Locals, 1))
	x.on(bytecode.Set, 1, operand(1, 1))
	x.next(2, ins.Three(api.STRR, 0, abi.Locals, 1))
	x.on(bytecode.Dup, 1)
	x.push(1, ins.Store(0, abi.Top, 0), ins.Add(abi.Top, abi.Top, 8))
	x.on(bytecode.Drop, 1)
	x.next(1)
	x.on(bytecode.Swap, 2)
	x.push(1, ins.Store(1, abi.Top, 0), ins.Add(abi.Top, abi.Top, 8))
}

func (x interpreter) sums() {
	for _, s := range [...]struct{ code, op int }{{bytecode.Add, api.ADD}, {bytecode.Sub, api.SUB}, {bytecode.And, api.AND}, {bytecode.Or, api.ORR}, {bytecode.Xor, api.EOR}, {bytecode.Shl, api.LSLV}, {bytecode.Shr, api.ASRV}, {bytecode.Ushr, api.LSRV}} {
		x.on(s.code, 2)
		x.push(1, ins.Three(s.op, 0, 0, 1))
	}
	x.on(bytecode.Mul, 2)
	x.push(1, ins.Multiply(0, 0, 1, ins.None))
	x.on(bytecode.Neg, 1)
	x.push(1, ins.Three(api.SUB, 0, ins.None, 0))
}

func (x interpreter) divisions() {
	x.on(bytecode.Div, 2)
	x.Jump(ins.Zero(1), trapLabel(api.TDivide))
	x.push(1, ins.Three(api.SDIV, 0, 0, 1))
	x.on(bytecode.Rem, 2)
	x.Jump(ins.Zero(1), trapLabel(api.TDivide))
	x.push(1, ins.Three(api.SDIV, 2, 0, 1), api.Ins{Op: api.MSUB, D: 0, N: 2, M: 1, A: 0})
}

func (x interpreter) comparisons() {
	x.on(bytecode.Lt, 2)
	x.push(1, ins.Compare(0, 1), ins.Unless(0, ins.NotLess))
	for _, c := range [...]int{bytecode.Eq, bytecode.Same} {
		x.on(c, 2)
		x.push(1, ins.Compare(0, 1), ins.Unless(0, ins.NotEqual))
	}
	x.on(bytecode.IsNull, 1)
	x.push(1, ins.CompareTo(0, 0), ins.Unless(0, ins.NotEqual))
}

func (x interpreter) jumps() {
	x.on(bytecode.If, 1)
	x.Jump(ins.NotZero(0), handler(bytecode.Jump))
	x.next(3)
	x.on(bytecode.Jump, 0, operand(1, 1), operand(2, 2), ins.Small(3, 256), ins.Multiply(1, 2, 3, 1))
	x.Put(ins.Small(3, 48), ins.Three(api.LSLV, 1, 1, 3), ins.Three(api.ASRV, 1, 1, 3))
	x.then(ins.Go(), labelNext, ins.Three(api.ADD, abi.Place, abi.Place, 1))
}

// calls: the values that a callee takes become its locals where they are.
func (x interpreter) calls() {
	x.on(bytecode.Call, 0, operand(abi.Callee, 1))
	x.then(ins.If(ins.Equal), trapLabel(api.TDepth), ins.Compare(abi.Control, abi.Limit))
	x.Put(row(1, abi.Callee, abi.Params)...)
	x.Put(ins.Three(api.SUB, abi.NewFrame, abi.Top, 1))
	resume, _ := x.Where(labelResume)
	x.Const(abi.Word, resume)
	x.pack(abi.FrameBit, ins.Three(api.SUB, 1, abi.NewFrame, abi.Locals))
	x.pack(abi.PlaceBit, ins.Three(api.SUB, 1, abi.Place, abi.Tables))
	x.pack(abi.MethodBit, ins.Move(1, abi.Method))
	x.Jump(ins.Go(), labelGo)
	x.on(bytecode.Ret, 0, row(1, abi.Method, abi.Tells)...)
	x.Jump(ins.Zero(1), labelLeave)
	x.then(ins.Go(), labelLeave, ins.Sub(abi.Top, abi.Top, 8), ins.Load(0, abi.Top, 0))
}

// pack puts what an instruction makes X1 into the word of the control stack, from that bit on.
func (x interpreter) pack(bit int64, i api.Ins) {
	x.Put(i, ins.Small(2, bit), ins.Three(api.LSLV, 1, 1, 2), ins.Three(api.ADD, abi.Word, abi.Word, 1))
}

func (x interpreter) objects() {
	x.on(bytecode.New, 0, operand(3, 1))
	x.Put(row(1, 3, abi.Sizes)...)
	x.Put(ins.Add(3, 3, 1))
	x.made()
	x.on(bytecode.Newa, 1, ins.Move(1, 0))
	x.then(ins.If(ins.Negative), trapLabel(api.TSize), ins.CompareTo(1, 0))
	x.Const(2, api.MaxHeap)
	x.then(ins.If(ins.Above), trapLabel(api.TMemory), ins.Compare(1, 2))
	x.kindOfArray(3)
	x.made()
	x.on(bytecode.Len, 1)
	x.Jump(ins.Zero(0), trapLabel(api.TNull))
	x.then(ins.Zero(3), trapLabel(api.TKind), ins.Load(3, 0, 0), ins.Three(api.LSRV, 3, 3, abi.Half))
	x.push(1, ins.Load(0, 0, 8))
}

// made asks for an object, and pushes it.
func (x interpreter) made() {
	x.Jump(ins.Link(), labelNew)
	x.Jump(ins.NotZero(2), "trap of routine")
	x.push(2)
}

// kindOfArray makes a register the first word of an array of the type that stands behind the bytecode.
func (x interpreter) kindOfArray(reg int) {
	x.Put(operand(reg, 1), api.Ins{Op: api.MOVK, D: reg, Imm: 1, M: 2})
}

// object holds X0, a reference, against null, and its first word against X3.
func (x interpreter) object() {
	x.Jump(ins.Zero(0), trapLabel(api.TNull))
	x.then(ins.If(ins.NotEqual), trapLabel(api.TKind), ins.Load(4, 0, 0), ins.Compare(4, 3))
}

// fields: X0 is made where the slots begin, or the slot itself. Stores to slots stand behind an ISB: see unlock.
func (x interpreter) fields() {
	x.field(bytecode.Getf, 1)
	x.push(3, ins.Three(api.LDRR, 0, 0, 2))
	x.field(abi.GetVolatile, 1, ins.Small(4, 8), ins.Multiply(0, 2, 4, 0))
	x.push(3, ins.Two(api.LDAR, 0, 0))
	x.field(bytecode.Putf, 2)
	x.next(3, ins.Bare(api.ISB), ins.Three(api.STRR, 1, 0, 2))
	x.field(abi.PutVolatile, 2, ins.Small(4, 8), ins.Multiply(0, 2, 4, 0))
	x.next(3, ins.Bare(api.ISB), ins.Two(api.STLR, 1, 0))
}

func (x interpreter) field(c, takes int, l ...api.Ins) {
	x.on(c, takes, operand(3, 1), ins.Add(3, 3, 1), operand(2, 2))
	x.object()
	x.Put(ins.Add(0, 0, layout.Head))
	x.Put(l...)
}

func (x interpreter) elements() {
	x.on(bytecode.Geta, 2)
	x.element()
	x.push(2, ins.Three(api.LDRR, 0, 0, 1))
	x.on(bytecode.Puta, 3)
	x.element()
	x.next(2, ins.Bare(api.ISB), ins.Three(api.STRR, 2, 0, 1))
}

// element holds X0 against what an array must be, and X1 against its length: as a number from 0 on, so that none below 0 is less.
func (x interpreter) element() {
	x.kindOfArray(3)
	x.object()
	x.then(ins.If(ins.NotBelow), trapLabel(api.TBounds), ins.Load(4, 0, 8), ins.Compare(1, 4))
	x.Put(ins.Add(0, 0, layout.Head))
}

func (x interpreter) monitors() {
	for _, m := range [...]struct {
		code  int
		label string
	}{{bytecode.Enter, labelLock}, {bytecode.Exit, labelUnlock}} {
		x.on(m.code, 1, ins.Move(1, 0), ins.Small(2, 0))
		x.Jump(ins.Zero(0), trapLabel(api.TNull))
		x.Jump(ins.Link(), m.label)
		x.Jump(ins.NotZero(2), "trap of routine")
		x.next(1)
	}
}

func (x interpreter) threads() {
	x.on(bytecode.Spawn, 1, operand(3, 1), ins.Move(1, 0), ins.Call(abi.Spawn))
	x.Jump(ins.Zero(0), trapLabel(api.TThread))
	x.push(2)
	x.on(bytecode.Join, 1, ins.Move(1, 0), ins.Call(abi.Join))
	x.Jump(ins.Zero(0), trapLabel(api.TThread))
	x.next(1)
	x.on(bytecode.Print, 1, ins.Move(1, 0), ins.Call(abi.Print))
	x.next(1)
}
