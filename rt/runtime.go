package rt

import (
	"brazier/abi"
	"brazier/api"
	"brazier/ins"
	"brazier/lab"
	"brazier/layout"
	"strconv"
)

// Registers that a routine may use as it likes are X0 to X8, X13 to X17; where it is called from is in X30.
const link = 30

// Labels of routines that are named in several parts.
const (
	labelTrap   = "trap"
	labelNew    = "new"
	labelLock   = "lock"
	labelUnlock = "unlock"
	labelCall   = "call"
	labelGo     = "go"
	labelEntry  = "entry"
	labelLeave  = "leave"
	labelResume = "resume"
	labelNext   = "next"
)

// part is one of the image: all of them lay the same code.
type part struct {
	*lab.Code
}

// routine lays instructions behind a label.
func (x part) routine(label string, l ...api.Ins) {
	x.Label(label)
	x.Put(l...)
}

// then lays some instructions, and a branch behind them.
func (x part) then(branch api.Ins, label string, l ...api.Ins) {
	x.Put(l...)
	x.Jump(branch, label)
}

// back lays some instructions, and goes back to who called.
func (x part) back(l ...api.Ins) {
	x.Put(l...)
	x.Put(ins.At(api.RET, link))
}

// vectors lays the words that go on to routines, and to what does a bytecode.
func (x part) vectors() {
	for _, label := range [...]string{abi.ToTrap: labelTrap, abi.ToNew: labelNew, abi.ToLock: labelLock, abi.ToUnlock: labelUnlock, abi.ToCall: labelCall, abi.ToLeave: labelLeave} {
		x.Jump(ins.Go(), label)
	}
	for c := range abi.Bytecodes {
		x.Jump(ins.Go(), handler(c))
	}
}

// handler tells the label of what does a bytecode.
func handler(c int) string {
	return "bytecode " + strconv.Itoa(c)
}

// runtime is objects, monitors, calls, traps, threads, and the routine that lays compiled code down.
type runtime struct {
	part
}

func (x runtime) lay(c layout.Config) {
	x.threads()
	x.object(c)
	x.lock()
	x.unlock()
	x.calls()
	x.layDown()
}

// threads: how they begin and end, and traps.
func (x runtime) threads() {
	x.routine("finish", ins.Call(abi.End))
	x.then(ins.Go(), "finish")
	finish, _ := x.Where("finish")
	x.routine(labelBegin, ins.Store(0, abi.Locals, 0))
	x.Const(abi.Word, finish)
	x.then(ins.Go(), labelEntry, ins.Store(abi.Word, abi.Control, 0), ins.Add(abi.Control, abi.Control, 8))
	x.routine(labelTrap, ins.Call(abi.Trap))
	x.then(ins.Go(), labelTrap)
}

// object: objects lie one behind the other; where the next one will be is one number for all cores.
func (x runtime) object(c layout.Config) {
	x.Label(labelNew)
	x.Const(7, layout.Heap+8*uint64(c.Heap))
	x.Put(ins.Small(6, 8), ins.Multiply(6, 1, 6, ins.None), ins.Add(6, 6, layout.Head))
	x.routine("new again", ins.Two(api.LDXR, 5, abi.Tables), ins.Three(api.ADD, 4, 5, 6))
	x.then(ins.If(ins.Above), "new full", ins.Compare(4, 7))
	x.then(ins.NotZero(8), "new again", ins.StoreIfMarked(8, 4, abi.Tables))
	// Nobody may see the object ahead of its first words.
	x.Put(ins.Store(3, 5, 0), ins.Store(1, 5, 8), ins.Barrier(2))
	x.back(ins.Move(0, 5), ins.Call(abi.New), ins.Small(2, 0))
	x.Label("new full")
	x.back(ins.Small(2, api.TMemory))
}

// lock: a monitor's word is its count, and above that the tag of who holds it.
// The barriers keep it in order with other accesses that order threads.
func (x runtime) lock() {
	x.routine(labelLock, ins.Add(4, 1, 16), ins.Barrier(0))
	x.Label("lock again")
	x.then(ins.Zero(5), "lock free", ins.Two(api.LDXR, 5, 4))
	x.then(ins.If(ins.NotEqual), "lock again", ins.Three(api.LSRV, 6, 5, abi.Half), ins.Compare(6, abi.Tag))
	x.then(ins.Go(), "lock put", ins.Add(7, 5, 1))
	x.routine("lock free", ins.Three(api.LSLV, 7, abi.Tag, abi.Half), ins.Add(7, 7, 1))
	x.Label("lock put")
	x.then(ins.NotZero(8), "lock again", ins.StoreIfMarked(8, 7, 4))
	x.back(ins.Barrier(0))
}

// unlock: the ISB lets the store be done only when all ahead of it has retired.
// So no other thread ever sees what has not happened for good.
func (x runtime) unlock() {
	x.routine(labelUnlock, ins.Add(4, 1, 16), ins.Load(5, 4, 0), ins.Three(api.LSRV, 6, 5, abi.Half))
	x.then(ins.If(ins.NotEqual), "unlock other", ins.Compare(6, abi.Tag))
	x.then(ins.NotZero(8), "unlock put", ins.Sub(7, 5, 1), ins.Three(api.LSLV, 8, 7, abi.Half))
	x.Put(ins.Small(7, 0))
	x.Label("unlock put")
	x.back(ins.Bare(api.ISB), ins.Two(api.STLR, 7, 4), ins.Small(2, 0))
	x.Label("unlock other")
	x.back(ins.Small(2, api.TMonitor))
}

// calls: from compiled code; what all calls have in common; and the way back.
func (x runtime) calls() {
	x.Label(labelCall)
	x.then(ins.If(ins.Equal), "call deep", ins.Compare(abi.Control, abi.Limit))
	x.Put(ins.Move(abi.Word, link))
	x.routine(labelGo, ins.Store(abi.Word, abi.Control, 0), ins.Add(abi.Control, abi.Control, 8), ins.Move(abi.Locals, abi.NewFrame))
	x.then(ins.Zero(0), labelEntry, ins.Call(abi.Hot))
	x.Jump(ins.Link(), labelLay)
	x.Label(labelEntry)
	x.entry(13)
	x.Put(ins.Two(api.LDAR, 14, 13), ins.Bare(api.ISB), ins.At(api.BR, 14))
	x.Label("call deep")
	x.then(ins.Go(), labelTrap, ins.Small(0, api.TDepth), ins.Move(1, abi.InMethod), ins.Move(2, abi.AtPlace))
	x.routine(labelLeave, ins.Sub(abi.Control, abi.Control, 8), ins.Load(abi.Word, abi.Control, 0))
	x.Const(17, 1<<abi.AddressBits-1)
	x.Put(ins.Three(api.AND, 17, 17, abi.Word), ins.At(api.BR, 17))
}

// entry makes a register where the callee's entry lies.
func (x runtime) entry(reg int) {
	x.Put(ins.Small(17, 8), ins.Add(reg, abi.Tables, abi.Entries), ins.Multiply(reg, abi.Callee, 17, reg))
}

// layDown lays code that was compiled down at X0, X10 lines of it, and tells it to all cores.
func (x runtime) layDown() {
	x.routine(labelLay, ins.Move(11, 0), ins.Move(12, 0), ins.Move(13, 10), ins.Move(14, 0))
	x.routine("lay line", ins.Call(abi.Line))
	for k := range 8 {
		x.Put(ins.Store(k, 11, int64(8*k)))
	}
	x.Put(ins.At(api.DC, 11), ins.Add(11, 11, api.Line))
	x.then(ins.If(ins.NotEqual), "lay line", ins.Number(api.SUBSI, 10, 10, 1))
	x.Put(ins.Bare(api.DSB))
	x.routine("lay tell", ins.At(api.IC, 12), ins.Add(12, 12, api.Line))
	x.then(ins.If(ins.NotEqual), "lay tell", ins.Number(api.SUBSI, 13, 13, 1))
	x.Put(ins.Bare(api.DSB), ins.Bare(api.ISB), ins.Call(abi.Told))
	x.entry(13)
	x.back(ins.Two(api.STLR, 14, 13))
	x.Label(labelLaid)
}
