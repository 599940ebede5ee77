package step

import (
	"brazier/api"
	"brazier/bits"
	"brazier/bytecode"
	"brazier/code"
	"brazier/heap"
)

// Kinds of arrays, as a heap tells them.
const (
	arrayOfInt = -1
	arrayOfRef = -2
)

// doing is a bytecode while it is done.
type doing struct {
	*Thread
	p     api.Program
	w     World
	f     *Frame
	o     code.Op
	depth int
	trap  int
}

// doer tells what does a bytecode.
func doer(c int) func(*doing) int {
	switch c {
	case bytecode.Nop, bytecode.Const, bytecode.Small, bytecode.Null, bytecode.Get, bytecode.Set, bytecode.Dup, bytecode.Drop, bytecode.Swap:
		return (*doing).move
	case bytecode.Div, bytecode.Rem:
		return (*doing).divide
	case bytecode.Neg:
		return (*doing).negate
	case bytecode.Same:
		return (*doing).same
	case bytecode.IsNull:
		return (*doing).isNull
	case bytecode.Jump:
		return (*doing).jump
	case bytecode.If:
		return (*doing).jumpIf
	case bytecode.Call:
		return (*doing).call
	case bytecode.Ret:
		return (*doing).ret
	case bytecode.New:
		return (*doing).object
	case bytecode.Newa:
		return (*doing).array
	case bytecode.Getf, bytecode.Putf:
		return (*doing).field
	case bytecode.Geta, bytecode.Puta:
		return (*doing).element
	case bytecode.Len:
		return (*doing).length
	case bytecode.Enter:
		return (*doing).enter
	case bytecode.Exit:
		return (*doing).exit
	case bytecode.Spawn:
		return (*doing).spawn
	case bytecode.Join:
		return (*doing).join
	case bytecode.Print:
		return (*doing).say
	}
	return (*doing).compute
}

// top tells the n-th value from the top, 0 being the topmost; a zero, if a thread that may not be has none.
func (d *doing) top(n int) heap.Value {
	if n >= len(d.f.Stack) {
		return heap.Value{}
	}
	return d.f.Stack[len(d.f.Stack)-1-n]
}

// ref tells the object that the n-th value from the top is.
func (d *doing) ref(n int) int {
	return int(d.top(n).N)
}

// went takes so many values, puts others, and goes on behind the bytecode.
func (d *doing) went(takes int, puts ...heap.Value) int {
	left := max(0, len(d.f.Stack)-takes)
	d.f.Stack = append(d.f.Stack[:left], puts...)
	d.f.Place += d.o.Size
	d.Steps++
	return Went
}

func (d *doing) traps(kind int) int {
	d.trap = kind
	return Trap
}

func number(n int64) heap.Value {
	return heap.Value{N: n}
}

func truth(is bool) heap.Value {
	if is {
		return number(1)
	}
	return number(0)
}

func reference(o int) heap.Value {
	return heap.Value{Ref: true, N: int64(o)}
}

func (d *doing) move() int {
	switch d.o.Code {
	case bytecode.Const:
		if isIn(d.o.A, len(d.p.Pool)) {
			return d.went(0, number(d.p.Pool[d.o.A]))
		}
	case bytecode.Small:
		return d.went(0, number(int64(d.o.A)))
	case bytecode.Null:
		return d.went(0, reference(0))
	case bytecode.Get:
		if isIn(d.o.A, len(d.f.Locals)) {
			return d.went(0, d.f.Locals[d.o.A])
		}
	case bytecode.Set:
		if isIn(d.o.A, len(d.f.Locals)) {
			d.f.Locals[d.o.A] = d.top(0)
			return d.went(1)
		}
	case bytecode.Dup:
		return d.went(1, d.top(0), d.top(0))
	case bytecode.Drop:
		return d.went(1)
	case bytecode.Swap:
		return d.went(2, d.top(0), d.top(1))
	default:
		return d.went(0)
	}
	return Waits
}

func (d *doing) compute() int {
	a, b := d.top(1).N, d.top(0).N
	v := int64(0)
	switch d.o.Code {
	case bytecode.Add:
		v = a + b
	case bytecode.Sub:
		v = a - b
	case bytecode.Mul:
		v = a * b
	case bytecode.And:
		v = a & b
	case bytecode.Or:
		v = a | b
	case bytecode.Xor:
		v = a ^ b
	case bytecode.Shl:
		v = int64(bits.Shift(uint64(a), uint64(b), 0))
	case bytecode.Ushr:
		v = int64(bits.Shift(uint64(a), uint64(b), 1))
	case bytecode.Shr:
		v = int64(bits.Shift(uint64(a), uint64(b), 2))
	case bytecode.Lt:
		return d.went(2, truth(a < b))
	case bytecode.Eq:
		return d.went(2, truth(a == b))
	}
	return d.went(2, number(v))
}

func (d *doing) divide() int {
	a, b := d.top(1).N, d.top(0).N
	switch {
	case b == 0:
		return d.traps(api.TDivide)
	case d.o.Code == bytecode.Div:
		return d.went(2, number(bits.Div(a, b)))
	}
	return d.went(2, number(bits.Rem(a, b)))
}

func (d *doing) negate() int { return d.went(1, number(-d.top(0).N)) }
func (d *doing) same() int   { return d.went(2, truth(d.ref(1) == d.ref(0))) }
func (d *doing) isNull() int { return d.went(1, truth(d.ref(0) == 0)) }

func (d *doing) jump() int {
	d.f.Place += d.o.A - d.o.Size
	return d.went(0)
}

func (d *doing) jumpIf() int {
	if d.top(0).N != 0 {
		d.f.Place += d.o.A - d.o.Size
	}
	return d.went(1)
}

func (d *doing) call() int {
	if len(d.Frames) >= d.depth {
		return d.traps(api.TDepth)
	}
	if !isIn(d.o.A, len(d.p.Methods)) {
		return Waits
	}
	params := len(d.p.Methods[d.o.A].Params)
	args := make([]heap.Value, params)
	for n := range args {
		args[n] = d.top(params - 1 - n)
	}
	d.went(params)
	d.Frames = append(d.Frames, frame(d.p, d.o.A, args))
	return Went
}

func (d *doing) ret() int {
	var values []heap.Value
	if d.p.Methods[d.f.Method].Ret != api.TVoid {
		values = append(values, d.top(0))
	}
	last := len(d.Frames) - 1
	d.Frames[last] = Frame{}
	d.Frames = d.Frames[:last]
	d.Steps++
	if last == 0 {
		return Ended
	}
	caller := &d.Frames[last-1]
	caller.Stack = append(caller.Stack, values...)
	return Went
}

func (d *doing) object() int {
	var fields []api.Field
	if isIn(d.o.A, len(d.p.Classes)) {
		fields = d.p.Classes[d.o.A]
	}
	o, ok := d.w.Object(d.Id, d.o.A, fields)
	if !ok {
		return d.traps(api.TMemory)
	}
	return d.went(0, reference(o))
}

func (d *doing) array() int {
	n := d.top(0).N
	switch {
	case n < 0:
		return d.traps(api.TSize)
	case n > api.MaxHeap:
		return d.traps(api.TMemory)
	}
	o, ok := d.w.Array(d.Id, d.o.A, n)
	if !ok {
		return d.traps(api.TMemory)
	}
	return d.went(1, reference(o))
}

// isVolatile tells whether the field that a bytecode names is.
func (d *doing) isVolatile() bool {
	return isIn(d.o.A, len(d.p.Classes)) && isIn(d.o.B, len(d.p.Classes[d.o.A])) && d.p.Classes[d.o.A][d.o.B].Volatile
}

func (d *doing) field() int {
	takes := 1
	if d.o.Code == bytecode.Putf {
		takes = 2
	}
	o := d.ref(takes - 1)
	if o == 0 {
		return d.traps(api.TNull)
	}
	if kind, ok := d.w.Kind(o); !ok || kind != d.o.A {
		return d.traps(api.TKind)
	}
	if d.o.Code == bytecode.Getf {
		return d.went(1, d.w.Get(d.Id, o, d.o.B, d.isVolatile()))
	}
	d.w.Put(d.Id, o, d.o.B, d.isVolatile(), d.top(0))
	return d.went(2)
}

func (d *doing) element() int {
	takes := 2
	if d.o.Code == bytecode.Puta {
		takes = 3
	}
	o, at := d.ref(takes-1), d.top(takes-2).N
	if o == 0 {
		return d.traps(api.TNull)
	}
	want := arrayOfInt
	if d.o.A == api.TRef {
		want = arrayOfRef
	}
	if kind, ok := d.w.Kind(o); !ok || kind != want {
		return d.traps(api.TKind)
	}
	if at < 0 || at >= int64(d.w.Len(o)) {
		return d.traps(api.TBounds)
	}
	if d.o.Code == bytecode.Geta {
		return d.went(2, d.w.Get(d.Id, o, int(at), false))
	}
	d.w.Put(d.Id, o, int(at), false, d.top(0))
	return d.went(3)
}

func (d *doing) length() int {
	o := d.ref(0)
	if o == 0 {
		return d.traps(api.TNull)
	}
	if kind, ok := d.w.Kind(o); !ok || kind != arrayOfInt && kind != arrayOfRef {
		return d.traps(api.TKind)
	}
	return d.went(1, number(int64(d.w.Len(o))))
}

func (d *doing) enter() int { return d.monitor(d.w.Enter, d.waits) }
func (d *doing) exit() int  { return d.monitor(d.w.Exit, d.isNotHeld) }

func (d *doing) waits() int     { return Waits }
func (d *doing) isNotHeld() int { return d.traps(api.TMonitor) }

// monitor asks for that of the topmost object, and does otherwise, if the world says no.
func (d *doing) monitor(ask func(thread, o int) bool, otherwise func() int) int {
	o := d.ref(0)
	if o == 0 {
		return d.traps(api.TNull)
	}
	if !ask(d.Id, o) {
		return otherwise()
	}
	return d.went(1)
}

func (d *doing) spawn() int {
	id, ok := d.w.Spawn(d.Id, d.o.A, d.ref(0))
	if !ok {
		return d.traps(api.TThread)
	}
	return d.went(1, number(int64(id)))
}

func (d *doing) join() int {
	done, ok := d.w.Join(d.Id, d.top(0).N)
	switch {
	case !ok:
		return d.traps(api.TThread)
	case !done:
		return Waits
	}
	return d.went(1)
}

func (d *doing) say() int {
	d.w.Print(d.Id, d.top(0).N)
	return d.went(1)
}
