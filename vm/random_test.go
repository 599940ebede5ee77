package vm

import (
	"slices"
	"testing"

	"brazier/api"
	"brazier/bytecode"
	"brazier/layout"
	"brazier/sequel"
	"brazier/verify"
)

// writer writes a method of a random program: statements that leave the stack as it was.
type writer struct {
	n       *numbers
	b       []byte
	self    int
	methods int
	threads bool
	budget  int
	held    int
}

const (
	intLocals = 3 // 4, 5, 6; 7 counts rounds
	refLocals = 3 // 1, 2, 3; 0 is the parameter
)

func (w *writer) put(b ...int) {
	for _, x := range b {
		w.b = append(w.b, byte(x))
	}
}

func (w *writer) intLocal() int { return 4 + w.n.next(intLocals) }
func (w *writer) refLocal() int { return w.n.next(1 + refLocals) }

// number puts an int.
func (w *writer) number(deep int) {
	if deep <= 0 {
		switch w.n.next(3) {
		case 0:
			w.put(bytecode.Const, w.n.next(4))
		case 1:
			w.put(bytecode.Small, w.n.next(256))
		default:
			w.put(bytecode.Get, w.intLocal())
		}
		return
	}
	switch w.n.next(12) {
	case 0, 1, 2:
		w.number(deep - 1)
		w.number(deep - 1)
		w.put([]int{bytecode.Add, bytecode.Sub, bytecode.Mul, bytecode.And, bytecode.Or, bytecode.Xor, bytecode.Shl, bytecode.Shr, bytecode.Ushr, bytecode.Lt, bytecode.Eq}[w.n.next(11)])
	case 3:
		w.number(deep - 1)
		w.put(bytecode.Small, 1+w.n.next(9), []int{bytecode.Div, bytecode.Rem}[w.n.next(2)])
	case 4:
		w.ref(deep - 1)
		w.put(bytecode.IsNull)
	case 5:
		w.ref(deep - 1)
		w.ref(deep - 1)
		w.put(bytecode.Same)
	case 6, 7:
		w.object()
		w.put(bytecode.Getf, 0, []int{0, 2}[w.n.next(2)])
	case 8:
		w.put(bytecode.Get, 3, bytecode.Small, w.n.next(4), bytecode.Geta, api.TInt)
	case 9:
		w.put(bytecode.Get, 3, bytecode.Len)
	case 10:
		w.number(deep - 1)
		w.put(bytecode.Neg)
	default:
		if w.self > 1 || w.methods < 3 { // a leaf, so that runs end
			w.number(deep - 1)
			return
		}
		w.number(deep - 1)
		w.number(0)
		w.put(bytecode.Call, 2+w.n.next(w.methods-2))
	}
}

// ref puts a ref.
func (w *writer) ref(deep int) {
	switch w.n.next(5) {
	case 0:
		w.put(bytecode.Null)
	case 1:
		w.put(bytecode.New, 0)
	case 2:
		if deep > 0 {
			w.object()
			w.put(bytecode.Getf, 0, []int{1, 3}[w.n.next(2)])
			return
		}
		w.put(bytecode.Get, 0)
	default:
		w.put(bytecode.Get, w.n.next(3))
	}
}

// object puts a ref that is hardly ever null.
func (w *writer) object() {
	if w.n.next(60) == 0 {
		w.ref(1)
		return
	}
	w.put(bytecode.Get, 0)
}

// jump puts a jump whose place is filled in later.
func (w *writer) jump(c int) int {
	w.put(c, 0, 0)
	return len(w.b) - 3
}

func (w *writer) land(at, to int) {
	d := to - at
	w.b[at+1], w.b[at+2] = byte(d), byte(d>>8)
}

func (w *writer) statements(most, deep int) {
	for range 1 + w.n.next(most) {
		if w.budget--; w.budget < 0 {
			return
		}
		w.statement(deep)
	}
}

func (w *writer) statement(deep int) {
	switch w.n.next(14) {
	case 0, 1:
		w.number(2)
		w.put(bytecode.Set, w.intLocal())
	case 2:
		w.ref(1)
		w.put(bytecode.Set, 1+w.n.next(2))
	case 3:
		w.number(1)
		w.put(bytecode.Print)
	case 4, 5, 6:
		w.object()
		w.number(1)
		w.put(bytecode.Putf, 0, []int{0, 2}[w.n.next(2)])
	case 7:
		w.object()
		w.ref(1)
		w.put(bytecode.Putf, 0, []int{1, 3}[w.n.next(2)])
	case 8:
		w.put(bytecode.Get, 3, bytecode.Small, w.n.next(4))
		w.number(1)
		w.put(bytecode.Puta, api.TInt)
	case 9:
		if deep > 0 {
			w.number(1)
			first := w.jump(bytecode.If)
			w.statements(2, deep-1)
			end := w.jump(bytecode.Jump)
			w.land(first, len(w.b))
			w.statements(2, deep-1)
			w.put(bytecode.Nop)
			w.land(end, len(w.b))
			w.put(bytecode.Nop)
		}
	case 10:
		if deep > 1 { // once only, since there is one counter
			w.put(bytecode.Small, 2+w.n.next(4), bytecode.Set, 7)
			top := len(w.b)
			w.statements(3, 0)
			w.put(bytecode.Get, 7, bytecode.Small, 255, bytecode.Add, bytecode.Dup, bytecode.Set, 7)
			w.land(w.jump(bytecode.If), top)
		}
	case 11, 12:
		if w.held == 0 {
			w.held++
			w.put(bytecode.Get, 0, bytecode.Enter)
			w.statements(3, 0)
			w.put(bytecode.Get, 0, bytecode.Exit)
			w.held--
		}
	default:
		if w.threads && w.self == 0 {
			w.put(bytecode.Get, 0, bytecode.Spawn, 1)
			if w.n.next(2) == 0 {
				w.put(bytecode.Join)
			} else {
				w.put(bytecode.Drop)
			}
		}
	}
}

// random tells a program: method 0 makes an object and an array, and goes on as the others: 1 is a thread's, those behind it take two ints.
func random(n *numbers, threads bool) api.Program {
	p := api.Program{
		Pool:    []int64{-1 << 63, 1<<63 - 1, 1 << 40, 77},
		Classes: [][]api.Field{{{Type: api.TInt}, {Type: api.TRef}, {Type: api.TInt, Volatile: true}, {Type: api.TRef, Volatile: true}}},
	}
	methods := 2 + n.next(3)
	refs := []int{api.TRef, api.TRef, api.TRef, api.TRef}
	ints := []int{api.TInt, api.TInt, api.TInt, api.TInt}
	for k := range methods {
		w := &writer{n: n, self: k, methods: methods, threads: threads, budget: 60}
		m := api.Method{Stack: 16, Locals: append(slices.Clone(refs), ints...)}
		switch {
		case k == 0:
			w.put(bytecode.New, 0, bytecode.Set, 0)
			if n.next(4) > 0 { // a call by which the threads' method may be compiled
				w.put(bytecode.New, 0, bytecode.Call, 1)
			}
		case k == 1:
			m.Params, m.Locals = []int{api.TRef}, m.Locals[1:]
		default: // its ints come first: they are moved to where the others have them
			m.Params, m.Ret = []int{api.TInt, api.TInt}, api.TInt
			m.Code = []byte{bytecode.Get, 0, bytecode.Get, 1, []byte{bytecode.Add, bytecode.Sub, bytecode.Mul}[n.next(3)], bytecode.Ret}
			m.Locals = nil
			p.Methods = append(p.Methods, m)
			continue
		}
		w.put(bytecode.Get, 0, bytecode.Set, 1, bytecode.Small, 4, bytecode.Newa, api.TInt, bytecode.Set, 3)
		w.statements(14, 2)
		w.put(bytecode.Ret)
		m.Code = w.b
		p.Methods = append(p.Methods, m)
	}
	return p
}

func TestRandomProgramsOfOneThreadP2705(t *testing.T) {
	n := numbers(2026)
	ends := [10]int{}
	for range 120 {
		p := random(&n, false)
		if m, place, e := verify.Program(p); e != api.OK {
			t.Fatalf("%d:%d %v %v", m, place, e, p.Methods[m].Code)
		}
		c := layout.Config{Cores: 1 + n.next(2), Heap: 40 + n.next(400), Depth: 1 + n.next(5), Code: 16 * n.next(200), Hot: n.next(3)}
		want, _ := sequel.Run(p, sequel.Config{Heap: c.Heap, Depth: c.Depth}, 20000)
		if want.Status.Kind == api.SRuns {
			continue
		}
		ends[want.Status.Trap]++
		v := made(t, p, c)
		v.Play(script(&n, c, len(p.Methods), n.next(4000))...)
		if s := v.Drive(100000); s != want.Status || !slices.Equal(v.Prints(), want.Prints) {
			t.Fatalf("%+v %v, not %+v %v: %v", s, v.Prints(), want.Status, want.Prints, p)
		}
		judged(t, p, c, v)
		sound(t, c, v)
	}
	t.Log("ends by their traps:", ends)
}

func TestRandomProgramsOfThreadsP2705(t *testing.T) {
	n := numbers(99)
	for range 80 {
		p := random(&n, true)
		if m, place, e := verify.Program(p); e != api.OK {
			t.Fatalf("%d:%d %v %v", m, place, e, p.Methods[m].Code)
		}
		c := layout.Config{Cores: 2 + n.next(3), Heap: 100 + n.next(400), Depth: 3 + n.next(5), Code: 16 * n.next(200), Hot: n.next(3)}
		v := made(t, p, c)
		for range 5 {
			v.Play(script(&n, c, len(p.Methods), n.next(2500))...)
			judged(t, p, c, v)
		}
		v.Drive(20000)
		judged(t, p, c, v)
		sound(t, c, v)
	}
}
