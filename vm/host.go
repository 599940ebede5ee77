package vm

import (
	"brazier/abi"
	"brazier/api"
	"brazier/jit"
	"brazier/layout"
	"brazier/mach"
)

// endAll lets all cores of a machine end.
const endAll = 3

// Call does what a core asks for: nothing any more when the status is definite.
func (r *run) Call(core, n int, regs api.Regs) (api.Regs, int) {
	if r.isDefinite() {
		return regs, mach.Wait
	}
	x := &regs.X
	switch n {
	case abi.Trap:
		r.status = api.Status{Kind: api.STrap, Trap: int(x[0]), Method: int(x[1]), Code: int(x[2])}
		return regs, endAll
	case abi.End:
		r.end(core)
		return regs, mach.End
	case abi.New:
		r.made(core, x[0], int(x[1]), x[3])
	case abi.Spawn:
		x[0] = r.spawn(core, int(x[3]), x[1])
	case abi.Join:
		done, ok := r.join(core, int64(x[1]))
		if ok && !done {
			return regs, mach.Wait
		}
		x[0] = number(ok)
	case abi.Print:
		r.prints = append(r.prints, int64(x[1]))
		r.note(core, api.Event{Kind: api.EPrint, Value: int64(x[1])})
	case abi.Hot:
		x[0], x[10] = r.called(int(x[abi.Callee]))
	case abi.Line:
		r.line(x, x[11])
	case abi.Told:
		r.cache.Tell(int(x[abi.Callee]), r)
	}
	return regs, mach.Go
}

func number(is bool) uint64 {
	if is {
		return 1
	}
	return 0
}

// note notes what a thread has done by the call that is done now.
func (r *run) note(core int, e api.Event) {
	e.Thread, e.At = core, r.Moves()+1
	r.notes[core] = append(r.notes[core], e)
}

func (r *run) end(core int) {
	r.ended[core] = true
	for k := range r.threads {
		if !r.ended[k] {
			return
		}
	}
	r.status = api.Status{Kind: api.SDone}
}

// made notes an object that is there now.
func (r *run) made(core int, at uint64, slots int, kind uint64) {
	class := layout.ClassOf(kind)
	r.objects = append(r.objects, object{at, class})
	first := layout.Object(at) - 1
	for k := range layout.Bytes(slots) / 8 {
		r.owners[first+int(k)] = len(r.objects)
	}
	r.note(core, api.Event{Kind: api.ENew, Object: layout.Object(at), Slot: class, Value: int64(slots)})
}

// spawn tells the number of the new thread, 0 without one.
func (r *run) spawn(core, method int, ref uint64) uint64 {
	id := r.threads
	if !r.start(method, ref) {
		return 0
	}
	r.note(core, api.Event{Kind: api.ESpawn, Object: layout.Object(ref), Slot: method, Value: int64(id)})
	return uint64(id)
}

func (r *run) join(core int, id int64) (done, ok bool) {
	if id < 0 || id >= int64(r.threads) || id == int64(core) {
		return false, false
	}
	if !r.ended[id] {
		return false, true
	}
	r.note(core, api.Event{Kind: api.EJoin, Value: id})
	return true, true
}

// called counts a call: where the method is to be laid down, and how many lines; zeros, if it is not.
func (r *run) called(m int) (at, lines uint64) {
	k := &r.methods[m]
	k.calls++
	if !k.hot && k.calls != r.c.Hot || k.never {
		return 0, 0
	}
	k.hot = false
	if _, taken := r.cache.Piece(m); taken {
		return 0, 0
	}
	at, ok := r.compile(m)
	if !ok {
		k.never = true
		return 0, 0
	}
	return at, r.linesOf(m)
}

func (r *run) compile(m int) (uint64, bool) {
	at, e := r.cache.Take(m, jit.Size(r.p, m))
	if e != api.OK {
		return 0, false
	}
	words, e := jit.Compile(r.p, r.c, r.img, m, at)
	if e != api.OK || r.cache.Lay(m, words) != api.OK {
		return 0, false
	}
	return at, true
}

const wordsOfLine = api.Line / 4

func (r *run) linesOf(m int) uint64 {
	p, _ := r.cache.Piece(m)
	return uint64(len(p.Words)+wordsOfLine-1) / wordsOfLine
}

// line puts what stands on a line of compiled code into X0 to X7.
func (r *run) line(x *[31]uint64, addr uint64) {
	var words [wordsOfLine]uint32
	if p, ok := r.cache.Find(addr); ok {
		copy(words[:], p.Words[(addr-p.At)/4:])
	}
	for k := range 8 {
		x[k] = uint64(words[2*k]) | uint64(words[2*k+1])<<32
	}
}

// Check tells whether these words stand at at, in memory and on the side where instructions come from.
func (r *run) Check(at uint64, words []uint32) bool {
	for k, w := range words {
		addr := at + 4*uint64(k)
		there, e := r.Memory().Word(addr)
		told, e2 := r.Side().Told(addr)
		if e != api.OK || e2 != api.OK || there != w || told != w {
			return false
		}
	}
	return true
}
