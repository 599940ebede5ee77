package mach

import (
	"brazier/a64"
	"brazier/api"
	"brazier/sem"
	"brazier/win"
)

// doing is an instruction of a core's window while it is done.
type doing struct {
	*Machine
	*core
	number int // the core's
	at     int
	ins    api.Ins
	in     api.Regs
	effect sem.Effect
	fails  bool // an STXR is let fail
	how    int  // what a call lets the core do
}

// endAll is what a host tells that lets all cores end, with that which called. (The document says nothing of other numbers than Go, End and Wait.)
const endAll = 3

func (x *Machine) do(h Host, m api.Move) api.Errno {
	c := &x.cores[m.Core]
	if !c.runs {
		return api.ErrNot
	}
	if e := win.May(c.window, m.N, c.regs); e != api.OK {
		return e
	}
	i := c.window[m.N]
	in, _ := win.Inputs(c.window, m.N, c.regs)
	d := &doing{Machine: x, core: c, number: m.Core, at: m.N, ins: i.Ins, in: in, effect: sem.Do(i.Ins, i.Pc, in), fails: m.Addr == 1}
	if e := d.done(h); e != api.OK || c.fault {
		return e
	}
	c.window[m.N].Done, c.window[m.N].Regs = true, d.effect.Regs
	x.retire(m.Core)
	switch d.how {
	case End:
		c.runs = false
	case endAll:
		for k := range x.cores {
			x.cores[k].runs = false
		}
	}
	return api.OK
}

func (d *doing) done(h Host) api.Errno {
	switch op := d.ins.Op; {
	case a64.Load(op):
		return d.load()
	case op == api.STXR:
		return d.storeIfMarked()
	case a64.Store(op):
		return d.store()
	case a64.Branch(op):
		d.branch()
	case op == api.SVC:
		return d.call(h)
	case op == api.UDF:
		d.stop()
	default:
		return d.tell()
	}
	return api.OK
}

// stop lets the core come to be at fault.
func (d *doing) stop() {
	d.fault, d.runs = true, false
}

// refused is what becomes of memory that is not there: it may be on a way that is not gone, unless nothing is ahead.
func (d *doing) refused() api.Errno {
	if d.at != 0 {
		return api.ErrNot
	}
	d.stop()
	return api.OK
}

// touches notes an access.
func (d *doing) touches(v uint64, from api.Write) *note {
	k := d.notes[d.at]
	k.touched = true
	k.access = api.Access{Core: d.number, Pc: d.window[d.at].Pc, Op: d.ins.Op, Addr: d.effect.Addr, Value: v, From: from, At: d.Machine.moves + 1}
	return k
}

func (d *doing) load() api.Errno {
	addr := d.effect.Addr
	v, from := uint64(0), d.lastOf(addr)
	var source *note
	if at, ok := win.Forward(d.window, d.at, d.regs); ok {
		v, source = d.handed(at), d.notes[at]
	} else {
		var e api.Errno
		if v, e = d.read(d.ins.Op, addr); e != api.OK {
			return d.refused()
		}
	}
	if d.ins.Op == api.LDXR {
		d.marked, d.mark = true, addr/8
	}
	d.effect.Regs = sem.Loaded(d.ins, d.in, v)
	d.touches(v, from).source = source
	return api.OK
}

// handed tells the data of the store at, or the byte of them that is loaded.
func (d *doing) handed(at int) uint64 {
	v, _ := win.Value(d.window, at, d.regs, d.window[at].Ins.D)
	if d.ins.Op == api.LDRB {
		return v >> (8 * (d.effect.Addr % 8)) & 0xFF
	}
	return v
}

func (d *doing) store() api.Errno {
	w := api.Write{Core: d.number, N: d.writes + 1}
	if d.write(d.effect.Addr, d.effect.Data, w) != api.OK {
		return d.refused()
	}
	d.writes++
	for other := range d.cores {
		if other != d.number && d.cores[other].hasMark(d.effect.Addr) {
			d.cores[other].marked = false
		}
	}
	d.touches(d.effect.Data, w)
	return api.OK
}

func (d *doing) storeIfMarked() api.Errno {
	fails := d.fails || !d.hasMark(d.effect.Addr)
	if !fails {
		if e := d.store(); e != api.OK || d.fault {
			return e
		}
	}
	d.marked = false
	d.effect.Regs = sem.Stored(d.ins, d.in, fails)
	return api.OK
}

func (d *doing) branch() {
	if i := &d.window[d.at]; i.Next != d.effect.Next {
		i.Next = d.effect.Next
		d.drop(d.at, d.effect.Next)
	}
}

// tell does what tells new code, and what waits for that; of the others there is nothing left to do.
func (d *doing) tell() api.Errno {
	switch d.ins.Op {
	case api.DC:
		return d.side.Clean(d.effect.Addr)
	case api.IC:
		return d.side.Invalidate(d.number, d.effect.Addr)
	case api.DSB:
		return okIf(d.side.Pending(d.number) == 0)
	case api.ISB:
		d.drop(d.at, d.effect.Next)
		return d.side.Sync(d.number)
	}
	return api.OK
}

func (d *doing) call(h Host) api.Errno {
	r, how := h.Call(d.number, int(d.ins.Imm), d.in)
	if how == Wait {
		return api.ErrNot
	}
	d.effect.Regs, d.how = r, how
	return api.OK
}
