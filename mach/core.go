package mach

import (
	"brazier/a64"
	"brazier/api"
	"brazier/dec"
	"brazier/mem"
	"brazier/sem"
	"brazier/win"
)

// memory is one that knows which write each granule has.
type memory struct {
	m    *mem.Memory
	last map[uint64]api.Write
}

func (m memory) read(op int, addr uint64) (uint64, api.Errno) {
	if op == api.LDRB {
		b, e := m.m.Byte(addr)
		return uint64(b), e
	}
	return m.m.Read(addr)
}

func (m memory) write(addr, v uint64, w api.Write) api.Errno {
	e := m.m.Write(addr, v)
	if e == api.OK {
		m.last[addr/8] = w
	}
	return e
}

// lastOf tells the last write of addr's granule.
func (m memory) lastOf(addr uint64) api.Write {
	if w, ok := m.last[addr/8]; ok {
		return w
	}
	return api.Write{Core: -1}
}

// core is one of a machine. A note stands beside each instruction of its window.
type core struct {
	runs, fault bool
	pc          uint64
	regs        api.Regs
	window      []win.Inst
	notes       []*note
	took        []Took
	marked      bool
	mark        uint64 // the granule
	writes      int
}

// note is what is known of an instruction besides what a window has: its word, and its access, if it has made one.
type note struct {
	word    uint32
	touched bool
	access  api.Access
	source  *note // the store that handed its data on: which write that is, is known when it is done
}

func (c *core) hasMark(addr uint64) bool {
	return c.marked && c.mark == addr/8
}

// drop drops what stands behind instruction at, and goes on from pc.
func (c *core) drop(at int, pc uint64) {
	c.window, c.notes = c.window[:at+1], c.notes[:at+1]
	c.pc = pc
}

func (c *core) interrupt() api.Errno {
	last := -1
	for at, i := range c.window {
		if i.Done {
			last = at
		}
	}
	if !c.runs || last+1 >= len(c.window) {
		return api.ErrNot
	}
	c.drop(last, c.window[last+1].Pc)
	return api.OK
}

func (x *Machine) fetch(core int, goes, ahead bool) api.Errno {
	c := &x.cores[core]
	if !c.runs || !win.Fetches(c.window) {
		return api.ErrNot
	}
	i := api.Ins{Op: api.UDF}
	w, e := x.side.Fetch(core, c.pc, ahead)
	if e == api.OK {
		i = dec.Ins(w)
	}
	next := guess(i, c.pc, goes)
	c.window = append(c.window, win.Inst{Pc: c.pc, Ins: i, Next: next})
	c.notes = append(c.notes, &note{word: w})
	c.pc = next
	return api.OK
}

// guess tells where the instruction behind i is fetched from.
func guess(i api.Ins, pc uint64, goes bool) uint64 {
	switch i.Op {
	case api.B, api.BL:
		return pc + uint64(i.Imm)
	case api.BCOND, api.CBZ, api.CBNZ:
		if goes {
			return pc + uint64(i.Imm)
		}
	case api.BR, api.BLR, api.RET:
		return 0
	}
	return pc + 4
}

// retire takes away the first instructions of the window, as long as they are done.
func (x *Machine) retire(core int) {
	c := &x.cores[core]
	n := win.Retires(c.window)
	for at, i := range c.window[:n] {
		c.regs = written(i, c.regs)
		k := c.notes[at]
		c.took = append(c.took, Took{i.Pc, k.word})
		if k.touched {
			if k.source != nil {
				k.access.From = k.source.access.From
			}
			x.log = append(x.log, k.access)
		}
	}
	c.window, c.notes = c.window[n:], c.notes[n:]
}

// written tells r with what i wrote.
func written(i win.Inst, r api.Regs) api.Regs {
	if i.Ins.Op == api.SVC {
		return i.Regs
	}
	for _, reg := range a64.Out(i.Ins) {
		if reg == a64.Flags {
			r.N, r.Z, r.C, r.V = i.Regs.N, i.Regs.Z, i.Regs.C, i.Regs.V
		} else {
			r = sem.Set(r, reg, sem.Get(i.Regs, reg))
		}
	}
	return r
}
