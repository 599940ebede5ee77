package vm

import (
	"brazier/api"
	"brazier/cache"
	"brazier/class"
	"brazier/layout"
	"brazier/mach"
	"brazier/mem"
	"brazier/rt"
	"brazier/verify"
)

// run is a machine that runs a program, and the host of its cores.
type run struct {
	*mach.Machine
	p       api.Program
	c       layout.Config
	img     rt.Image
	cache   *cache.Cache
	status  api.Status
	prints  []int64
	threads int
	ended   [api.MaxCores]bool
	notes   [api.MaxCores][]api.Event // what each thread has done by calls of the host
	objects []object
	owners  []int // for each word of the heap: which object has it, from 1 on
	methods []method
}

// object is one that is there.
type object struct {
	at    uint64
	class int
}

// method is what is known of one's calls.
type method struct {
	calls int
	hot   bool // its next call lets it be compiled
	never bool // it goes on interpreted
}

func begin(p api.Program, c layout.Config) (*run, error) {
	if e := layout.Check(c); e != api.OK {
		return nil, e
	}
	if e := class.Check(p); e != api.OK {
		return nil, e
	}
	if m, place, e := verify.Program(p); e != api.OK {
		return nil, &Wrong{e, m, place}
	}
	p = class.Twin(p)
	img, e := rt.Build(p, c)
	if e != api.OK {
		return nil, e
	}
	m, e := laid(c, img)
	if e != api.OK {
		return nil, e
	}
	x, e := mach.New(m, c.Cores)
	if e != api.OK {
		return nil, e
	}
	book, e := cache.New(layout.Code, c.Code)
	if e != api.OK {
		return nil, e
	}
	r := &run{Machine: x, p: p, c: c, img: img, cache: book, owners: make([]int, c.Heap), methods: make([]method, len(p.Methods))}
	r.start(0, 0)
	return r, nil
}

// laid tells the memory of a run, with image and tables.
func laid(c layout.Config, img rt.Image) (*mem.Memory, api.Errno) {
	m, e := mem.New(layout.Regions(c)...)
	if e != api.OK {
		return nil, e
	}
	b := make([]byte, 0, 4*len(img.Words))
	for _, w := range img.Words {
		b = append(b, byte(w), byte(w>>8), byte(w>>16), byte(w>>24))
	}
	m.Load(layout.Image, b)
	m.Load(layout.Tables, img.Tables)
	return m, api.OK
}

// start starts the next thread, on the core of its number; false, if there are as many as cores.
func (r *run) start(method int, arg uint64) bool {
	regs, e := rt.Begin(r.p, r.c, r.img, r.threads, method, arg)
	if e != api.OK || r.Start(r.threads, r.img.Begin, regs) != api.OK {
		return false
	}
	r.threads++
	return true
}

func (r *run) isDefinite() bool {
	return r.status.Kind != api.SRuns
}

func (r *run) play(m api.Move) api.Errno {
	switch {
	case r.isDefinite():
		return api.ErrNot
	case m.Kind != KHot:
		return r.Machine.Move(r, m)
	case m.N < 0 || m.N >= len(r.methods):
		return api.ErrArg
	}
	r.methods[m.N].hot = true
	return api.OK
}
