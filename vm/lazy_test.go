package vm

import (
	"slices"
	"testing"

	"brazier/api"
	"brazier/layout"
)

// lazy moves a run so that what was fetched first is done last, as far as that may be, and some instruction is left for long.
type lazy struct {
	v     *VM
	n     *numbers
	cores int
	left  [api.MaxCores]uint64 // where an instruction stands that is left
	moves [api.MaxCores]int    // for how many moves yet
}

func (z *lazy) move() {
	core := z.n.next(z.cores)
	for !z.v.Machine().Runs(core) {
		core = (core + 1) % z.cores
	}
	w := z.v.Machine().Window(core)
	switch {
	case z.n.next(40) == 0:
		z.v.Move(api.Move{Kind: api.KDeliver, Core: core})
		return
	case z.v.Move(api.Move{Kind: api.KFetch, Core: core, N: z.n.next(8) / 7}) == api.OK:
		if z.moves[core]--; z.moves[core] < 0 && z.n.next(3) == 0 {
			z.left[core], z.moves[core] = z.v.Machine().Pc(core), z.n.next(120) // what is fetched next
		}
		return
	}
	z.moves[core]--
	for at := len(w) - 1; at >= 0; at-- {
		if w[at].Done || z.moves[core] >= 0 && w[at].Pc == z.left[core] {
			continue
		}
		if z.v.Move(api.Move{Kind: api.KDo, Core: core, N: at}) == api.OK {
			return
		}
	}
}

func TestLazyRunsP2705(t *testing.T) {
	n := numbers(8)
	for _, methods := range slices.Concat(threaded, warmed, warmed, warmed) {
		p := with(t, methods...)
		for range 10 {
			c := usual
			c.Hot = n.next(3)
			v := made(t, p, c)
			z := &lazy{v: v, n: &n, cores: c.Cores}
			for k := n.next(3) * 2000; k > 0 && v.Threads() < 3 && v.Status().Kind == api.SRuns; k-- {
				v.Drive(1)
			}
			for k := 0; k < 6000 && v.Status().Kind == api.SRuns; k++ {
				z.move()
				if n.next(40) == 0 {
					judged(t, p, c, v)
				}
			}
			v.Drive(30000)
			judged(t, p, c, v)
			sound(t, c, v)
		}
	}
}

func TestLazyRandomProgramsP2705(t *testing.T) {
	n := numbers(4)
	for range 60 {
		p := random(&n, true)
		c := layout.Config{Cores: 2 + n.next(2), Heap: 300, Depth: 3 + n.next(5), Code: 2048, Hot: n.next(3)}
		v := made(t, p, c)
		z := &lazy{v: v, n: &n, cores: c.Cores}
		for k := n.next(3) * 2000; k > 0 && v.Threads() < 2 && v.Status().Kind == api.SRuns; k-- {
			v.Drive(1)
		}
		for k := 0; k < 6000 && v.Status().Kind == api.SRuns; k++ {
			z.move()
			if n.next(60) == 0 {
				judged(t, p, c, v)
			}
		}
		v.Drive(20000)
		judged(t, p, c, v)
		sound(t, c, v)
	}
}
