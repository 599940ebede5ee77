package icache

import (
	"math"
	"testing"

	"brazier/api"
	"brazier/mem"
)

// made tells a side of two cores on executed words at 0x1000 (which may be written) and half a line at 0x2000, and data at 0x3000.
func made(t *testing.T) (*Side, *mem.Memory) {
	t.Helper()
	m, e := mem.New(api.Region{At: 0x1000, Size: 256, Write: true, Execute: true}, api.Region{At: 0x2000, Size: 32, Execute: true}, api.Region{At: 0x3000, Size: 64, Write: true})
	if e != api.OK {
		t.Fatal(e)
	}
	put(m, 0x1000, 1)
	s, e := New(m, 2)
	if e != api.OK {
		t.Fatal(e)
	}
	return s, m
}

// put makes the word at addr v, in memory alone.
func put(m *mem.Memory, addr uint64, v byte) { m.Load(addr, []byte{v, 0, 0, 0}) }

func TestNewP1001(t *testing.T) {
	m, _ := mem.New()
	for _, cores := range []int{0, 5, -1, math.MaxInt, math.MinInt} {
		if s, e := New(m, cores); s != nil || e != api.ErrArg {
			t.Errorf("%d cores: %v", cores, e)
		}
	}
	for cores := 1; cores <= 4; cores++ {
		if s, e := New(m, cores); s == nil || e != api.OK {
			t.Errorf("%d cores: %v", cores, e)
		}
	}
	s, m := made(t)
	put(m, 0x1000, 2)
	if w, e := s.Told(0x1000); w != 1 || e != api.OK {
		t.Errorf("told: %d %v", w, e)
	}
	for _, addr := range []uint64{0x1002, 0x1100, 0xFFC, 0x3000, 0x2020, 0, math.MaxUint64, math.MaxUint64 - 3} {
		if w, e := s.Told(addr); w != 0 || e != api.ErrFault {
			t.Errorf("Told(%x): %v", addr, e)
		}
		if _, e := s.Fetch(0, addr, true); e != api.ErrFault || s.Refill(0, addr) != api.ErrFault || s.Ahead(1, addr) != api.ErrFault || s.Evict(0, addr) {
			t.Errorf("at %x: %v", addr, e)
		}
		if _, ok := s.Cached(0, addr); ok {
			t.Errorf("Cached(%x)", addr)
		}
	}
}

func TestNoCoreP1001(t *testing.T) {
	s, _ := made(t)
	s.Invalidate(0, 0x1000)
	for _, c := range []int{-1, 2, math.MinInt, math.MaxInt} {
		for _, addr := range []uint64{0x1000, 0x9999} {
			w, e := s.Fetch(c, addr, false)
			if w != 0 || e != api.ErrArg || s.Ahead(c, addr) != api.ErrArg || s.Refill(c, addr) != api.ErrArg || s.Invalidate(c, addr) != api.ErrArg || s.Evict(c, addr) {
				t.Errorf("core %d at %x: %v", c, addr, e)
			}
			if _, ok := s.Cached(c, addr); ok {
				t.Error("Cached")
			}
			if _, ok := s.Held(c, addr); ok {
				t.Error("Held")
			}
		}
		if s.Deliver(c, 0) || s.Waiting(c) != 0 || s.Pending(c) != 0 || s.Sync(c) != api.ErrArg {
			t.Errorf("core %d", c)
		}
	}
	if s.Waiting(0) != 1 || s.Waiting(1) != 1 {
		t.Error("something was done for a core that there is not")
	}
}

func TestCachesP1002(t *testing.T) {
	s, m := made(t)
	if _, ok := s.Cached(0, 0x1000); ok || s.Evict(0, 0x1000) {
		t.Error("a cache is empty in the beginning")
	}
	if s.Refill(0, 0x1000) != api.OK {
		t.Error("Refill")
	}
	put(m, 0x1000, 2)
	if w, _ := s.Fetch(1, 0x1000, false); w != 1 {
		t.Error("what is not told is not fetched")
	}
	s.Clean(0x1000)
	s.Refill(0, 0x1000)
	if w, ok := s.Cached(0, 0x1000); w != 1 || !ok {
		t.Error("Refill takes no other word")
	}
	if w, e := s.Fetch(0, 0x1000, false); w != 1 || e != api.OK {
		t.Error("Fetch takes what the cache has")
	}
	if !s.Evict(0, 0x1000) || s.Evict(0, 0x1000) {
		t.Error("Evict")
	}
	if w, _ := s.Fetch(0, 0x1000, true); w != 2 {
		t.Error("Fetch refills")
	}
	if w, ok := s.Cached(0, 0x1000); w != 2 || !ok {
		t.Error("Fetch lets the cache have it")
	}
	if w, _ := s.Cached(1, 0x1000); w != 1 {
		t.Error("each core has its own cache")
	}
}

func TestAheadP1002(t *testing.T) {
	s, m := made(t)
	if s.Ahead(0, 0x1000) != api.OK {
		t.Error("Ahead")
	}
	put(m, 0x1000, 2)
	s.Clean(0x1000)
	s.Evict(0, 0x1000)
	if w, _ := s.Fetch(0, 0x1000, true); w != 1 {
		t.Error("what is held ahead")
	}
	if _, ok := s.Cached(0, 0x1000); ok {
		t.Error("what is held ahead refills nothing")
	}
	if w, _ := s.Fetch(0, 0x1000, true); w != 1 {
		t.Error("what is held ahead stays")
	}
	if w, _ := s.Fetch(0, 0x1000, false); w != 2 {
		t.Error("without ahead")
	}
	if w, ok := s.Held(0, 0x1000); w != 1 || !ok {
		t.Error("Held")
	}
	s.Ahead(0, 0x1000)
	if w, _ := s.Held(0, 0x1000); w != 2 {
		t.Error("Ahead again")
	}
	if _, ok := s.Held(1, 0x1000); ok {
		t.Error("another core's")
	}
	s.Ahead(1, 0x1004)
	s.Ahead(0, 0x1004)
	if s.Sync(0) != api.OK {
		t.Error("Sync")
	}
	_, a := s.Held(0, 0x1000)
	_, b := s.Held(0, 0x1004)
	_, c := s.Held(1, 0x1004)
	if a || b || !c {
		t.Error("Sync lets go what that core holds")
	}
}

func TestFlowCleanP1003(t *testing.T) {
	s, m := made(t)
	put(m, 0x1040, 5)
	put(m, 0x107C, 6)
	put(m, 0x1080, 7)
	if s.Flow(0x1063) != api.OK {
		t.Error("Flow")
	}
	a, _ := s.Told(0x1040)
	b, _ := s.Told(0x107C)
	c, _ := s.Told(0x1080)
	if a != 5 || b != 6 || c != 0 {
		t.Error("Flow tells one line")
	}
	if s.Clean(0x1080) != api.OK {
		t.Error("Clean")
	}
	if w, _ := s.Told(0x1080); w != 7 {
		t.Error("Clean tells it")
	}
	m.Load(0x1080, []byte{0x78, 0x56, 0x34, 0x12})
	s.Flow(0x1080)
	if w, _ := s.Told(0x1080); w != 0x12345678 {
		t.Errorf("told: %x", w)
	}
	put(m, 0x201C, 8)
	if s.Flow(0x203F) != api.OK {
		t.Error("a line that may be executed in part")
	}
	if w, _ := s.Told(0x201C); w != 8 {
		t.Error("its words")
	}
	for _, addr := range []uint64{0x3000, 0, 0x2040, math.MaxUint64} {
		if s.Flow(addr) != api.ErrFault || s.Clean(addr) != api.OK {
			t.Errorf("line %x", addr)
		}
	}
}

func TestInvalidateP1003(t *testing.T) {
	s, _ := made(t)
	for _, addr := range []uint64{0x1000, 0x1004, 0x103C, 0x1040, 0x1080} {
		s.Refill(0, addr)
		s.Refill(1, addr)
	}
	if s.Invalidate(0, 0x1008) != api.OK || s.Invalidate(1, 0x1040) != api.OK || s.Invalidate(0, math.MaxUint64) != api.OK {
		t.Error("Invalidate")
	}
	if s.Waiting(0) != 3 || s.Waiting(1) != 3 || s.Pending(0) != 4 || s.Pending(1) != 2 {
		t.Error("how many wait")
	}
	if !s.Deliver(1, 4) { // 4 modulo 3: the second
		t.Error("Deliver")
	}
	has := func(core int, addr uint64) bool { _, ok := s.Cached(core, addr); return ok }
	if has(1, 0x1040) || !has(1, 0x1000) || !has(0, 0x1040) || s.Pending(1) != 1 || s.Waiting(1) != 2 {
		t.Error("the second one is done")
	}
	if !s.Deliver(1, -5) || has(1, 0x1000) || has(1, 0x1004) || has(1, 0x103C) || !has(1, 0x1080) || !has(0, 0x1000) {
		t.Error("below 0: the first one")
	}
	if !s.Deliver(1, math.MaxInt) || s.Deliver(1, 0) || s.Waiting(1) != 0 || s.Waiting(0) != 3 {
		t.Error("none waits any more")
	}
	for range 3 {
		s.Deliver(0, 0)
	}
	if has(0, 0x1000) || has(0, 0x1040) || !has(0, 0x1080) || s.Pending(0) != 0 {
		t.Error("all delivered")
	}
}

func TestNewCodeP1004(t *testing.T) {
	seed := uint32(7)
	next := func(n int) int { seed = seed*1664525 + 1013904223; return int(seed>>8) % n }
	for range 300 {
		s, m := made(t)
		mess := func() {
			for range next(12) {
				core, addr := next(2), uint64(0x1000+4*next(32))
				switch next(5) {
				case 0:
					s.Refill(core, addr)
				case 1:
					s.Evict(core, addr)
				case 2:
					s.Ahead(core, addr)
				case 3:
					s.Fetch(core, addr, next(2) == 0)
				default:
					s.Flow(addr)
				}
			}
		}
		mess()
		for at := range uint64(16) {
			put(m, 0x1040+4*at, byte(100+at))
			mess()
		}
		s.Clean(0x1050)
		mess()
		s.Invalidate(next(2), 0x107F)
		mess()
		for c := range 2 {
			for s.Deliver(c, next(5)) {
				mess()
			}
		}
		core := next(2)
		s.Sync(core)
		for at := range uint64(16) {
			mess()
			if w, e := s.Fetch(core, 0x1040+4*at, next(2) == 0); w != uint32(100+at) || e != api.OK {
				t.Fatalf("word %d: %d %v", at, w, e)
			}
		}
	}
}
