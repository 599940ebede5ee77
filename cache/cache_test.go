package cache

import (
	"math"
	"slices"
	"testing"

	"brazier/api"
)

// checker answers so, and notes what it is asked.
type checker struct {
	no    bool
	at    []uint64
	words []uint32
}

func (k *checker) Check(at uint64, words []uint32) bool {
	k.at, k.words = append(k.at, at), slices.Clone(words)
	for n := range words {
		words[n] = 99
	}
	return !k.no
}

// listener hears, too.
type listener struct {
	checker
	heard []Piece
}

func (k *listener) HearTold(p Piece) { k.heard = append(k.heard, p) }

func made(t *testing.T, words int) *Cache {
	t.Helper()
	c, e := New(0x300000, words)
	if e != api.OK {
		t.Fatal(e)
	}
	return c
}

func TestNewP2601(t *testing.T) {
	for _, x := range []struct {
		at    uint64
		words int
		ok    bool
	}{{0, 0, true}, {64, 16, true}, {math.MaxUint64 - 63, api.MaxWords, true}, {32, 16, false}, {1, 16, false}, {0, -16, false}, {0, 8, false}, {0, api.MaxWords + 16, false}, {0, math.MinInt, false}} {
		c, e := New(x.at, x.words)
		if (e == api.OK) != x.ok || e != api.OK && (e != api.ErrArg || c != nil) {
			t.Errorf("%+v: %v", x, e)
		}
		if c != nil && (c.Left() != x.words || len(c.Pieces()) != 0) {
			t.Errorf("%+v: %d left", x, c.Left())
		}
	}
}

func TestTakeP2602(t *testing.T) {
	c := made(t, 64)
	for _, n := range []int{0, -1, math.MinInt} {
		if at, e := c.Take(1, n); at != 0 || e != api.ErrArg {
			t.Errorf("%d words: %v", n, e)
		}
	}
	for _, n := range []int{65, math.MaxInt, math.MaxInt - 14} {
		if at, e := c.Take(1, n); at != 0 || e != api.ErrFull || c.Left() != 64 {
			t.Errorf("%d words: %v", n, e)
		}
	}
	if at, e := c.Take(1, 17); at != 0x300000 || e != api.OK || c.Left() != 32 {
		t.Error("Take")
	}
	if at, e := c.Take(1, 1); at != 0 || e != api.ErrOrder {
		t.Error("a method that has a piece")
	}
	if _, e := c.Take(1, 0); e != api.ErrArg {
		t.Error("the first error")
	}
	if at, e := c.Take(-7, 32); at != 0x300080 || e != api.OK || c.Left() != 0 {
		t.Error("all that is left")
	}
	if _, e := c.Take(2, 1); e != api.ErrFull {
		t.Error("nothing is left")
	}
	if _, e := c.Take(-7, 1); e != api.ErrOrder {
		t.Error("the first error")
	}
	if p, ok := c.Piece(1); !ok || p.Method != 1 || p.At != 0x300000 || p.State != None || p.Words != nil {
		t.Errorf("%+v", p)
	}
}

func TestLayTellP2602(t *testing.T) {
	c := made(t, 64)
	c.Take(5, 3)
	words := []uint32{1, 2, 3, 4}
	k := &checker{}
	if c.Lay(4, words) != api.ErrNone || c.Tell(4, k) != api.ErrNone || c.Tell(5, k) != api.ErrOrder || len(k.at) != 0 {
		t.Error("what is not taken, not laid")
	}
	if c.Lay(5, make([]uint32, 17)) != api.ErrFull {
		t.Error("too many words")
	}
	if c.Lay(5, words) != api.OK || c.Lay(5, words) != api.ErrOrder {
		t.Error("Lay")
	}
	words[0] = 77
	if p, _ := c.Piece(5); p.State != Laid || !slices.Equal(p.Words, []uint32{1, 2, 3, 4}) {
		t.Errorf("%+v", p)
	}
	k.no = true
	if c.Tell(5, k) != api.ErrValue || len(k.at) != 1 || k.at[0] != 0x300000 || !slices.Equal(k.words, []uint32{1, 2, 3, 4}) {
		t.Error("the checker says no")
	}
	if p, _ := c.Piece(5); p.State != Laid || p.Words[0] != 1 {
		t.Errorf("%+v", p)
	}
	k.no = false
	if c.Tell(5, k) != api.OK || len(k.at) != 2 || c.Tell(5, k) != api.ErrOrder || len(k.at) != 2 || c.Lay(5, words) != api.ErrOrder {
		t.Error("Tell")
	}
	if p, _ := c.Piece(5); p.State != Told || p.Words[0] != 1 {
		t.Errorf("%+v", p)
	}
	c.Take(6, 16)
	c.Lay(6, make([]uint32, 16))
	l := &listener{}
	l.no = true
	c.Tell(6, l)
	if len(l.heard) != 0 {
		t.Error("it hears of what is not told")
	}
	l.no = false
	if c.Tell(6, l) != api.OK || len(l.heard) != 1 || l.heard[0].Method != 6 || l.heard[0].State != Told || len(l.heard[0].Words) != 16 {
		t.Error("a checker that hears")
	}
}

func TestPiecesFindP2603(t *testing.T) {
	c := made(t, 64)
	c.Take(9, 16)
	c.Take(3, 20)
	c.Lay(9, []uint32{7, 8})
	if p, ok := c.Piece(4); ok || p.Method != 0 || p.Words != nil {
		t.Error("no piece")
	}
	l := c.Pieces()
	if len(l) != 2 || l[0].Method != 9 || l[1].Method != 3 || l[1].At != 0x300040 || l[1].Words != nil || len(l[0].Words) != 2 {
		t.Errorf("%+v", l)
	}
	l[0].Words[0] = 99
	if p, _ := c.Piece(9); p.Words[0] != 7 {
		t.Error("what is told is not new memory")
	}
	for _, x := range []struct {
		addr   uint64
		method int
	}{{0x2FFFFF, 0}, {0x300000, 9}, {0x300007, 9}, {0x300008, 0}, {0x30003F, 0}, {0x300040, 3}, {0x3000BF, 3}, {0x3000C0, 0}, {0, 0}, {math.MaxUint64, 0}} {
		if p, ok := c.Find(x.addr); p.Method != x.method || ok != (x.method != 0) {
			t.Errorf("Find(%x): %+v", x.addr, p)
		}
	}
	high, _ := New(math.MaxUint64-63, 64)
	high.Take(1, 32)
	high.Take(2, 32)
	if p, ok := high.Find(math.MaxUint64); !ok || p.Method != 1 {
		t.Error("the greatest place")
	}
	for _, addr := range []uint64{0, 63, 64, 200} {
		if _, ok := high.Find(addr); ok {
			t.Errorf("words go on at %x", addr)
		}
	}
}
