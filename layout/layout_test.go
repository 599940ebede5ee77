package layout

import (
	"math"
	"slices"
	"testing"

	"brazier/api"
	"brazier/mem"
)

var usual = Config{Cores: 2, Heap: 100, Depth: 10, Code: 1024, Hot: 2}

func TestCheckP2201(t *testing.T) {
	for n, c := range []struct {
		c  Config
		ok bool
	}{
		{usual, true}, {Config{1, 0, 1, 0, 0}, true}, {Config{api.MaxCores, api.MaxHeap, api.MaxDepth, api.MaxWords, 1 << 20}, true}, {Config{}, false},
		{Config{0, 0, 1, 0, 0}, false}, {Config{5, 0, 1, 0, 0}, false}, {Config{1, -1, 1, 0, 0}, false}, {Config{1, api.MaxHeap + 1, 1, 0, 0}, false}, {Config{1, 0, 0, 0, 0}, false}, {Config{1, 0, api.MaxDepth + 1, 0, 0}, false},
		{Config{1, 0, 1, -16, 0}, false}, {Config{1, 0, 1, 8, 0}, false}, {Config{1, 0, 1, 16, 0}, true}, {Config{1, 0, 1, api.MaxWords + 16, 0}, false}, {Config{1, 0, 1, 0, -1}, false}, {Config{1, 0, 1, 0, 1<<20 + 1}, false},
	} {
		e := Check(c.c)
		if (e == api.OK) != c.ok || e != api.OK && e != api.ErrArg {
			t.Errorf("case %d: %v", n, e)
		}
		if l := Regions(c.c); (l != nil) != c.ok {
			t.Errorf("case %d: %v", n, l)
		} else if _, e := mem.New(l...); e != api.OK {
			t.Errorf("case %d: no memory: %v", n, e)
		}
		if !c.ok && Which(c.c, Image) != 0 {
			t.Errorf("case %d: Which", n)
		}
	}
}

func TestRegionsP2201(t *testing.T) {
	want := []api.Region{{At: 0x10000, Size: 0x40000, Execute: true}, {At: 0x80000, Size: 0x40000, Write: true}, {At: 0x100000, Size: 0x40000, Write: true}, {At: 0x200000, Size: 800, Write: true}, {At: 0x300000, Size: 4096, Write: true, Execute: true}}
	if l := Regions(usual); !slices.Equal(l, want) {
		t.Errorf("%v", l)
	}
	small := Regions(Config{1, 0, 1, 0, 0})
	if small[2].Size != 0x20000 || small[3].Size != 8 || small[4].Size != 64 {
		t.Errorf("%v", small)
	}
	for n, r := range want {
		for _, c := range []struct {
			addr uint64
			want int
		}{{r.At - 1, 0}, {r.At, n + 1}, {r.At + r.Size - 1, n + 1}, {r.At + r.Size, 0}} {
			if got := Which(usual, c.addr); got != c.want {
				t.Errorf("Which(%x): %d", c.addr, got)
			}
		}
	}
	if Which(usual, 0) != 0 || Which(usual, math.MaxUint64) != 0 {
		t.Error("nowhere")
	}
}

func TestPlacesP2202(t *testing.T) {
	for core := range 4 {
		if lo, hi := Stack(core); lo != 0x100000+0x20000*uint64(core) || hi != lo+0x20000 {
			t.Errorf("Stack(%d)", core)
		}
	}
	for _, core := range []int{-1, 4, math.MinInt, math.MaxInt} {
		if lo, hi := Stack(core); lo != 0 || hi != 0 {
			t.Errorf("Stack(%d)", core)
		}
	}
	for _, c := range []struct {
		addr   uint64
		object int
	}{{0x200000, 1}, {0x200008, 2}, {0x27FFF8, 65536}} {
		if Object(c.addr) != c.object || Address(c.object) != c.addr {
			t.Errorf("object %d", c.object)
		}
	}
	for _, addr := range []uint64{0, 0x1FFFF8, 0x280000, 0x200004, 0x200001, math.MaxUint64} {
		if Object(addr) != 0 {
			t.Errorf("Object(%x)", addr)
		}
	}
	for _, o := range []int{0, -1, 65537, math.MinInt, math.MaxInt} {
		if Address(o) != 0 || Slot(o, 1) != 0 {
			t.Errorf("Address(%d)", o)
		}
	}
	if Slot(1, 0) != 0x200018 || Slot(2, 3) != 0x200038 || Slot(1, -1) != 0 || Slot(1, math.MinInt) != 0 {
		t.Error("Slot")
	}
	if Bytes(0) != 24 || Bytes(2) != 40 || Bytes(-1) != 0 || Bytes(math.MinInt) != 0 {
		t.Error("Bytes")
	}
}

func TestKindsP2203(t *testing.T) {
	for class := -2; class < api.MaxClasses; class++ {
		want := uint64(class) + 1
		if class < 0 {
			want = 1<<32 + uint64(-class)
		}
		if Kind(class) != want || ClassOf(want) != class {
			t.Errorf("class %d: %x", class, Kind(class))
		}
	}
	for _, class := range []int{-3, 50, math.MinInt, math.MaxInt} {
		if Kind(class) != 0 {
			t.Errorf("Kind(%d)", class)
		}
	}
	for _, kind := range []uint64{0, 51, 1 << 32, 1<<32 + 3, math.MaxUint64} {
		if ClassOf(kind) != -3 {
			t.Errorf("ClassOf(%x)", kind)
		}
	}
}
