package mem

import (
	"bytes"
	"math"
	"slices"
	"testing"

	"brazier/api"
)

func TestNewP701(t *testing.T) {
	var many []api.Region
	for k := range 17 {
		many = append(many, api.Region{At: uint64(k) * 8, Size: 8})
	}
	for n, c := range []struct {
		l  []api.Region
		ok bool
	}{
		{nil, true}, {many[:16], true}, {many, false},
		{[]api.Region{{At: 4, Size: 8}}, false}, {[]api.Region{{At: 8, Size: 4}}, false}, {[]api.Region{{At: 8, Size: 0}}, false}, {[]api.Region{{At: 8, Size: 1 << 24}}, true}, {[]api.Region{{At: 8, Size: 1<<24 + 8}}, false},
		{[]api.Region{{At: 1<<48 - 8, Size: 8}}, true}, {[]api.Region{{At: 1<<48 - 8, Size: 16}}, false}, {[]api.Region{{At: 1 << 48, Size: 8}}, false}, {[]api.Region{{At: math.MaxUint64 - 7, Size: 8}}, false}, {[]api.Region{{At: 8, Size: math.MaxUint64 - 7}}, false},
		{[]api.Region{{At: 64, Size: 64}, {At: 0, Size: 64}}, true}, {[]api.Region{{At: 64, Size: 64}, {At: 0, Size: 72}}, false}, {[]api.Region{{At: 0, Size: 64}, {At: 8, Size: 8}}, false}, {[]api.Region{{At: 8, Size: 8}, {At: 8, Size: 8}}, false},
	} {
		m, e := New(c.l...)
		if (e == api.OK) != c.ok || e != api.OK && (e != api.ErrArg || m != nil) {
			t.Errorf("case %d: %v", n, e)
		}
	}
}

func regions() []api.Region {
	return []api.Region{{At: 0x2000, Size: 32, Execute: true}, {At: 0x1000, Size: 16, Write: true}, {At: 0x1010, Size: 8}, {At: 0x3000, Size: 8, Write: true, Execute: true}}
}

func made(t *testing.T) *Memory {
	m, e := New(regions()...)
	if e != api.OK {
		t.Fatal(e)
	}
	return m
}

func TestRegionsAtP701(t *testing.T) {
	in := regions()
	m, _ := New(in...)
	if !slices.Equal(in, regions()) {
		t.Error("what was handed in is changed")
	}
	in[0].Size = 8
	l := m.Regions()
	r := regions()
	if !slices.Equal(l, []api.Region{r[1], r[2], r[0], r[3]}) {
		t.Errorf("Regions: %v", l)
	}
	l[0].Size = 1
	if m.Regions()[0].Size != 16 {
		t.Error("Regions is not new memory")
	}
	for _, c := range []struct {
		addr uint64
		at   int
	}{{0xFFF, -1}, {0x1000, 1}, {0x100F, 1}, {0x1010, 2}, {0x1017, 2}, {0x1018, -1}, {0x201F, 0}, {0x2020, -1}, {0, -1}, {math.MaxUint64, -1}} {
		got, ok := m.At(c.addr)
		if ok != (c.at >= 0) || ok && got != r[c.at] || !ok && got != (api.Region{}) {
			t.Errorf("At(%x): %v %v", c.addr, got, ok)
		}
	}
}

func TestReadWriteP702(t *testing.T) {
	m := made(t)
	for _, c := range []struct {
		addr uint64
		read bool
		word bool
		put  bool
	}{
		{0x1000, true, false, true}, {0x1008, true, false, true}, {0x1004, false, false, false}, {0x1001, false, false, false}, {0x1010, true, false, false}, {0x1018, false, false, false}, {0xFF8, false, false, false},
		{0x2000, true, true, false}, {0x2004, false, true, false}, {0x2002, false, false, false}, {0x201C, false, true, false}, {0x2020, false, false, false}, {0x3000, true, true, true}, {math.MaxUint64 - 7, false, false, false},
	} {
		if e := m.Write(c.addr, 0x1122334455667788); (e == api.OK) != c.put || e != api.OK && e != api.ErrFault {
			t.Errorf("Write(%x): %v", c.addr, e)
		}
		want := uint64(0)
		if c.put {
			want = 0x1122334455667788
		}
		if v, e := m.Read(c.addr); (e == api.OK) != c.read || e != api.OK && e != api.ErrFault || v != want {
			t.Errorf("Read(%x): %x %v", c.addr, v, e)
		}
		if w, e := m.Word(c.addr); (e == api.OK) != c.word || e != api.OK && e != api.ErrFault || w != uint32(want) && c.word || e != api.OK && w != 0 {
			t.Errorf("Word(%x): %x %v", c.addr, w, e)
		}
	}
	for n, want := range []byte{0x88, 0x77, 0x66, 0x55, 0x44, 0x33, 0x22, 0x11} {
		if b, e := m.Byte(0x3000 + uint64(n)); b != want || e != api.OK {
			t.Errorf("Byte %d: %x %v", n, b, e)
		}
	}
	if w, _ := m.Word(0x3004); w != 0x11223344 {
		t.Errorf("Word: %x", w)
	}
	m.Load(0x2000, []byte{1, 2, 3, 4, 5, 6, 7, 8})
	for _, addr := range []uint64{0x2001, 0x2004, 0x2006} {
		if v, e := m.Read(addr); v != 0 || e != api.ErrFault {
			t.Errorf("Read(%x): %x %v", addr, v, e)
		}
	}
	if w, e := m.Word(0x2002); w != 0 || e != api.ErrFault {
		t.Errorf("Word: %x %v", w, e)
	}
	if b, e := m.Byte(0x3008); b != 0 || e != api.ErrFault {
		t.Error("Byte of nowhere")
	}
}

func TestLoadCopyP703(t *testing.T) {
	m := made(t)
	in := []byte{1, 2, 3}
	if m.Load(0x2003, in) != api.OK || in[0] != 1 {
		t.Error("Load of what may not be written")
	}
	in[0] = 9
	if b, e := m.Copy(0x2002, 5); e != api.OK || !bytes.Equal(b, []byte{0, 1, 2, 3, 0}) {
		t.Errorf("Copy: %v %v", b, e)
	}
	for _, c := range []struct {
		addr uint64
		n    int
		ok   bool
	}{{0x1000, 16, true}, {0x1000, 17, false}, {0x1008, 16, false}, {0x100F, 1, true}, {0x1000, 0, true}, {0x1018, 0, false}, {0x1017, 0, true}, {0xFFF, 1, false}, {0, 0, false}, {math.MaxUint64, 1, false}} {
		if e := m.Load(c.addr, make([]byte, c.n)); (e == api.OK) != c.ok || e != api.OK && e != api.ErrFault {
			t.Errorf("Load(%x, %d): %v", c.addr, c.n, e)
		}
		if b, e := m.Copy(c.addr, c.n); (e == api.OK) != c.ok || e != api.OK && (e != api.ErrFault || b != nil) || c.ok && len(b) != c.n {
			t.Errorf("Copy(%x, %d): %v", c.addr, c.n, e)
		}
	}
	for _, n := range []int{-1, math.MinInt, math.MaxInt} {
		if b, e := m.Copy(0x1000, n); e != api.ErrFault || b != nil {
			t.Errorf("Copy of %d: %v", n, e)
		}
	}
	b, _ := m.Copy(0x2002, 2)
	b[1] = 77
	if c, _ := m.Byte(0x2003); c != 1 {
		t.Error("Copy is not new memory")
	}
}

func TestTwinP703(t *testing.T) {
	m := made(t)
	m.Write(0x1000, 5)
	n := m.Twin()
	m.Write(0x1000, 6)
	n.Write(0x1008, 7)
	a, _ := n.Read(0x1000)
	b, _ := m.Read(0x1008)
	if a != 5 || b != 0 || !slices.Equal(m.Regions(), n.Regions()) {
		t.Error("Twin")
	}
}
