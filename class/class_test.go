package class

import (
	"bytes"
	"slices"
	"testing"

	"brazier/api"
)

func least() api.Program {
	return api.Program{Methods: []api.Method{{Code: []byte{28}}}}
}

// sample has something of everything.
func sample() api.Program {
	return api.Program{
		Pool:    []int64{-2, 0x0102030405060708},
		Classes: [][]api.Field{{{Type: api.TInt}, {Type: api.TRef, Volatile: true}}, {}},
		Methods: []api.Method{{Stack: 3, Locals: []int{api.TRef}, Code: []byte{0, 28}}, {Params: []int{api.TInt, api.TRef}, Ret: api.TRef, Locals: []int{api.TInt}, Stack: 40, Code: []byte{99}}},
	}
}

var sampleBytes = []byte{'B', 'Z', 'R', '1', 2, 0xFE, 0xFF, 0xFF, 0xFF, 0xFF, 0xFF, 0xFF, 0xFF, 8, 7, 6, 5, 4, 3, 2, 1, 2, 2, 1, 18, 0, 2, 0, 0, 1, 2, 3, 2, 0, 0, 28, 2, 1, 2, 2, 1, 1, 40, 1, 0, 99}

func TestCheckP1401(t *testing.T) {
	ints := func(n int) []int { return slices.Repeat([]int{api.TInt}, n) }
	for n, c := range []struct {
		change func(p *api.Program)
		want   api.Errno
	}{
		{func(p *api.Program) {}, api.OK},
		{func(p *api.Program) { p.Pool = make([]int64, 200) }, api.OK}, {func(p *api.Program) { p.Pool = make([]int64, 201) }, api.ErrMany},
		{func(p *api.Program) { p.Classes = make([][]api.Field, 50) }, api.OK}, {func(p *api.Program) { p.Classes = make([][]api.Field, 51) }, api.ErrMany},
		{func(p *api.Program) { p.Classes[1] = slices.Repeat([]api.Field{{Type: 1}}, 50) }, api.OK}, {func(p *api.Program) { p.Classes[1] = make([]api.Field, 51) }, api.ErrMany},
		{func(p *api.Program) { p.Methods = slices.Repeat(p.Methods[:1], 100) }, api.OK}, {func(p *api.Program) { p.Methods = slices.Repeat(p.Methods[:1], 101) }, api.ErrMany},
		{func(p *api.Program) { p.Methods = nil }, api.ErrNone}, {func(p *api.Program) { p.Methods, p.Pool = nil, make([]int64, 201) }, api.ErrMany}, {func(p *api.Program) { p.Methods, p.Classes[0][0].Type = nil, 9 }, api.ErrNone},
		{func(p *api.Program) { p.Methods[1].Locals = ints(38) }, api.OK}, {func(p *api.Program) { p.Methods[1].Locals = ints(39) }, api.ErrMany}, {func(p *api.Program) { p.Methods[1].Params = ints(41) }, api.ErrMany},
		{func(p *api.Program) { p.Methods[1].Stack = 41 }, api.ErrMany}, {func(p *api.Program) { p.Methods[1].Stack = -1 }, api.ErrArg}, {func(p *api.Program) { p.Methods[1].Code = make([]byte, 4096) }, api.OK}, {func(p *api.Program) { p.Methods[1].Code = make([]byte, 4097) }, api.ErrMany},
		{func(p *api.Program) { p.Methods[1].Ret = 3 }, api.ErrArg}, {func(p *api.Program) { p.Methods[1].Ret = -1 }, api.ErrArg}, {func(p *api.Program) { p.Methods[1].Code = nil }, api.ErrEnd}, {func(p *api.Program) { p.Methods[1].Code, p.Methods[1].Ret = nil, 3 }, api.ErrArg}, {func(p *api.Program) { p.Methods[0].Code, p.Methods[1].Ret = nil, 3 }, api.ErrEnd},
		{func(p *api.Program) { p.Methods[1].Code, p.Methods[1].Stack = nil, 99 }, api.ErrMany}, {func(p *api.Program) { p.Classes[0][0].Type, p.Methods[1].Code = 0, nil }, api.ErrEnd},
		{func(p *api.Program) { p.Classes[0][0].Type = 0 }, api.ErrArg}, {func(p *api.Program) { p.Classes[0][1].Type = 3 }, api.ErrArg}, {func(p *api.Program) { p.Methods[1].Params[0] = 0 }, api.ErrArg}, {func(p *api.Program) { p.Methods[1].Locals[0] = 17 }, api.ErrArg},
		{func(p *api.Program) { p.Methods[0].Params = ints(1) }, api.ErrArg}, {func(p *api.Program) { p.Methods[0].Ret = api.TInt }, api.ErrArg},
	} {
		p := sample()
		c.change(&p)
		q := Twin(p)
		if e := Check(p); e != c.want {
			t.Errorf("case %d: %v", n, e)
		}
		b, e := Bytes(p)
		if e != c.want || e != api.OK && b != nil || !Same(p, q) {
			t.Errorf("case %d: Bytes %v", n, e)
		}
		if e == api.OK {
			if back, at, e := Parse(b); at != 0 || e != api.OK || !Same(back, p) {
				t.Errorf("case %d: Parse of Bytes %d %v", n, at, e)
			}
		}
	}
}

func TestBytesP1402(t *testing.T) {
	if b, e := Bytes(least()); e != api.OK || !bytes.Equal(b, []byte{0x42, 0x5A, 0x52, 0x31, 0, 0, 1, 0, 0, 0, 0, 1, 0, 0x1C}) {
		t.Errorf("%v %v", b, e)
	}
	if b, e := Bytes(sample()); e != api.OK || !bytes.Equal(b, sampleBytes) {
		t.Errorf("%v %v", b, e)
	}
}

func TestParseP1403(t *testing.T) {
	p, at, e := Parse(sampleBytes)
	if at != 0 || e != api.OK || !Same(p, sample()) {
		t.Fatalf("%+v %d %v", p, at, e)
	}
	refused := func(b []byte, at int, want api.Errno) {
		t.Helper()
		if p, n, e := Parse(b); n != at || e != want || !Same(p, api.Program{}) {
			t.Errorf("%v: %d %v, not %d %v", b, n, e, at, want)
		}
	}
	for n := range sampleBytes {
		refused(sampleBytes[:n], n, api.ErrShort)
	}
	changed := func(at int, v byte) []byte {
		b := slices.Clone(sampleBytes)
		b[at] = v
		return b
	}
	for _, c := range []struct {
		at   int
		v    byte
		want api.Errno
	}{{0, 'b', api.ErrForm}, {1, 0, api.ErrForm}, {2, 0, api.ErrForm}, {3, '2', api.ErrForm}, {4, 201, api.ErrMany}, {21, 51, api.ErrMany}, {22, 51, api.ErrMany}, {23, 0, api.ErrForm}, {23, 3, api.ErrForm}, {23, 16, api.ErrForm}, {23, 19, api.ErrForm}, {23, 33, api.ErrForm}, {24, 34, api.ErrForm}, {26, 0, api.ErrNone}, {26, 101, api.ErrMany}, {28, 3, api.ErrForm}, {28, 17, api.ErrForm}, {29, 41, api.ErrMany}, {30, 0, api.ErrForm}, {30, 18, api.ErrForm}, {31, 41, api.ErrMany}, {32, 0, api.ErrEnd}, {37, 0, api.ErrForm}, {39, 3, api.ErrForm}, {40, 39, api.ErrMany}, {43, 0, api.ErrEnd}} {
		refused(changed(c.at, c.v), c.at, c.want)
	}
	refused(changed(33, 17), 32, api.ErrMany) // two bytes say the count: it stands at the first
	refused(changed(28, 1), len(sampleBytes), api.ErrArg)
	refused(append(changed(28, 1), 7), len(sampleBytes), api.ErrForm)
	refused(append(slices.Clone(sampleBytes), 0, 0), len(sampleBytes), api.ErrForm)
	many := slices.Concat(sampleBytes[:36], []byte{50}, slices.Repeat([]byte{1}, 50), []byte{0})
	refused(many, len(many), api.ErrShort) // Params and Locals together are refused when the count of Locals is read
	refused(append(many, 0), len(many), api.ErrMany)
	refused(nil, 0, api.ErrShort)
	refused([]byte("BX"), 1, api.ErrForm)
	first := slices.Concat([]byte("BZR1"), []byte{0, 0, 1, 1, 1, 0, 0, 0, 1, 0, 28})
	refused(first, len(first), api.ErrArg)
}

func TestSameTwinP1404(t *testing.T) {
	p := sample()
	q := Twin(p)
	if !Same(p, q) || !Same(api.Program{}, Twin(api.Program{})) || !Same(api.Program{Pool: []int64{}, Classes: [][]api.Field{}}, api.Program{}) {
		t.Error("Same")
	}
	for n, change := range []func(){func() { q.Pool[0]++ }, func() { q.Pool = q.Pool[:1] }, func() { q.Classes[0][0].Volatile = true }, func() { q.Classes[0] = nil }, func() { q.Classes = q.Classes[:1] }, func() { q.Methods[1].Params[0] = 9 }, func() { q.Methods[1].Ret = 0 }, func() { q.Methods[1].Locals[0] = 2 }, func() { q.Methods[1].Stack++ }, func() { q.Methods[1].Code[0] = 1 }, func() { q.Methods = q.Methods[:1] }} {
		q = Twin(p)
		change()
		if Same(p, q) || Same(q, p) || !Same(p, sample()) {
			t.Errorf("change %d", n)
		}
	}
}

func TestAnyBytesP1405(t *testing.T) {
	seed := uint32(3)
	next := func(n int) int { seed = seed*1664525 + 1013904223; return int(seed>>8) % n }
	right := 0
	for range 20000 {
		b := slices.Clone(sampleBytes)
		for range 1 + next(3) {
			switch at := next(len(b)); next(3) {
			case 0:
				b[at] = byte(next(256))
			case 1:
				b = slices.Insert(b, at, byte(next(4)))
			default:
				b = slices.Delete(b, at, at+1)
			}
		}
		p, at, e := Parse(b)
		if e != api.OK {
			if at < 0 || at > len(b) {
				t.Fatalf("%v: %d", b, at)
			}
			continue
		}
		right++
		if back, e := Bytes(p); e != api.OK || !bytes.Equal(back, b) {
			t.Fatalf("%v: %v %v", b, back, e)
		}
	}
	if right == 0 {
		t.Error("no right ones among them")
	}
}
