package code

import (
	"bytes"
	"maps"
	"math"
	"slices"
	"strings"
	"testing"

	"brazier/api"
)

// want are all bytecodes with their operands.
var want = []string{"nop", "const u", "small s", "null", "get u", "set u", "dup", "drop", "swap", "add", "sub", "mul", "div", "rem", "and", "or", "xor", "shl", "shr", "ushr", "neg", "lt", "eq", "same", "isnull", "jump o", "if o", "call u", "ret", "new u", "getf u u", "putf u u", "newa u", "geta u", "puta u", "len", "enter", "exit", "spawn u", "join", "print"}

func TestNamesP1301(t *testing.T) {
	for code, w := range want {
		name := strings.Fields(w)[0]
		if k, ok := Kind(name); Name(code) != name || k != code || !ok {
			t.Errorf("%d: %q, %d", code, Name(code), k)
		}
	}
	for _, code := range []int{-1, len(want), 255, math.MinInt, math.MaxInt} {
		if Name(code) != "" {
			t.Errorf("Name(%d)", code)
		}
	}
	for _, name := range []string{"", "NOP", "nop ", "nope", "u", "const u"} {
		if k, ok := Kind(name); k != 0 || ok {
			t.Errorf("Kind(%q)", name)
		}
	}
}

func TestReadWriteP1302(t *testing.T) {
	for code, w := range want {
		kinds := strings.Fields(w)[1:]
		for _, bytesOf := range [][]byte{{0, 0}, {1, 2}, {255, 254}, {127, 128}, {128, 127}} {
			b := []byte{99, byte(code)}
			var v []int
			for n, k := range kinds {
				switch k {
				case "u":
					b, v = append(b, bytesOf[n]), append(v, int(bytesOf[n]))
				case "s":
					b, v = append(b, bytesOf[n]), append(v, int(int8(bytesOf[n])))
				default:
					b, v = append(b, bytesOf...), append(v, int(int8(bytesOf[1]))*256+int(bytesOf[0]))
				}
			}
			o := Op{Code: code, Size: len(b) - 1}
			v = append(v, 0, 0)
			o.A, o.B = v[0], v[1]
			if got, e := Read(b, 1); got != o || e != api.OK {
				t.Errorf("%v: %+v %v", b, got, e)
			}
			o.Size = 77
			if got, e := Write(o); !bytes.Equal(got, b[1:]) || e != api.OK {
				t.Errorf("%+v: %v %v", o, got, e)
			}
			for n := 2; n < len(b); n++ {
				if got, e := Read(b[:n], 1); got != (Op{}) || e != api.ErrShort {
					t.Errorf("%v: %+v %v", b[:n], got, e)
				}
			}
		}
	}
}

func TestReadWrongP1302(t *testing.T) {
	for _, c := range []struct {
		b    []byte
		at   int
		want api.Errno
	}{{nil, 0, api.ErrShort}, {nil, 1, api.ErrArg}, {nil, -1, api.ErrArg}, {[]byte{0}, 1, api.ErrShort}, {[]byte{0}, 2, api.ErrArg}, {[]byte{0}, math.MinInt, api.ErrArg}, {[]byte{0}, math.MaxInt, api.ErrArg}, {[]byte{41}, 0, api.ErrForm}, {[]byte{255, 0}, 0, api.ErrForm}, {[]byte{26, 0}, 0, api.ErrShort}} {
		if o, e := Read(c.b, c.at); o != (Op{}) || e != c.want {
			t.Errorf("%v at %d: %v", c.b, c.at, e)
		}
	}
	for _, c := range []struct {
		o    Op
		want api.Errno
	}{{Op{Code: -1}, api.ErrForm}, {Op{Code: 41}, api.ErrForm}, {Op{Code: 41, A: 900}, api.ErrForm}, {Op{Code: 0, A: 1}, api.ErrArg}, {Op{Code: 0, B: 1}, api.ErrArg}, {Op{Code: 1, A: 256}, api.ErrArg}, {Op{Code: 1, A: -1}, api.ErrArg}, {Op{Code: 1, B: 1}, api.ErrArg},
		{Op{Code: 2, A: 128}, api.ErrArg}, {Op{Code: 2, A: -129}, api.ErrArg}, {Op{Code: 25, A: 32768}, api.ErrArg}, {Op{Code: 26, A: -32769}, api.ErrArg}, {Op{Code: 25, B: 1}, api.ErrArg}, {Op{Code: 30, A: 1, B: 256}, api.ErrArg}, {Op{Code: 31, A: math.MinInt}, api.ErrArg}} {
		if b, e := Write(c.o); b != nil || e != c.want {
			t.Errorf("%+v: %v", c.o, e)
		}
	}
	if o, e := Read([]byte{26, 0xFE, 0xFF}, 0); o != (Op{Code: 26, A: -2, Size: 3}) || e != api.OK {
		t.Error("example")
	}
}

func TestPlacesAllP1303(t *testing.T) {
	b := []byte{2, 5, 30, 1, 2, 25, 0, 0, 28}
	if l, e := Places(b); !slices.Equal(l, []int{0, 2, 5, 8}) || e != api.OK {
		t.Errorf("%v %v", l, e)
	}
	if l, e := Places(nil); len(l) != 0 || e != api.OK {
		t.Error("nothing")
	}
	if l, e := Places([]byte{0, 77, 2}); l != nil || e != api.ErrForm {
		t.Errorf("%v %v", l, e)
	}
	if l, e := Places([]byte{0, 2}); l != nil || e != api.ErrShort {
		t.Errorf("%v %v", l, e)
	}
	seq := All(b)
	b[0] = 99
	for range 2 {
		got := maps.Collect(seq)
		if len(got) != 4 || got[0] != (Op{2, 5, 0, 2}) || got[2] != (Op{30, 1, 2, 3}) || got[8] != (Op{28, 0, 0, 1}) {
			t.Errorf("%v", got)
		}
	}
	for at := range seq {
		if at == 2 {
			break
		}
	}
	n := 0
	for range All([]byte{0, 0, 200, 0}) {
		n++
	}
	if n != 2 {
		t.Error("up to the first error")
	}
}

func TestTextP1303(t *testing.T) {
	if s, e := Text([]byte{2, 0xFF, 30, 1, 255, 25, 0xFE, 0xFF, 28}); s != "small -1\ngetf 1 255\njump -2\nret\n" || e != api.OK {
		t.Errorf("%q %v", s, e)
	}
	if s, e := Text([]byte{0, 99}); s != "" || e != api.ErrForm {
		t.Errorf("%q %v", s, e)
	}
	if s, e := Text([]byte{0, 1}); s != "" || e != api.ErrShort {
		t.Errorf("%q %v", s, e)
	}
	if s, e := Text(nil); s != "" || e != api.OK {
		t.Error("nothing")
	}
}

func TestParseP1303(t *testing.T) {
	if b, n, e := Parse("\n  small   -1 \n\n   \ngetf 1 255\nret"); !bytes.Equal(b, []byte{2, 0xFF, 30, 1, 255, 28}) || n != 0 || e != api.OK {
		t.Errorf("%v %d %v", b, n, e)
	}
	if b, n, e := Parse(""); len(b) != 0 || n != 0 || e != api.OK {
		t.Error("nothing")
	}
	for _, s := range []string{"bad", "nop 1", "const", "const 1 2", "const 256", "const -1", "const 01", "const +1", "const 0000001", "const -0", "small -129", "small 128", "small --1", "small 1-", "small -01", "jump 32768", "jump 1000000", "jump 1_0", "jump 0x1", "\tnop", "nop\t", "nop\r", "getf 1", "getf 1,2", "const 1\x00", "NOP", "const \xff"} {
		if b, n, e := Parse("nop\n\n" + s + "\nbad"); b != nil || n != 3 || e != api.ErrForm {
			t.Errorf("%q: %v %d %v", s, b, n, e)
		}
	}
	var all []byte
	for code := range want {
		for _, v := range []int{0, 1, 100, -100, 255, 30000, -32768} {
			if b, e := Write(Op{Code: code, A: v}); e == api.OK {
				all = append(all, b...)
			}
		}
	}
	s, _ := Text(all)
	if b, _, e := Parse(s); !bytes.Equal(b, all) || e != api.OK {
		t.Error("Parse of Text")
	}
}
