package bits

import (
	"math"
	"strconv"
	"testing"
)

// sample are numbers at the edges and between.
var sample = []uint64{0, 1, 2, 5, 0x7f, 0x80, 0xff, 0x1234_5678, 1<<31 - 1, 1 << 31, 1<<32 - 1, 1 << 32, 1<<63 - 1, 1 << 63, 1<<63 + 1, math.MaxUint64 - 1, math.MaxUint64}

func TestFieldP101(t *testing.T) {
	for _, c := range []struct {
		w     uint32
		lo, n int
		want  uint32
	}{
		{0xABCD1234, 8, 12, 0xD12}, {0xABCD1234, 0, 32, 0xABCD1234}, {0xABCD1234, 31, 1, 1}, {0xABCD1234, 0, 4, 4},
		{0xFFFFFFFF, 31, 2, 0}, {0xFFFFFFFF, -1, 1, 0}, {0xFFFFFFFF, 32, 1, 0}, {0xFFFFFFFF, 0, 0, 0}, {0xFFFFFFFF, 0, 33, 0}, {0xFFFFFFFF, 5, -3, 0},
		{0xFFFFFFFF, math.MinInt, 1, 0}, {0xFFFFFFFF, 0, math.MaxInt, 0},
	} {
		if got := Field(c.w, c.lo, c.n); got != c.want {
			t.Errorf("Field(%x, %d, %d): %x", c.w, c.lo, c.n, got)
		}
	}
}

func TestPutP101(t *testing.T) {
	for _, c := range []struct {
		w     uint32
		lo, n int
		v     uint32
		want  uint32
	}{
		{0xFFFF, 4, 8, 0x112, 0xF12F}, {0, 31, 1, 3, 1 << 31}, {7, 0, 32, 0xFEDCBA98, 0xFEDCBA98},
		{5, 0, 33, 1, 5}, {5, 32, 1, 1, 5}, {5, -1, 1, 1, 5}, {5, 3, 0, 1, 5}, {5, 3, 30, 1, 5},
	} {
		if got := Put(c.w, c.lo, c.n, c.v); got != c.want {
			t.Errorf("Put(%x, %d, %d, %x): %x", c.w, c.lo, c.n, c.v, got)
		}
	}
}

func TestSextFitsP102(t *testing.T) {
	if Sext(0xFF, 8) != -1 || Sext(0x7F, 8) != 127 || Sext(0x180, 8) != -128 || Sext(1, 1) != -1 || Sext(2, 1) != 0 {
		t.Error("Sext of few bits")
	}
	for _, n := range []int{0, -1, 64, 65, math.MaxInt} {
		if Sext(1<<63, n) != math.MinInt64 {
			t.Errorf("Sext of %d bits", n)
		}
	}
	for n := 1; n <= 64; n++ {
		least, most := int64(math.MinInt64)>>(64-n), int64(math.MaxInt64)>>(64-n)
		if !Fits(least, n) || !Fits(most, n) || n < 64 && (Fits(least-1, n) || Fits(most+1, n)) {
			t.Errorf("Fits of %d bits", n)
		}
	}
	if Fits(0, 0) || Fits(0, 65) || Fits(0, -1) || Fits(0, math.MinInt) {
		t.Error("Fits of no number of bits")
	}
}

func TestDivRemP103(t *testing.T) {
	for _, c := range [][4]int64{{-7, 2, -3, -1}, {7, -2, -3, 1}, {-7, -2, 3, -1}, {7, 0, 0, 7}, {math.MinInt64, -1, math.MinInt64, 0}, {math.MinInt64, 0, 0, math.MinInt64}, {9, -4, -2, 1}} {
		if q, r := Div(c[0], c[1]), Rem(c[0], c[1]); q != c[2] || r != c[3] {
			t.Errorf("%d, %d: %d, %d", c[0], c[1], q, r)
		}
	}
}

// slowAdd adds bit by bit.
func slowAdd(a, b uint64, in bool) (sum uint64, carry, before bool) {
	carry = in
	for i := 0; i < 64; i++ {
		before = carry
		x, y, n := a>>i&1, b>>i&1, uint64(0)
		if carry {
			n = 1
		}
		sum |= (x ^ y ^ n) << i
		carry = x+y+n > 1
	}
	return sum, carry, before
}

func TestAddP104(t *testing.T) {
	for _, a := range sample {
		for _, b := range sample {
			for _, in := range []bool{false, true} {
				sum, carry, before := slowAdd(a, b, in)
				s, n, z, c, v := Add(a, b, in)
				if s != sum || n != (int64(sum) < 0) || z != (sum == 0) || c != carry || v != (carry != before) {
					t.Errorf("Add(%x, %x, %v): %x %v %v %v %v", a, b, in, s, n, z, c, v)
				}
			}
		}
	}
}

func TestShiftP104(t *testing.T) {
	for _, a := range sample {
		for _, by := range sample {
			n := by % 64
			if Shift(a, by, 0) != a<<n || Shift(a, by, 1) != a>>n || Shift(a, by, 2) != uint64(int64(a)>>n) {
				t.Errorf("Shift(%x, %d)", a, by)
			}
			if Shift(a, by, 3) != a || Shift(a, by, -1) != a || Shift(a, by, math.MaxInt) != a {
				t.Errorf("Shift(%x, %d) of no kind", a, by)
			}
		}
	}
}

func TestHexP105(t *testing.T) {
	for _, c := range []struct {
		v      uint64
		digits int
		want   string
	}{
		{0xABC, 2, "abc"}, {0xABC, 3, "abc"}, {0xABC, 5, "00abc"}, {0, 0, "0"}, {0, -5, "0"}, {0, 1, "0"}, {0, 3, "000"}, {5, 99, "0000000000000005"}, {5, 16, "0000000000000005"},
		{math.MaxUint64, 1, "ffffffffffffffff"}, {0xABC, math.MinInt, "abc"}, {0xABC, math.MaxInt, "0000000000000abc"},
	} {
		if got := Hex(c.v, c.digits); got != c.want {
			t.Errorf("Hex(%x, %d): %q", c.v, c.digits, got)
		}
	}
	for _, v := range sample {
		if Hex(v, 1) != strconv.FormatUint(v, 16) {
			t.Errorf("Hex(%x)", v)
		}
		if got, ok := ReadHex(Hex(v, 9)); got != v || !ok {
			t.Errorf("ReadHex of %x: %x", v, got)
		}
	}
}

func TestReadHexP105(t *testing.T) {
	if v, ok := ReadHex("aBcDeF0123456789"); v != 0xabcdef0123456789 || !ok {
		t.Errorf("%x", v)
	}
	for _, s := range []string{"", "0x1", "g", "G", "/", ":", "@", "`", " 1", "1 ", "-1", "00000000000000001", "1_0", "é"} {
		if v, ok := ReadHex(s); v != 0 || ok {
			t.Errorf("ReadHex(%q): %x", s, v)
		}
	}
}

func TestMostP105(t *testing.T) {
	if Most(int64(-1), 2) != 2 || Most(int64(3), -2) != 3 || Most(uint64(1<<63), 2) != 1<<63 || Most(uint64(7), 7) != 7 {
		t.Error("Most")
	}
}

func TestWhatFollowsP106(t *testing.T) {
	for lo := 0; lo < 32; lo++ {
		for n := 1; n <= 32-lo; n++ {
			for _, v := range sample {
				want := uint32(v) & (1<<n - 1)
				w := Put(0xA5A5A5A5, lo, n, uint32(v))
				if Field(w, lo, n) != want || Put(w, lo, n, Field(0xA5A5A5A5, lo, n)) != 0xA5A5A5A5 {
					t.Fatalf("Field of Put: %d, %d, %x", lo, n, v)
				}
			}
		}
	}
	for _, v := range sample {
		for n := 1; n <= 64; n++ {
			if Fits(int64(v), n) != (Sext(v, n) == int64(v)) {
				t.Errorf("Sext and Fits of %x, %d", v, n)
			}
		}
		for _, b := range sample {
			if Div(int64(v), int64(b))*int64(b)+Rem(int64(v), int64(b)) != int64(v) {
				t.Errorf("Div and Rem of %x, %x", v, b)
			}
		}
	}
}
