// Package bits: fields of words, signed numbers. See doc/01-bits.md.
package bits

// Field tells the n bits of w from bit lo on.
func Field(w uint32, lo, n int) uint32 {
	if !isField(lo, n) {
		return 0
	}
	return w >> lo & mask(n)
}

// Put tells w with the n bits from bit lo on being the lowest of v.
func Put(w uint32, lo, n int, v uint32) uint32 {
	if !isField(lo, n) {
		return w
	}
	return w&^(mask(n)<<lo) | v&mask(n)<<lo
}

func isField(lo, n int) bool {
	return within(lo, 0, 31) && within(n, 1, 32-lo)
}

// mask has the lowest n bits: the shift by 32 that n = 32 asks for gives 0 in Go, and 0 - 1 is all of them.
func mask(n int) uint32 {
	return uint32(1)<<n - 1
}

func within[T int | int64](v, lo, hi T) bool {
	return lo <= v && v <= hi
}

// Sext tells the lowest n bits of v as a signed number.
func Sext(v uint64, n int) int64 {
	if !within(n, 1, 64) {
		return int64(v)
	}
	up := 64 - n
	return int64(v<<up) >> up
}

// Fits tells whether v is one of the signed numbers of n bits.
func Fits(v int64, n int) bool {
	if !within(n, 1, 64) {
		return false
	}
	least := int64(-1) << (n - 1)
	return within(v, least, ^least)
}

// Div tells the quotient, cut towards 0.
func Div(a, b int64) int64 {
	if b == 0 {
		return 0
	}
	return a / b
}

// Rem tells what Div leaves.
func Rem(a, b int64) int64 {
	return a - Div(a, b)*b
}

// Add tells a sum with its flags.
func Add(a, b uint64, in bool) (sum uint64, n, z, c, v bool) {
	sum = a + b
	c = sum < a
	if in {
		sum++
		c = c || sum == 0
	}
	n = isNegative(sum)
	v = isNegative(a) == isNegative(b) && isNegative(a) != n
	return sum, n, sum == 0, c, v
}

func isNegative(v uint64) bool {
	return v>>63 == 1
}

// Shift tells a moved by the lowest six bits of by.
func Shift(a uint64, by uint64, kind int) uint64 {
	by &= 63
	switch kind {
	case 0:
		return a << by
	case 1:
		return a >> by
	case 2:
		return uint64(int64(a) >> by)
	}
	return a
}

const digitsOfHex = "0123456789abcdef"

// Hex tells v in hexadecimal, with noughts ahead up to so many digits.
func Hex(v uint64, digits int) string {
	var text [16]byte
	first := len(text)
	least := len(text) - max(1, min(digits, len(text)))
	for first > least || v != 0 {
		first--
		text[first] = digitsOfHex[v&15]
		v >>= 4
	}
	return string(text[first:])
}

// ReadHex tells the number that 1 to 16 digits say.
func ReadHex(s string) (uint64, bool) {
	if !within(len(s), 1, 16) {
		return 0, false
	}
	v := uint64(0)
	for i := range len(s) {
		d, ok := digit(s[i])
		if !ok {
			return 0, false
		}
		v = v<<4 | d
	}
	return v, true
}

func digit(c byte) (uint64, bool) {
	switch {
	case '0' <= c && c <= '9':
		return uint64(c - '0'), true
	case 'a' <= c && c <= 'f':
		return uint64(c-'a') + 10, true
	case 'A' <= c && c <= 'F':
		return uint64(c-'A') + 10, true
	}
	return 0, false
}

// Most tells the greater one.
func Most[T int64 | uint64](a, b T) T {
	if a < b {
		return b
	}
	return a
}
