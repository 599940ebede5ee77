package code

import (
	"brazier/api"
	"slices"
	"strconv"
	"strings"
)

const mostDigits = 6

// Text tells a line for each bytecode.
func Text(b []byte) (string, api.Errno) {
	if _, e := Places(b); e != api.OK {
		return "", e
	}
	var s strings.Builder
	names := strings.Fields(namesOfCodes)
	for _, o := range All(b) {
		s.WriteString(names[o.Code])
		for n := range operands(o.Code) {
			s.WriteByte(' ')
			s.WriteString(strconv.Itoa([2]int{o.A, o.B}[n]))
		}
		s.WriteByte('\n')
	}
	return s.String(), api.OK
}

// Parse tells the bytes of a text; else the number of the line that is no bytecode.
func Parse(s string) ([]byte, int, api.Errno) {
	var all []byte
	names := kinds()
	n := 0
	for line := range strings.SplitSeq(s, "\n") {
		n++
		words := slices.DeleteFunc(strings.Split(line, " "), func(w string) bool { return w == "" })
		if len(words) == 0 {
			continue
		}
		b, ok := parse(words, names)
		if !ok {
			return nil, n, api.ErrForm
		}
		all = append(all, b...)
	}
	return all, 0, api.OK
}

// parse tells the bytes of a line's words.
func parse(words []string, names map[string]int) ([]byte, bool) {
	code, ok := names[words[0]]
	if !ok || len(words)-1 != len(operands(code)) {
		return nil, false
	}
	var v [2]int
	for n, w := range words[1:] {
		if v[n], ok = number(w); !ok {
			return nil, false
		}
	}
	b, e := Write(Op{Code: code, A: v[0], B: v[1]})
	return b, e == api.OK
}

// number reads one that is written just as it is told.
func number(w string) (int, bool) {
	if len(strings.TrimPrefix(w, "-")) > mostDigits {
		return 0, false
	}
	v, e := strconv.Atoi(w)
	return v, e == nil && strconv.Itoa(v) == w
}
