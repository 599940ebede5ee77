package farm

import (
	"brazier/api"
	"brazier/bits"
	"strconv"
	"strings"
)

const mostDigits = 9

// Parse tells the moves of a text, one a line.
func Parse(text string) ([]api.Move, api.Errno) {
	var l []api.Move
	for line := range strings.SplitSeq(text, "\n") {
		if line == "" {
			continue
		}
		m, ok := parse(line)
		if !ok {
			return nil, api.ErrForm
		}
		l = append(l, m)
	}
	if len(l) > api.MaxMoves {
		return nil, api.ErrMany
	}
	return l, api.OK
}

func parse(line string) (api.Move, bool) {
	words := strings.Split(line, " ")
	if len(words) != 4 {
		return api.Move{}, false
	}
	var m api.Move
	for k, to := range [...]*int{&m.Kind, &m.Core, &m.N} {
		v, e := strconv.Atoi(words[k])
		if e != nil || !canBeSaid(v) || strconv.Itoa(v) != words[k] {
			return api.Move{}, false
		}
		*to = v
	}
	addr, ok := bits.ReadHex(words[3])
	if !ok || bits.Hex(addr, 1) != words[3] {
		return api.Move{}, false
	}
	m.Addr = addr
	return m, true
}

// canBeSaid tells whether v has few enough digits.
func canBeSaid(v int) bool {
	return len(strings.TrimPrefix(strconv.Itoa(v), "-")) <= mostDigits
}

// Text tells the text of moves; those that cannot be said are left out.
func Text(moves ...api.Move) string {
	var s strings.Builder
	for _, m := range moves {
		if !canBeSaid(m.Kind) || !canBeSaid(m.Core) || !canBeSaid(m.N) {
			continue
		}
		for _, v := range [...]int{m.Kind, m.Core, m.N} {
			s.WriteString(strconv.Itoa(v))
			s.WriteByte(' ')
		}
		s.WriteString(bits.Hex(m.Addr, 1))
		s.WriteByte('\n')
	}
	return s.String()
}
