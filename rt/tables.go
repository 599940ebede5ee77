package rt

import (
	"brazier/abi"
	"brazier/api"
	"brazier/bytecode"
	"brazier/code"
	"brazier/layout"
	"slices"
)

// tables tells what lies in the tables of a right program; enter is where all entries go in the beginning.
func tables(p api.Program, enter uint64) []byte {
	b := make([]byte, abi.Bytes)
	put(b, abi.Heap, 0, layout.Heap)
	for k, v := range p.Pool {
		put(b, abi.Pool, k, uint64(v))
	}
	for k, fields := range p.Classes {
		put(b, abi.Sizes, k, uint64(len(fields)))
	}
	for k, m := range p.Methods {
		put(b, abi.Entries, k, enter)
		put(b, abi.Codes, k, layout.Tables+uint64(len(b)))
		put(b, abi.Params, k, 8*uint64(len(m.Params)))
		put(b, abi.Others, k, uint64(len(m.Locals)))
		if m.Ret != api.TVoid {
			put(b, abi.Tells, k, 1)
		}
		b = append(b, bytecodes(p, m)...)
	}
	return b
}

// put puts the k-th number of a row.
func put(b []byte, row, k int, v uint64) {
	for at := range 8 {
		b[row+8*k+at] = byte(v >> (8 * at))
	}
}

// bytecodes tells a method's, those of volatile fields by codes of their own: so the interpreter need not look for what a field is.
func bytecodes(p api.Program, m api.Method) []byte {
	b := slices.Clone(m.Code)
	for at, o := range code.All(m.Code) {
		switch {
		case o.Code == bytecode.Getf && p.Classes[o.A][o.B].Volatile:
			b[at] = abi.GetVolatile
		case o.Code == bytecode.Putf && p.Classes[o.A][o.B].Volatile:
			b[at] = abi.PutVolatile
		}
	}
	return b
}
