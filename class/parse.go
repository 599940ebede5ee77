package class

import "brazier/api"

// wrong is what is wrong with bytes: it is told by a panic, since it is found deep inside.
type wrong struct {
	place int
	err   api.Errno
}

// Parse tells the program whose bytes b is; else the place at which something is wrong.
func Parse(b []byte) (api.Program, int, api.Errno) {
	p, w := read(&reader{b: b})
	if w.err != api.OK {
		return api.Program{}, w.place, w.err
	}
	return p, 0, api.OK
}

func read(r *reader) (p api.Program, w wrong) {
	defer func() {
		if found := recover(); found != nil {
			w = found.(wrong)
		}
	}()
	return r.program(), wrong{}
}

type reader struct {
	b  []byte
	at int
}

func (r *reader) refuse(place int, e api.Errno) {
	panic(wrong{place, e})
}

// next takes a byte, which is refused so, if it is not right.
func (r *reader) next(e api.Errno, isRight func(v int) bool) int {
	if r.at >= len(r.b) {
		r.refuse(len(r.b), api.ErrShort)
	}
	v := int(r.b[r.at])
	if !isRight(v) {
		r.refuse(r.at, e)
	}
	r.at++
	return v
}

func (r *reader) any() int {
	return r.next(api.OK, func(int) bool { return true })
}

// count takes one of at most so many.
func (r *reader) count(most int) int {
	return r.next(api.ErrMany, func(v int) bool { return v <= most })
}

func (r *reader) program() api.Program {
	for _, c := range []byte(magic) {
		r.next(api.ErrForm, func(v int) bool { return v == int(c) })
	}
	var p api.Program
	for range r.count(api.MaxPool) {
		p.Pool = append(p.Pool, r.number())
	}
	for range r.count(api.MaxClasses) {
		p.Classes = append(p.Classes, r.fields())
	}
	first := r.at
	methods := r.count(api.MaxMethods)
	if methods == 0 {
		r.refuse(first, api.ErrNone)
	}
	for range methods {
		p.Methods = append(p.Methods, r.method())
	}
	if r.at < len(r.b) {
		r.refuse(r.at, api.ErrForm)
	}
	if !isFirst(p.Methods[0]) {
		r.refuse(len(r.b), api.ErrArg)
	}
	return p
}

func (r *reader) number() int64 {
	v := int64(0)
	for at := range 8 {
		v |= int64(r.any()) << (8 * at)
	}
	return v
}

func (r *reader) fields() []api.Field {
	var l []api.Field
	for range r.count(api.MaxFields) {
		t := r.next(api.ErrForm, func(v int) bool { return isType(v) || isType(v-volatile) })
		l = append(l, api.Field{Type: t % volatile, Volatile: t >= volatile})
	}
	return l
}

func (r *reader) types(n int) []int {
	var l []int
	for range n {
		l = append(l, r.next(api.ErrForm, isType))
	}
	return l
}

func (r *reader) method() api.Method {
	var m api.Method
	m.Params = r.types(r.any())
	m.Ret = r.next(api.ErrForm, isRet)
	m.Locals = r.types(r.count(api.MaxLocals - len(m.Params)))
	m.Stack = r.count(api.MaxStack)
	first := r.at
	size := r.any()
	size |= r.any() << 8
	switch {
	case size > api.MaxCode:
		r.refuse(first, api.ErrMany)
	case size == 0:
		r.refuse(first, api.ErrEnd)
	}
	for range size {
		m.Code = append(m.Code, byte(r.any()))
	}
	return m
}
