// Package abi: what the image, compiled code and the host have agreed on. No layer: chapters 24 to 27 leave it to the program.
package abi

import (
	"brazier/api"
	"brazier/layout"
)

// Calls of the host, by the number of their SVC.
const (
	Trap  = iota + 1 // X0: which trap; X1: the method; X2: the place
	End              // the thread has ended
	New              // X0: an object that is there now; X1: how many slots; X3: its kind
	Spawn            // X1: the object; X3: the method. X0: the thread, 0: none
	Join             // X1: the thread. X0: whether there is such a one; waits till it has ended
	Print            // X1
	Hot              // X9: the method that is called. X0: where it is to be laid down, 0: it is not; X10: how many lines
	Line             // X11: a line of code that is laid down. X0 to X7: what stands there
	Told             // X9: the method whose code is told
)

// Registers that keep what they are all the time.
const (
	Locals  = 19 // where the frame's locals lie; its stack lies behind them
	Place   = 20 // the bytecode that is interpreted
	Top     = 21 // behind the topmost value, while it is interpreted
	Method  = 22 // which one is interpreted
	Control = 23 // behind the topmost word of the control stack
	Tag     = 24 // the core and one: who holds a monitor
	Limit   = 25 // where the control stack is full
	Four    = 26
	Vector  = 27 // Dispatch
	Tables  = 28
	Half    = 29 // 32
)

// Registers by which routines are called, and by which compiled code keeps where it is.
const (
	Callee   = 9
	NewFrame = 12
	InMethod = 14
	AtPlace  = 15
	Word     = 16 // a word of the control stack
)

// Routines of the image, by the place of their words in it: each goes on to the routine itself.
const (
	ToTrap   = iota // as the host's
	ToNew           // X1: how many slots; X3: the kind. X0: the object; X2: a trap, or 0
	ToLock          // X1: the object
	ToUnlock        // X1: the object. X2: a trap, or 0
	ToCall          // Callee, NewFrame, InMethod, AtPlace. X0: what it tells
	ToLeave         // X0: what the method tells
	routines
)

// Routine tells where a routine is called.
func Routine(n int) uint64 {
	return layout.Image + 4*uint64(n)
}

// Bytecodes that the tables have in place of those of volatile fields.
const (
	GetVolatile = 41 + iota
	PutVolatile
	Bytecodes // how many the interpreter knows
)

// Dispatch is where the words lie that go on to what does a bytecode.
const Dispatch = layout.Image + 4*routines

// What lies in the tables, as bytes from their beginning; rows have a number a method, a class, a constant.
const (
	Heap    = 0  // where the next object will be
	Entries = 64 // on a line of their own
	Codes   = Entries + 8*api.MaxMethods
	Params  = Codes + 8*api.MaxMethods // bytes
	Others  = Params + 8*api.MaxMethods
	Tells   = Others + 8*api.MaxMethods // whether a method tells a value
	Sizes   = Tells + 8*api.MaxMethods  // slots of a class
	Pool    = Sizes + 8*api.MaxClasses
	Bytes   = Pool + 8*api.MaxPool // the methods' bytecodes
)

// A word of the control stack: where to return to, and what an interpreted caller needs then, from these bits on.
const (
	AddressBits = 22
	FrameBit    = AddressBits // how far the new frame lies from the old one
	PlaceBit    = 32          // the bytecode, from the tables' beginning
	MethodBit   = 56
)

// Stack tells where a core's control stack begins and is full, and where its frames begin.
func Stack(core, depth int) (control, limit, frames uint64) {
	lo, _ := layout.Stack(core)
	return lo, lo + 8*uint64(depth), lo + 8*api.MaxDepth
}
