package abi

import (
	"slices"
	"testing"

	"brazier/api"
	"brazier/code"
	"brazier/layout"
)

func TestRegistersAreApart(t *testing.T) {
	kept := []int{Locals, Place, Top, Method, Control, Tag, Limit, Four, Vector, Tables, Half}
	used := append(slices.Clone(kept), Callee, NewFrame, InMethod, AtPlace, Word, 30)
	slices.Sort(used)
	if len(slices.Compact(slices.Clone(used))) != len(used) || used[0] < 9 || used[len(used)-1] > 30 {
		t.Errorf("%v", used)
	}
}

func TestRowsOfTheTablesAreApart(t *testing.T) {
	end := 8
	for _, r := range []struct{ at, size int }{{Entries, 8 * api.MaxMethods}, {Codes, 8 * api.MaxMethods}, {Params, 8 * api.MaxMethods}, {Others, 8 * api.MaxMethods}, {Tells, 8 * api.MaxMethods}, {Sizes, 8 * api.MaxClasses}, {Pool, 8 * api.MaxPool}, {Bytes, 0}} {
		if r.at < end || r.at%8 != 0 {
			t.Errorf("a row at %d, behind %d", r.at, end)
		}
		end = r.at + r.size
	}
	// what is found by ADDI alone
	if Heap != 0 || Sizes > 4095 || Entries%api.Line != 0 || end > layout.TableSize {
		t.Error("places in the tables")
	}
}

func TestStackP2403(t *testing.T) {
	for core := range api.MaxCores {
		lo, hi := layout.Stack(core)
		for _, depth := range []int{1, api.MaxDepth} {
			control, limit, frames := Stack(core, depth)
			if control != lo || limit != lo+8*uint64(depth) || limit > frames || frames+8*api.MaxDepth*(api.MaxLocals+api.MaxStack) > hi {
				t.Errorf("core %d: %x %x %x", core, control, limit, frames)
			}
		}
	}
}

func TestWordOfTheControlStackP2403(t *testing.T) {
	if layout.Code+4*api.MaxWords > 1<<AddressBits || 8*(api.MaxLocals+api.MaxStack) >= 1<<(PlaceBit-FrameBit) || layout.TableSize > 1<<(MethodBit-PlaceBit) || api.MaxMethods > 1<<(64-MethodBit) || FrameBit < AddressBits {
		t.Error("something does not fit")
	}
}

func TestVectorsAndBytecodes(t *testing.T) {
	if Routine(0) != layout.Image || Routine(ToLeave) != layout.Image+4*ToLeave || Dispatch != layout.Image+4*(ToLeave+1) {
		t.Error("vectors")
	}
	if code.Name(GetVolatile) != "" || code.Name(GetVolatile-1) == "" || PutVolatile != GetVolatile+1 || Bytecodes != PutVolatile+1 {
		t.Error("bytecodes")
	}
	calls := []int{Trap, End, New, Spawn, Join, Print, Hot, Line, Told}
	if !slices.IsSorted(calls) || len(slices.Compact(calls)) != 9 || Trap < 1 {
		t.Error("calls")
	}
}
