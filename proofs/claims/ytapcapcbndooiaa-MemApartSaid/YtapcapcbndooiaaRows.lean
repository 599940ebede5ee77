/-
  No cell of these rows narrows 'for every input' (looked for: loops, veiled, ifaces, maps, wideKeys, modest, calm, conditions, laid).
  DERIVED. THE GIVEN ROWS OF THIS SEAT. 12 by the template 'for every input the law returns true; each argument reads behind the call as it read before'; 0 by the template 'total and deterministic' (their statements: YtapcapcbndooiaaTotals.lean).
  GIVEN WITH THE SEED: the statements are not yours to turn. If you find one false, say at which input.
  Laid BY PROGRAM, IN A SANDBOX (cutbox-rows.mjs): the forced cells as the released guide's own fill.sh prints them over the translation b3252a158d775598… (all of the seat's roots in one cut). By AI agents, Wed Nov 11 2026. No macro, syntax, notation, axiom, sorry.
-/
import Derived.Test.YtapcapcbndooiaaChecked
import GoSem.Claim
import GoSem.ClaimJoined
import GoSem.ClaimMapViews
import Derived.JoinedTies
import Derived.KernelRfl
namespace Go.Proofs.Ytapcapcbndooiaa
/- THE CELL 'sum', in the pinned program and in every row, IS THE sha256 OF THE DUMP (.gsa) THAT YtapcapcbndooiaaProg.lean LOADS. Nothing in Lean hashes anything: it is a label: what it is worth is what the hold of that sum in a sandbox is worth. -/
noncomputable def Try.pinned : Pinned := { name := "ytapcapcbndooiaa", sum := "b3252a158d7755982a4868f0c2457a66d4c4a2a51fc97c89dd433de67aa0e993", checked := Try.checked }
namespace Rows
def none {H : Type} : Left H := { results := [], args := [] }

/-- 'brazierlaw2.A64Checks': WHATEVER THE INPUT: true; the input reads as it did. -/
def a64ChecksSpec : ChangeSpec := { name := "a64Checks", fn := fun _ => fun
  | [d] => { results := [.lit (.bool true)], args := [d] }
  | _ => none }
def a64ChecksRow : OpenClaim := { program := "ytapcapcbndooiaa", sum := "b3252a158d7755982a4868f0c2457a66d4c4a2a51fc97c89dd433de67aa0e993", func := "brazier/brazierlaw2.A64Checks", spec := "a64Checks", unfollowed := true, recurses := true, apart := false }
def A64ChecksSaid : Prop := a64ChecksRow.holds Try.pinned (OpenSpec.ofChange a64ChecksSpec)

/-- ITS FALSE NEIGHBOUR: 'it returns false'. Refute it at one input. -/
def a64ChecksWrong : ChangeSpec := { name := "a64Checks", fn := fun _ => fun
  | [d] => { results := [.lit (.bool false)], args := [d] }
  | _ => none }
def A64ChecksWrongFalsely : Prop := a64ChecksRow.holds Try.pinned (OpenSpec.ofChange a64ChecksWrong)

/-- 'brazierlaw2.A64Kinds': WHATEVER THE INPUT: true; the input reads as it did. -/
def a64KindsSpec : ChangeSpec := { name := "a64Kinds", fn := fun _ => fun
  | [d1, d2] => { results := [.lit (.bool true)], args := [d1, d2] }
  | _ => none }
def a64KindsRow : OpenClaim := { program := "ytapcapcbndooiaa", sum := "b3252a158d7755982a4868f0c2457a66d4c4a2a51fc97c89dd433de67aa0e993", func := "brazier/brazierlaw2.A64Kinds", spec := "a64Kinds", unfollowed := true, recurses := true, apart := false }
def A64KindsSaid : Prop := a64KindsRow.holds Try.pinned (OpenSpec.ofChange a64KindsSpec)

/-- ITS FALSE NEIGHBOUR: 'it returns false'. Refute it at one input. -/
def a64KindsWrong : ChangeSpec := { name := "a64Kinds", fn := fun _ => fun
  | [d1, d2] => { results := [.lit (.bool false)], args := [d1, d2] }
  | _ => none }
def A64KindsWrongFalsely : Prop := a64KindsRow.holds Try.pinned (OpenSpec.ofChange a64KindsWrong)

/-- 'brazierlaw2.A64Kin': WHATEVER THE INPUT: true; the input reads as it did. -/
def a64KinSpec : ChangeSpec := { name := "a64Kin", fn := fun _ => fun
  | [d] => { results := [.lit (.bool true)], args := [d] }
  | _ => none }
def a64KinRow : OpenClaim := { program := "ytapcapcbndooiaa", sum := "b3252a158d7755982a4868f0c2457a66d4c4a2a51fc97c89dd433de67aa0e993", func := "brazier/brazierlaw2.A64Kin", spec := "a64Kin", unfollowed := true, recurses := true, apart := false }
def A64KinSaid : Prop := a64KinRow.holds Try.pinned (OpenSpec.ofChange a64KinSpec)

/-- ITS FALSE NEIGHBOUR: 'it returns false'. Refute it at one input. -/
def a64KinWrong : ChangeSpec := { name := "a64Kin", fn := fun _ => fun
  | [d] => { results := [.lit (.bool false)], args := [d] }
  | _ => none }
def A64KinWrongFalsely : Prop := a64KinRow.holds Try.pinned (OpenSpec.ofChange a64KinWrong)

/-- 'brazierlaw2.A64Names': WHATEVER THE INPUT: true; the input reads as it did. -/
def a64NamesSpec : ChangeSpec := { name := "a64Names", fn := fun _ => fun
  | [d1, d2] => { results := [.lit (.bool true)], args := [d1, d2] }
  | _ => none }
def a64NamesRow : OpenClaim := { program := "ytapcapcbndooiaa", sum := "b3252a158d7755982a4868f0c2457a66d4c4a2a51fc97c89dd433de67aa0e993", func := "brazier/brazierlaw2.A64Names", spec := "a64Names", unfollowed := true, recurses := true, apart := false }
def A64NamesSaid : Prop := a64NamesRow.holds Try.pinned (OpenSpec.ofChange a64NamesSpec)

/-- ITS FALSE NEIGHBOUR: 'it returns false'. Refute it at one input. -/
def a64NamesWrong : ChangeSpec := { name := "a64Names", fn := fun _ => fun
  | [d1, d2] => { results := [.lit (.bool false)], args := [d1, d2] }
  | _ => none }
def A64NamesWrongFalsely : Prop := a64NamesRow.holds Try.pinned (OpenSpec.ofChange a64NamesWrong)

/-- 'brazierlaw7.MemBytes': WHATEVER THE INPUT: true; the input reads as it did. -/
def memBytesSpec : ChangeSpec := { name := "memBytes", fn := fun _ => fun
  | [d1, d2] => { results := [.lit (.bool true)], args := [d1, d2] }
  | _ => none }
def memBytesRow : OpenClaim := { program := "ytapcapcbndooiaa", sum := "b3252a158d7755982a4868f0c2457a66d4c4a2a51fc97c89dd433de67aa0e993", func := "brazier/brazierlaw7.MemBytes", spec := "memBytes", unfollowed := true, recurses := true, apart := false }
def MemBytesSaid : Prop := memBytesRow.holds Try.pinned (OpenSpec.ofChange memBytesSpec)

/-- ITS FALSE NEIGHBOUR: 'it returns false'. Refute it at one input. -/
def memBytesWrong : ChangeSpec := { name := "memBytes", fn := fun _ => fun
  | [d1, d2] => { results := [.lit (.bool false)], args := [d1, d2] }
  | _ => none }
def MemBytesWrongFalsely : Prop := memBytesRow.holds Try.pinned (OpenSpec.ofChange memBytesWrong)

/-- 'brazierlaw7.MemApart': WHATEVER THE INPUT: true; the input reads as it did. -/
def memApartSpec : ChangeSpec := { name := "memApart", fn := fun _ => fun
  | [d1, d2, d3, d4] => { results := [.lit (.bool true)], args := [d1, d2, d3, d4] }
  | _ => none }
def memApartRow : OpenClaim := { program := "ytapcapcbndooiaa", sum := "b3252a158d7755982a4868f0c2457a66d4c4a2a51fc97c89dd433de67aa0e993", func := "brazier/brazierlaw7.MemApart", spec := "memApart", unfollowed := true, recurses := true, apart := false }
def MemApartSaid : Prop := memApartRow.holds Try.pinned (OpenSpec.ofChange memApartSpec)

/-- ITS FALSE NEIGHBOUR: 'it returns false'. Refute it at one input. -/
def memApartWrong : ChangeSpec := { name := "memApart", fn := fun _ => fun
  | [d1, d2, d3, d4] => { results := [.lit (.bool false)], args := [d1, d2, d3, d4] }
  | _ => none }
def MemApartWrongFalsely : Prop := memApartRow.holds Try.pinned (OpenSpec.ofChange memApartWrong)

/-- 'brazierlaw16.HeapRooms': WHATEVER THE INPUT: true; the input reads as it did. -/
def heapRoomsSpec : ChangeSpec := { name := "heapRooms", fn := fun _ => fun
  | [d1, d2] => { results := [.lit (.bool true)], args := [d1, d2] }
  | _ => none }
def heapRoomsRow : OpenClaim := { program := "ytapcapcbndooiaa", sum := "b3252a158d7755982a4868f0c2457a66d4c4a2a51fc97c89dd433de67aa0e993", func := "brazier/brazierlaw16.HeapRooms", spec := "heapRooms", unfollowed := true, recurses := true, apart := false }
def HeapRoomsSaid : Prop := heapRoomsRow.holds Try.pinned (OpenSpec.ofChange heapRoomsSpec)

/-- ITS FALSE NEIGHBOUR: 'it returns false'. Refute it at one input. -/
def heapRoomsWrong : ChangeSpec := { name := "heapRooms", fn := fun _ => fun
  | [d1, d2] => { results := [.lit (.bool false)], args := [d1, d2] }
  | _ => none }
def HeapRoomsWrongFalsely : Prop := heapRoomsRow.holds Try.pinned (OpenSpec.ofChange heapRoomsWrong)

/-- 'brazierlaw16.HeapMonitors': WHATEVER THE INPUT: true; the input reads as it did. -/
def heapMonitorsSpec : ChangeSpec := { name := "heapMonitors", fn := fun _ => fun
  | [d] => { results := [.lit (.bool true)], args := [d] }
  | _ => none }
def heapMonitorsRow : OpenClaim := { program := "ytapcapcbndooiaa", sum := "b3252a158d7755982a4868f0c2457a66d4c4a2a51fc97c89dd433de67aa0e993", func := "brazier/brazierlaw16.HeapMonitors", spec := "heapMonitors", unfollowed := true, recurses := true, apart := false }
def HeapMonitorsSaid : Prop := heapMonitorsRow.holds Try.pinned (OpenSpec.ofChange heapMonitorsSpec)

/-- ITS FALSE NEIGHBOUR: 'it returns false'. Refute it at one input. -/
def heapMonitorsWrong : ChangeSpec := { name := "heapMonitors", fn := fun _ => fun
  | [d] => { results := [.lit (.bool false)], args := [d] }
  | _ => none }
def HeapMonitorsWrongFalsely : Prop := heapMonitorsRow.holds Try.pinned (OpenSpec.ofChange heapMonitorsWrong)

/-- 'brazierlaw22.LayoutPlaces': WHATEVER THE INPUT: true; the input reads as it did. -/
def layoutPlacesSpec : ChangeSpec := { name := "layoutPlaces", fn := fun _ => fun
  | [d1, d2, d3, d4, d5, d6] => { results := [.lit (.bool true)], args := [d1, d2, d3, d4, d5, d6] }
  | _ => none }
def layoutPlacesRow : OpenClaim := { program := "ytapcapcbndooiaa", sum := "b3252a158d7755982a4868f0c2457a66d4c4a2a51fc97c89dd433de67aa0e993", func := "brazier/brazierlaw22.LayoutPlaces", spec := "layoutPlaces", apart := false }
def LayoutPlacesSaid : Prop := layoutPlacesRow.holds Try.pinned (OpenSpec.ofChange layoutPlacesSpec)

/-- ITS FALSE NEIGHBOUR: 'it returns false'. Refute it at one input. -/
def layoutPlacesWrong : ChangeSpec := { name := "layoutPlaces", fn := fun _ => fun
  | [d1, d2, d3, d4, d5, d6] => { results := [.lit (.bool false)], args := [d1, d2, d3, d4, d5, d6] }
  | _ => none }
def LayoutPlacesWrongFalsely : Prop := layoutPlacesRow.holds Try.pinned (OpenSpec.ofChange layoutPlacesWrong)

/-- 'brazierlaw22.LayoutApart': WHATEVER THE INPUT: true; the input reads as it did. -/
def layoutApartSpec : ChangeSpec := { name := "layoutApart", fn := fun _ => fun
  | [d1, d2, d3, d4] => { results := [.lit (.bool true)], args := [d1, d2, d3, d4] }
  | _ => none }
def layoutApartRow : OpenClaim := { program := "ytapcapcbndooiaa", sum := "b3252a158d7755982a4868f0c2457a66d4c4a2a51fc97c89dd433de67aa0e993", func := "brazier/brazierlaw22.LayoutApart", spec := "layoutApart", unfollowed := true, recurses := true, apart := false }
def LayoutApartSaid : Prop := layoutApartRow.holds Try.pinned (OpenSpec.ofChange layoutApartSpec)

/-- ITS FALSE NEIGHBOUR: 'it returns false'. Refute it at one input. -/
def layoutApartWrong : ChangeSpec := { name := "layoutApart", fn := fun _ => fun
  | [d1, d2, d3, d4] => { results := [.lit (.bool false)], args := [d1, d2, d3, d4] }
  | _ => none }
def LayoutApartWrongFalsely : Prop := layoutApartRow.holds Try.pinned (OpenSpec.ofChange layoutApartWrong)

/-- 'brazierlaw22.LayoutSlots': WHATEVER THE INPUT: true; the input reads as it did. -/
def layoutSlotsSpec : ChangeSpec := { name := "layoutSlots", fn := fun _ => fun
  | [d1, d2, d3, d4, d5] => { results := [.lit (.bool true)], args := [d1, d2, d3, d4, d5] }
  | _ => none }
def layoutSlotsRow : OpenClaim := { program := "ytapcapcbndooiaa", sum := "b3252a158d7755982a4868f0c2457a66d4c4a2a51fc97c89dd433de67aa0e993", func := "brazier/brazierlaw22.LayoutSlots", spec := "layoutSlots", apart := false }
def LayoutSlotsSaid : Prop := layoutSlotsRow.holds Try.pinned (OpenSpec.ofChange layoutSlotsSpec)

/-- ITS FALSE NEIGHBOUR: 'it returns false'. Refute it at one input. -/
def layoutSlotsWrong : ChangeSpec := { name := "layoutSlots", fn := fun _ => fun
  | [d1, d2, d3, d4, d5] => { results := [.lit (.bool false)], args := [d1, d2, d3, d4, d5] }
  | _ => none }
def LayoutSlotsWrongFalsely : Prop := layoutSlotsRow.holds Try.pinned (OpenSpec.ofChange layoutSlotsWrong)

/-- 'brazierlaw26.CacheApart': WHATEVER THE INPUT: true; the input reads as it did. -/
def cacheApartSpec : ChangeSpec := { name := "cacheApart", fn := fun _ => fun
  | [d1, d2] => { results := [.lit (.bool true)], args := [d1, d2] }
  | _ => none }
def cacheApartRow : OpenClaim := { program := "ytapcapcbndooiaa", sum := "b3252a158d7755982a4868f0c2457a66d4c4a2a51fc97c89dd433de67aa0e993", func := "brazier/brazierlaw26.CacheApart", spec := "cacheApart", unfollowed := true, recurses := true, apart := false }
def CacheApartSaid : Prop := cacheApartRow.holds Try.pinned (OpenSpec.ofChange cacheApartSpec)

/-- ITS FALSE NEIGHBOUR: 'it returns false'. Refute it at one input. -/
def cacheApartWrong : ChangeSpec := { name := "cacheApart", fn := fun _ => fun
  | [d1, d2] => { results := [.lit (.bool false)], args := [d1, d2] }
  | _ => none }
def CacheApartWrongFalsely : Prop := cacheApartRow.holds Try.pinned (OpenSpec.ofChange cacheApartWrong)

/- THE SECOND FORM. 'bulk': how many values and letters a reading holds, each counted each time it is reached (what is shared counts as often as it is met; a slice's spare places count too). A statement '..UptoSaid' is the law's where the arguments, and the package variables that the reading takes, are together of bulk at most 1048576: NARROWER than '..Said'. Prove '..Said' where nothing that the law and all that it calls make is longer than what came in: it says more and counts as full. Else prove '..UptoSaid'. A law counts once. -/
mutual
def uptoBulk {H : Type} : DataW H → Nat
  | .lit (.string bytes) => bytes.length + 1
  | .lit _ => 1
  | .nil => 1
  | .ptr d => uptoBulk d + 1
  | .slice elems spare => uptoBulkAll elems + uptoBulkAll spare + 1
  | .agg parts => uptoBulkAll parts + 1
  | .iface _ d => uptoBulk d + 1
  | .map entries => uptoBulkEntries entries + 1
  | .held _ => 1
def uptoBulkAll {H : Type} : List (DataW H) → Nat
  | [] => 0
  | d :: r => uptoBulk d + uptoBulkAll r
def uptoBulkEntries {H : Type} : List (Lit × DataW H) → Nat
  | [] => 0
  | x :: r => uptoBulkEntry x + uptoBulkEntries r
def uptoBulkEntry {H : Type} : Lit × DataW H → Nat
  | (.string bytes, d) => bytes.length + uptoBulk d + 1
  | (_, d) => uptoBulk d + 1
 end
def uptoSmall : (H : Type) → List (DataW H) → Bool := fun _ ds => decide (uptoBulkAll ds ≤ 1048576)
def OpenSpec.upto (s : _root_.Go.ChangeSpec) : _root_.Go.OpenSpec := { _root_.Go.OpenSpec.ofChange s with cond := some uptoSmall }

/-- 'brazierlaw2.A64Checks', WHERE WHAT IT READS IS OF BULK AT MOST 1048576: true; the input reads as it did. -/
def a64ChecksUptoRow : OpenClaim := { program := "ytapcapcbndooiaa", sum := "b3252a158d7755982a4868f0c2457a66d4c4a2a51fc97c89dd433de67aa0e993", func := "brazier/brazierlaw2.A64Checks", spec := "a64Checks", unfollowed := true, recurses := true, apart := false, narrowed := true }
def A64ChecksUptoSaid : Prop := a64ChecksUptoRow.holds Try.pinned (OpenSpec.upto a64ChecksSpec)

/-- 'brazierlaw2.A64Kinds', WHERE WHAT IT READS IS OF BULK AT MOST 1048576: true; the input reads as it did. -/
def a64KindsUptoRow : OpenClaim := { program := "ytapcapcbndooiaa", sum := "b3252a158d7755982a4868f0c2457a66d4c4a2a51fc97c89dd433de67aa0e993", func := "brazier/brazierlaw2.A64Kinds", spec := "a64Kinds", unfollowed := true, recurses := true, apart := false, narrowed := true }
def A64KindsUptoSaid : Prop := a64KindsUptoRow.holds Try.pinned (OpenSpec.upto a64KindsSpec)

/-- 'brazierlaw2.A64Kin', WHERE WHAT IT READS IS OF BULK AT MOST 1048576: true; the input reads as it did. -/
def a64KinUptoRow : OpenClaim := { program := "ytapcapcbndooiaa", sum := "b3252a158d7755982a4868f0c2457a66d4c4a2a51fc97c89dd433de67aa0e993", func := "brazier/brazierlaw2.A64Kin", spec := "a64Kin", unfollowed := true, recurses := true, apart := false, narrowed := true }
def A64KinUptoSaid : Prop := a64KinUptoRow.holds Try.pinned (OpenSpec.upto a64KinSpec)

/-- 'brazierlaw2.A64Names', WHERE WHAT IT READS IS OF BULK AT MOST 1048576: true; the input reads as it did. -/
def a64NamesUptoRow : OpenClaim := { program := "ytapcapcbndooiaa", sum := "b3252a158d7755982a4868f0c2457a66d4c4a2a51fc97c89dd433de67aa0e993", func := "brazier/brazierlaw2.A64Names", spec := "a64Names", unfollowed := true, recurses := true, apart := false, narrowed := true }
def A64NamesUptoSaid : Prop := a64NamesUptoRow.holds Try.pinned (OpenSpec.upto a64NamesSpec)

/-- 'brazierlaw7.MemBytes', WHERE WHAT IT READS IS OF BULK AT MOST 1048576: true; the input reads as it did. -/
def memBytesUptoRow : OpenClaim := { program := "ytapcapcbndooiaa", sum := "b3252a158d7755982a4868f0c2457a66d4c4a2a51fc97c89dd433de67aa0e993", func := "brazier/brazierlaw7.MemBytes", spec := "memBytes", unfollowed := true, recurses := true, apart := false, narrowed := true }
def MemBytesUptoSaid : Prop := memBytesUptoRow.holds Try.pinned (OpenSpec.upto memBytesSpec)

/-- 'brazierlaw7.MemApart', WHERE WHAT IT READS IS OF BULK AT MOST 1048576: true; the input reads as it did. -/
def memApartUptoRow : OpenClaim := { program := "ytapcapcbndooiaa", sum := "b3252a158d7755982a4868f0c2457a66d4c4a2a51fc97c89dd433de67aa0e993", func := "brazier/brazierlaw7.MemApart", spec := "memApart", unfollowed := true, recurses := true, apart := false, narrowed := true }
def MemApartUptoSaid : Prop := memApartUptoRow.holds Try.pinned (OpenSpec.upto memApartSpec)

/-- 'brazierlaw16.HeapRooms', WHERE WHAT IT READS IS OF BULK AT MOST 1048576: true; the input reads as it did. -/
def heapRoomsUptoRow : OpenClaim := { program := "ytapcapcbndooiaa", sum := "b3252a158d7755982a4868f0c2457a66d4c4a2a51fc97c89dd433de67aa0e993", func := "brazier/brazierlaw16.HeapRooms", spec := "heapRooms", unfollowed := true, recurses := true, apart := false, narrowed := true }
def HeapRoomsUptoSaid : Prop := heapRoomsUptoRow.holds Try.pinned (OpenSpec.upto heapRoomsSpec)

/-- 'brazierlaw16.HeapMonitors', WHERE WHAT IT READS IS OF BULK AT MOST 1048576: true; the input reads as it did. -/
def heapMonitorsUptoRow : OpenClaim := { program := "ytapcapcbndooiaa", sum := "b3252a158d7755982a4868f0c2457a66d4c4a2a51fc97c89dd433de67aa0e993", func := "brazier/brazierlaw16.HeapMonitors", spec := "heapMonitors", unfollowed := true, recurses := true, apart := false, narrowed := true }
def HeapMonitorsUptoSaid : Prop := heapMonitorsUptoRow.holds Try.pinned (OpenSpec.upto heapMonitorsSpec)

/-- 'brazierlaw22.LayoutPlaces', WHERE WHAT IT READS IS OF BULK AT MOST 1048576: true; the input reads as it did. -/
def layoutPlacesUptoRow : OpenClaim := { program := "ytapcapcbndooiaa", sum := "b3252a158d7755982a4868f0c2457a66d4c4a2a51fc97c89dd433de67aa0e993", func := "brazier/brazierlaw22.LayoutPlaces", spec := "layoutPlaces", apart := false, narrowed := true }
def LayoutPlacesUptoSaid : Prop := layoutPlacesUptoRow.holds Try.pinned (OpenSpec.upto layoutPlacesSpec)

/-- 'brazierlaw22.LayoutApart', WHERE WHAT IT READS IS OF BULK AT MOST 1048576: true; the input reads as it did. -/
def layoutApartUptoRow : OpenClaim := { program := "ytapcapcbndooiaa", sum := "b3252a158d7755982a4868f0c2457a66d4c4a2a51fc97c89dd433de67aa0e993", func := "brazier/brazierlaw22.LayoutApart", spec := "layoutApart", unfollowed := true, recurses := true, apart := false, narrowed := true }
def LayoutApartUptoSaid : Prop := layoutApartUptoRow.holds Try.pinned (OpenSpec.upto layoutApartSpec)

/-- 'brazierlaw22.LayoutSlots', WHERE WHAT IT READS IS OF BULK AT MOST 1048576: true; the input reads as it did. -/
def layoutSlotsUptoRow : OpenClaim := { program := "ytapcapcbndooiaa", sum := "b3252a158d7755982a4868f0c2457a66d4c4a2a51fc97c89dd433de67aa0e993", func := "brazier/brazierlaw22.LayoutSlots", spec := "layoutSlots", apart := false, narrowed := true }
def LayoutSlotsUptoSaid : Prop := layoutSlotsUptoRow.holds Try.pinned (OpenSpec.upto layoutSlotsSpec)

/-- 'brazierlaw26.CacheApart', WHERE WHAT IT READS IS OF BULK AT MOST 1048576: true; the input reads as it did. -/
def cacheApartUptoRow : OpenClaim := { program := "ytapcapcbndooiaa", sum := "b3252a158d7755982a4868f0c2457a66d4c4a2a51fc97c89dd433de67aa0e993", func := "brazier/brazierlaw26.CacheApart", spec := "cacheApart", unfollowed := true, recurses := true, apart := false, narrowed := true }
def CacheApartUptoSaid : Prop := cacheApartUptoRow.holds Try.pinned (OpenSpec.upto cacheApartSpec)

end Rows
end Go.Proofs.Ytapcapcbndooiaa
