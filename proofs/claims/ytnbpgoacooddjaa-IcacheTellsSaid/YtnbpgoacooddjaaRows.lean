/-
  No cell of these rows narrows 'for every input' (looked for: loops, veiled, ifaces, maps, wideKeys, modest, calm, conditions, laid).
  DERIVED. THE GIVEN ROWS OF THIS SEAT. 10 by the template 'for every input the law returns true; each argument reads behind the call as it read before'; 0 by the template 'total and deterministic' (their statements: YtnbpgoacooddjaaTotals.lean).
  GIVEN WITH THE SEED: the statements are not yours to turn. If you find one false, say at which input.
  Laid BY PROGRAM, IN A SANDBOX (cutbox-rows.mjs): the forced cells as the released guide's own fill.sh prints them over the translation e49fe252a16ae1ed… (all of the seat's roots in one cut). By AI agents, Wed Nov 11 2026. No macro, syntax, notation, axiom, sorry.
-/
import Derived.Test.YtnbpgoacooddjaaChecked
import GoSem.Claim
import GoSem.ClaimJoined
import GoSem.ClaimMapViews
import Derived.JoinedTies
import Derived.KernelRfl
namespace Go.Proofs.Ytnbpgoacooddjaa
/- THE CELL 'sum', in the pinned program and in every row, IS THE sha256 OF THE DUMP (.gsa) THAT YtnbpgoacooddjaaProg.lean LOADS. Nothing in Lean hashes anything: it is a label: what it is worth is what the hold of that sum in a sandbox is worth. -/
noncomputable def Try.pinned : Pinned := { name := "ytnbpgoacooddjaa", sum := "e49fe252a16ae1edb5cd67b699554e9a4e37edf71d92ee86225805eaca0b2133", checked := Try.checked }
namespace Rows
def none {H : Type} : Left H := { results := [], args := [] }

/-- 'brazierlaw9.WinFirst': WHATEVER THE INPUT: true; the input reads as it did. -/
def winFirstSpec : ChangeSpec := { name := "winFirst", fn := fun _ => fun
  | [d1, d2] => { results := [.lit (.bool true)], args := [d1, d2] }
  | _ => none }
def winFirstRow : OpenClaim := { program := "ytnbpgoacooddjaa", sum := "e49fe252a16ae1edb5cd67b699554e9a4e37edf71d92ee86225805eaca0b2133", func := "brazier/brazierlaw9.WinFirst", spec := "winFirst", unfollowed := true, recurses := true, plainKeys := false, apart := false }
def WinFirstSaid : Prop := winFirstRow.holds Try.pinned (OpenSpec.ofChange winFirstSpec)

/-- ITS FALSE NEIGHBOUR: 'it returns false'. Refute it at one input. -/
def winFirstWrong : ChangeSpec := { name := "winFirst", fn := fun _ => fun
  | [d1, d2] => { results := [.lit (.bool false)], args := [d1, d2] }
  | _ => none }
def WinFirstWrongFalsely : Prop := winFirstRow.holds Try.pinned (OpenSpec.ofChange winFirstWrong)

/-- 'brazierlaw9.WinBarriers': WHATEVER THE INPUT: true; the input reads as it did. -/
def winBarriersSpec : ChangeSpec := { name := "winBarriers", fn := fun _ => fun
  | [d1, d2, d3, d4] => { results := [.lit (.bool true)], args := [d1, d2, d3, d4] }
  | _ => none }
def winBarriersRow : OpenClaim := { program := "ytnbpgoacooddjaa", sum := "e49fe252a16ae1edb5cd67b699554e9a4e37edf71d92ee86225805eaca0b2133", func := "brazier/brazierlaw9.WinBarriers", spec := "winBarriers", unfollowed := true, recurses := true, plainKeys := false, apart := false }
def WinBarriersSaid : Prop := winBarriersRow.holds Try.pinned (OpenSpec.ofChange winBarriersSpec)

/-- ITS FALSE NEIGHBOUR: 'it returns false'. Refute it at one input. -/
def winBarriersWrong : ChangeSpec := { name := "winBarriers", fn := fun _ => fun
  | [d1, d2, d3, d4] => { results := [.lit (.bool false)], args := [d1, d2, d3, d4] }
  | _ => none }
def WinBarriersWrongFalsely : Prop := winBarriersRow.holds Try.pinned (OpenSpec.ofChange winBarriersWrong)

/-- 'brazierlaw9.WinForwards': WHATEVER THE INPUT: true; the input reads as it did. -/
def winForwardsSpec : ChangeSpec := { name := "winForwards", fn := fun _ => fun
  | [d1, d2] => { results := [.lit (.bool true)], args := [d1, d2] }
  | _ => none }
def winForwardsRow : OpenClaim := { program := "ytnbpgoacooddjaa", sum := "e49fe252a16ae1edb5cd67b699554e9a4e37edf71d92ee86225805eaca0b2133", func := "brazier/brazierlaw9.WinForwards", spec := "winForwards", unfollowed := true, recurses := true, plainKeys := false, apart := false }
def WinForwardsSaid : Prop := winForwardsRow.holds Try.pinned (OpenSpec.ofChange winForwardsSpec)

/-- ITS FALSE NEIGHBOUR: 'it returns false'. Refute it at one input. -/
def winForwardsWrong : ChangeSpec := { name := "winForwards", fn := fun _ => fun
  | [d1, d2] => { results := [.lit (.bool false)], args := [d1, d2] }
  | _ => none }
def WinForwardsWrongFalsely : Prop := winForwardsRow.holds Try.pinned (OpenSpec.ofChange winForwardsWrong)

/-- 'brazierlaw23.LabConsts': WHATEVER THE INPUT: true; the input reads as it did. -/
def labConstsSpec : ChangeSpec := { name := "labConsts", fn := fun _ => fun
  | [d1, d2, d3] => { results := [.lit (.bool true)], args := [d1, d2, d3] }
  | _ => none }
def labConstsRow : OpenClaim := { program := "ytnbpgoacooddjaa", sum := "e49fe252a16ae1edb5cd67b699554e9a4e37edf71d92ee86225805eaca0b2133", func := "brazier/brazierlaw23.LabConsts", spec := "labConsts", unfollowed := true, recurses := true, plainKeys := false, apart := false }
def LabConstsSaid : Prop := labConstsRow.holds Try.pinned (OpenSpec.ofChange labConstsSpec)

/-- ITS FALSE NEIGHBOUR: 'it returns false'. Refute it at one input. -/
def labConstsWrong : ChangeSpec := { name := "labConsts", fn := fun _ => fun
  | [d1, d2, d3] => { results := [.lit (.bool false)], args := [d1, d2, d3] }
  | _ => none }
def LabConstsWrongFalsely : Prop := labConstsRow.holds Try.pinned (OpenSpec.ofChange labConstsWrong)

/-- 'brazierlaw23.LabJumps': WHATEVER THE INPUT: true; the input reads as it did. -/
def labJumpsSpec : ChangeSpec := { name := "labJumps", fn := fun _ => fun
  | [d1, d2, d3, d4] => { results := [.lit (.bool true)], args := [d1, d2, d3, d4] }
  | _ => none }
def labJumpsRow : OpenClaim := { program := "ytnbpgoacooddjaa", sum := "e49fe252a16ae1edb5cd67b699554e9a4e37edf71d92ee86225805eaca0b2133", func := "brazier/brazierlaw23.LabJumps", spec := "labJumps", unfollowed := true, recurses := true, plainKeys := false, apart := false }
def LabJumpsSaid : Prop := labJumpsRow.holds Try.pinned (OpenSpec.ofChange labJumpsSpec)

/-- ITS FALSE NEIGHBOUR: 'it returns false'. Refute it at one input. -/
def labJumpsWrong : ChangeSpec := { name := "labJumps", fn := fun _ => fun
  | [d1, d2, d3, d4] => { results := [.lit (.bool false)], args := [d1, d2, d3, d4] }
  | _ => none }
def LabJumpsWrongFalsely : Prop := labJumpsRow.holds Try.pinned (OpenSpec.ofChange labJumpsWrong)

/-- 'brazierlaw23.LabBack': WHATEVER THE INPUT: true; the input reads as it did. -/
def labBackSpec : ChangeSpec := { name := "labBack", fn := fun _ => fun
  | [d1, d2, d3] => { results := [.lit (.bool true)], args := [d1, d2, d3] }
  | _ => none }
def labBackRow : OpenClaim := { program := "ytnbpgoacooddjaa", sum := "e49fe252a16ae1edb5cd67b699554e9a4e37edf71d92ee86225805eaca0b2133", func := "brazier/brazierlaw23.LabBack", spec := "labBack", unfollowed := true, recurses := true, plainKeys := false, apart := false }
def LabBackSaid : Prop := labBackRow.holds Try.pinned (OpenSpec.ofChange labBackSpec)

/-- ITS FALSE NEIGHBOUR: 'it returns false'. Refute it at one input. -/
def labBackWrong : ChangeSpec := { name := "labBack", fn := fun _ => fun
  | [d1, d2, d3] => { results := [.lit (.bool false)], args := [d1, d2, d3] }
  | _ => none }
def LabBackWrongFalsely : Prop := labBackRow.holds Try.pinned (OpenSpec.ofChange labBackWrong)

/-- 'brazierlaw23.LabPlays': WHATEVER THE INPUT: true; the input reads as it did. -/
def labPlaysSpec : ChangeSpec := { name := "labPlays", fn := fun _ => fun
  | [d1, d2, d3] => { results := [.lit (.bool true)], args := [d1, d2, d3] }
  | _ => none }
def labPlaysRow : OpenClaim := { program := "ytnbpgoacooddjaa", sum := "e49fe252a16ae1edb5cd67b699554e9a4e37edf71d92ee86225805eaca0b2133", func := "brazier/brazierlaw23.LabPlays", spec := "labPlays", unfollowed := true, recurses := true, plainKeys := false, apart := false }
def LabPlaysSaid : Prop := labPlaysRow.holds Try.pinned (OpenSpec.ofChange labPlaysSpec)

/-- ITS FALSE NEIGHBOUR: 'it returns false'. Refute it at one input. -/
def labPlaysWrong : ChangeSpec := { name := "labPlays", fn := fun _ => fun
  | [d1, d2, d3] => { results := [.lit (.bool false)], args := [d1, d2, d3] }
  | _ => none }
def LabPlaysWrongFalsely : Prop := labPlaysRow.holds Try.pinned (OpenSpec.ofChange labPlaysWrong)

/-- 'brazierlaw10.IcacheApart': WHATEVER THE INPUT: true; the input reads as it did. -/
def icacheApartSpec : ChangeSpec := { name := "icacheApart", fn := fun _ => fun
  | [d1, d2, d3, d4] => { results := [.lit (.bool true)], args := [d1, d2, d3, d4] }
  | _ => none }
def icacheApartRow : OpenClaim := { program := "ytnbpgoacooddjaa", sum := "e49fe252a16ae1edb5cd67b699554e9a4e37edf71d92ee86225805eaca0b2133", func := "brazier/brazierlaw10.IcacheApart", spec := "icacheApart", unfollowed := true, recurses := true, plainKeys := false, apart := false }
def IcacheApartSaid : Prop := icacheApartRow.holds Try.pinned (OpenSpec.ofChange icacheApartSpec)

/-- ITS FALSE NEIGHBOUR: 'it returns false'. Refute it at one input. -/
def icacheApartWrong : ChangeSpec := { name := "icacheApart", fn := fun _ => fun
  | [d1, d2, d3, d4] => { results := [.lit (.bool false)], args := [d1, d2, d3, d4] }
  | _ => none }
def IcacheApartWrongFalsely : Prop := icacheApartRow.holds Try.pinned (OpenSpec.ofChange icacheApartWrong)

/-- 'brazierlaw10.IcacheTells': WHATEVER THE INPUT: true; the input reads as it did. -/
def icacheTellsSpec : ChangeSpec := { name := "icacheTells", fn := fun _ => fun
  | [d1, d2, d3, d4, d5, d6] => { results := [.lit (.bool true)], args := [d1, d2, d3, d4, d5, d6] }
  | _ => none }
def icacheTellsRow : OpenClaim := { program := "ytnbpgoacooddjaa", sum := "e49fe252a16ae1edb5cd67b699554e9a4e37edf71d92ee86225805eaca0b2133", func := "brazier/brazierlaw10.IcacheTells", spec := "icacheTells", unfollowed := true, recurses := true, plainKeys := false, apart := false }
def IcacheTellsSaid : Prop := icacheTellsRow.holds Try.pinned (OpenSpec.ofChange icacheTellsSpec)

/-- ITS FALSE NEIGHBOUR: 'it returns false'. Refute it at one input. -/
def icacheTellsWrong : ChangeSpec := { name := "icacheTells", fn := fun _ => fun
  | [d1, d2, d3, d4, d5, d6] => { results := [.lit (.bool false)], args := [d1, d2, d3, d4, d5, d6] }
  | _ => none }
def IcacheTellsWrongFalsely : Prop := icacheTellsRow.holds Try.pinned (OpenSpec.ofChange icacheTellsWrong)

/-- 'brazierlaw7.MemPlays': WHATEVER THE INPUT: true; the input reads as it did. -/
def memPlaysSpec : ChangeSpec := { name := "memPlays", fn := fun _ => fun
  | [d1, d2, d3] => { results := [.lit (.bool true)], args := [d1, d2, d3] }
  | _ => none }
def memPlaysRow : OpenClaim := { program := "ytnbpgoacooddjaa", sum := "e49fe252a16ae1edb5cd67b699554e9a4e37edf71d92ee86225805eaca0b2133", func := "brazier/brazierlaw7.MemPlays", spec := "memPlays", unfollowed := true, recurses := true, plainKeys := false, apart := false }
def MemPlaysSaid : Prop := memPlaysRow.holds Try.pinned (OpenSpec.ofChange memPlaysSpec)

/-- ITS FALSE NEIGHBOUR: 'it returns false'. Refute it at one input. -/
def memPlaysWrong : ChangeSpec := { name := "memPlays", fn := fun _ => fun
  | [d1, d2, d3] => { results := [.lit (.bool false)], args := [d1, d2, d3] }
  | _ => none }
def MemPlaysWrongFalsely : Prop := memPlaysRow.holds Try.pinned (OpenSpec.ofChange memPlaysWrong)

/- THE SECOND FORM. 'bulk': how many values and letters a reading holds, each counted each time it is reached (what is shared counts as often as it is met; a slice's spare places count too). A statement '..UptoSaid' is the law's where the arguments, and the package variables that the reading takes, are together of bulk at most 1048576: NARROWER than '..Said'. Prove '..Said' where nothing that the law and all that it calls make is longer than what came in: it says more and counts as full. Else prove '..UptoSaid'. A law counts once. -/
mutual
def uptoBulk {H : Type} : DataW H → Nat
  | .lit (.string bytes) => bytes.length + 1
  | .lit _ => 1
  | .nil => 1
  | .ptr d => uptoBulk d + 1
  | .slice elems spare => uptoBulkAll elems + uptoBulkAll spare + 1
  | .agg parts => uptoBulkAll parts + 1
  | .iface _ d => uptoBulk d + 1
  | .map entries => uptoBulkEntries entries + 1
  | .held _ => 1
def uptoBulkAll {H : Type} : List (DataW H) → Nat
  | [] => 0
  | d :: r => uptoBulk d + uptoBulkAll r
def uptoBulkEntries {H : Type} : List (Lit × DataW H) → Nat
  | [] => 0
  | x :: r => uptoBulkEntry x + uptoBulkEntries r
def uptoBulkEntry {H : Type} : Lit × DataW H → Nat
  | (.string bytes, d) => bytes.length + uptoBulk d + 1
  | (_, d) => uptoBulk d + 1
 end
def uptoSmall : (H : Type) → List (DataW H) → Bool := fun _ ds => decide (uptoBulkAll ds ≤ 1048576)
def OpenSpec.upto (s : _root_.Go.ChangeSpec) : _root_.Go.OpenSpec := { _root_.Go.OpenSpec.ofChange s with cond := some uptoSmall }

/-- 'brazierlaw9.WinFirst', WHERE WHAT IT READS IS OF BULK AT MOST 1048576: true; the input reads as it did. -/
def winFirstUptoRow : OpenClaim := { program := "ytnbpgoacooddjaa", sum := "e49fe252a16ae1edb5cd67b699554e9a4e37edf71d92ee86225805eaca0b2133", func := "brazier/brazierlaw9.WinFirst", spec := "winFirst", unfollowed := true, recurses := true, plainKeys := false, apart := false, narrowed := true }
def WinFirstUptoSaid : Prop := winFirstUptoRow.holds Try.pinned (OpenSpec.upto winFirstSpec)

/-- 'brazierlaw9.WinBarriers', WHERE WHAT IT READS IS OF BULK AT MOST 1048576: true; the input reads as it did. -/
def winBarriersUptoRow : OpenClaim := { program := "ytnbpgoacooddjaa", sum := "e49fe252a16ae1edb5cd67b699554e9a4e37edf71d92ee86225805eaca0b2133", func := "brazier/brazierlaw9.WinBarriers", spec := "winBarriers", unfollowed := true, recurses := true, plainKeys := false, apart := false, narrowed := true }
def WinBarriersUptoSaid : Prop := winBarriersUptoRow.holds Try.pinned (OpenSpec.upto winBarriersSpec)

/-- 'brazierlaw9.WinForwards', WHERE WHAT IT READS IS OF BULK AT MOST 1048576: true; the input reads as it did. -/
def winForwardsUptoRow : OpenClaim := { program := "ytnbpgoacooddjaa", sum := "e49fe252a16ae1edb5cd67b699554e9a4e37edf71d92ee86225805eaca0b2133", func := "brazier/brazierlaw9.WinForwards", spec := "winForwards", unfollowed := true, recurses := true, plainKeys := false, apart := false, narrowed := true }
def WinForwardsUptoSaid : Prop := winForwardsUptoRow.holds Try.pinned (OpenSpec.upto winForwardsSpec)

/-- 'brazierlaw23.LabConsts', WHERE WHAT IT READS IS OF BULK AT MOST 1048576: true; the input reads as it did. -/
def labConstsUptoRow : OpenClaim := { program := "ytnbpgoacooddjaa", sum := "e49fe252a16ae1edb5cd67b699554e9a4e37edf71d92ee86225805eaca0b2133", func := "brazier/brazierlaw23.LabConsts", spec := "labConsts", unfollowed := true, recurses := true, plainKeys := false, apart := false, narrowed := true }
def LabConstsUptoSaid : Prop := labConstsUptoRow.holds Try.pinned (OpenSpec.upto labConstsSpec)

/-- 'brazierlaw23.LabJumps', WHERE WHAT IT READS IS OF BULK AT MOST 1048576: true; the input reads as it did. -/
def labJumpsUptoRow : OpenClaim := { program := "ytnbpgoacooddjaa", sum := "e49fe252a16ae1edb5cd67b699554e9a4e37edf71d92ee86225805eaca0b2133", func := "brazier/brazierlaw23.LabJumps", spec := "labJumps", unfollowed := true, recurses := true, plainKeys := false, apart := false, narrowed := true }
def LabJumpsUptoSaid : Prop := labJumpsUptoRow.holds Try.pinned (OpenSpec.upto labJumpsSpec)

/-- 'brazierlaw23.LabBack', WHERE WHAT IT READS IS OF BULK AT MOST 1048576: true; the input reads as it did. -/
def labBackUptoRow : OpenClaim := { program := "ytnbpgoacooddjaa", sum := "e49fe252a16ae1edb5cd67b699554e9a4e37edf71d92ee86225805eaca0b2133", func := "brazier/brazierlaw23.LabBack", spec := "labBack", unfollowed := true, recurses := true, plainKeys := false, apart := false, narrowed := true }
def LabBackUptoSaid : Prop := labBackUptoRow.holds Try.pinned (OpenSpec.upto labBackSpec)

/-- 'brazierlaw23.LabPlays', WHERE WHAT IT READS IS OF BULK AT MOST 1048576: true; the input reads as it did. -/
def labPlaysUptoRow : OpenClaim := { program := "ytnbpgoacooddjaa", sum := "e49fe252a16ae1edb5cd67b699554e9a4e37edf71d92ee86225805eaca0b2133", func := "brazier/brazierlaw23.LabPlays", spec := "labPlays", unfollowed := true, recurses := true, plainKeys := false, apart := false, narrowed := true }
def LabPlaysUptoSaid : Prop := labPlaysUptoRow.holds Try.pinned (OpenSpec.upto labPlaysSpec)

/-- 'brazierlaw10.IcacheApart', WHERE WHAT IT READS IS OF BULK AT MOST 1048576: true; the input reads as it did. -/
def icacheApartUptoRow : OpenClaim := { program := "ytnbpgoacooddjaa", sum := "e49fe252a16ae1edb5cd67b699554e9a4e37edf71d92ee86225805eaca0b2133", func := "brazier/brazierlaw10.IcacheApart", spec := "icacheApart", unfollowed := true, recurses := true, plainKeys := false, apart := false, narrowed := true }
def IcacheApartUptoSaid : Prop := icacheApartUptoRow.holds Try.pinned (OpenSpec.upto icacheApartSpec)

/-- 'brazierlaw10.IcacheTells', WHERE WHAT IT READS IS OF BULK AT MOST 1048576: true; the input reads as it did. -/
def icacheTellsUptoRow : OpenClaim := { program := "ytnbpgoacooddjaa", sum := "e49fe252a16ae1edb5cd67b699554e9a4e37edf71d92ee86225805eaca0b2133", func := "brazier/brazierlaw10.IcacheTells", spec := "icacheTells", unfollowed := true, recurses := true, plainKeys := false, apart := false, narrowed := true }
def IcacheTellsUptoSaid : Prop := icacheTellsUptoRow.holds Try.pinned (OpenSpec.upto icacheTellsSpec)

/-- 'brazierlaw7.MemPlays', WHERE WHAT IT READS IS OF BULK AT MOST 1048576: true; the input reads as it did. -/
def memPlaysUptoRow : OpenClaim := { program := "ytnbpgoacooddjaa", sum := "e49fe252a16ae1edb5cd67b699554e9a4e37edf71d92ee86225805eaca0b2133", func := "brazier/brazierlaw7.MemPlays", spec := "memPlays", unfollowed := true, recurses := true, plainKeys := false, apart := false, narrowed := true }
def MemPlaysUptoSaid : Prop := memPlaysUptoRow.holds Try.pinned (OpenSpec.upto memPlaysSpec)

end Rows
end Go.Proofs.Ytnbpgoacooddjaa
