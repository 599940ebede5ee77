/-
  No cell of these rows narrows 'for every input' (looked for: loops, veiled, ifaces, maps, wideKeys, modest, calm, conditions, laid).
  DERIVED. THE GIVEN ROWS OF THIS SEAT. 5 by the template 'for every input the law returns true; each argument reads behind the call as it read before'; 0 by the template 'total and deterministic' (their statements: YtejdlhafdnpcmaaTotals.lean).
  GIVEN WITH THE SEED: the statements are not yours to turn. If you find one false, say at which input.
  Laid BY PROGRAM, IN A SANDBOX (cutbox-rows.mjs): the forced cells as the released guide's own fill.sh prints them over the translation 870bb9b9009acbef… (all of the seat's roots in one cut). By AI agents, Wed Nov 11 2026. No macro, syntax, notation, axiom, sorry.
-/
import Derived.Test.YtejdlhafdnpcmaaChecked
import GoSem.Claim
import GoSem.ClaimJoined
import GoSem.ClaimMapViews
import Derived.JoinedTies
import Derived.KernelRfl
namespace Go.Proofs.Ytejdlhafdnpcmaa
/- THE CELL 'sum', in the pinned program and in every row, IS THE sha256 OF THE DUMP (.gsa) THAT YtejdlhafdnpcmaaProg.lean LOADS. Nothing in Lean hashes anything: it is a label: what it is worth is what the hold of that sum in a sandbox is worth. -/
noncomputable def Try.pinned : Pinned := { name := "ytejdlhafdnpcmaa", sum := "870bb9b9009acbef21c9530612199f3f126833c11af32deb02398f227792eb6a", checked := Try.checked }
namespace Rows
def none {H : Type} : Left H := { results := [], args := [] }

/-- 'brazierlaw2.A64Checks': WHATEVER THE INPUT: true; the input reads as it did. -/
def a64ChecksSpec : ChangeSpec := { name := "a64Checks", fn := fun _ => fun
  | [d] => { results := [.lit (.bool true)], args := [d] }
  | _ => none }
def a64ChecksRow : OpenClaim := { program := "ytejdlhafdnpcmaa", sum := "870bb9b9009acbef21c9530612199f3f126833c11af32deb02398f227792eb6a", func := "brazier/brazierlaw2.A64Checks", spec := "a64Checks", unfollowed := true, recurses := true, apart := false }
def A64ChecksSaid : Prop := a64ChecksRow.holds Try.pinned (OpenSpec.ofChange a64ChecksSpec)

/-- ITS FALSE NEIGHBOUR: 'it returns false'. Refute it at one input. -/
def a64ChecksWrong : ChangeSpec := { name := "a64Checks", fn := fun _ => fun
  | [d] => { results := [.lit (.bool false)], args := [d] }
  | _ => none }
def A64ChecksWrongFalsely : Prop := a64ChecksRow.holds Try.pinned (OpenSpec.ofChange a64ChecksWrong)

/-- 'brazierlaw2.A64Kinds': WHATEVER THE INPUT: true; the input reads as it did. -/
def a64KindsSpec : ChangeSpec := { name := "a64Kinds", fn := fun _ => fun
  | [d1, d2] => { results := [.lit (.bool true)], args := [d1, d2] }
  | _ => none }
def a64KindsRow : OpenClaim := { program := "ytejdlhafdnpcmaa", sum := "870bb9b9009acbef21c9530612199f3f126833c11af32deb02398f227792eb6a", func := "brazier/brazierlaw2.A64Kinds", spec := "a64Kinds", unfollowed := true, recurses := true, apart := false }
def A64KindsSaid : Prop := a64KindsRow.holds Try.pinned (OpenSpec.ofChange a64KindsSpec)

/-- ITS FALSE NEIGHBOUR: 'it returns false'. Refute it at one input. -/
def a64KindsWrong : ChangeSpec := { name := "a64Kinds", fn := fun _ => fun
  | [d1, d2] => { results := [.lit (.bool false)], args := [d1, d2] }
  | _ => none }
def A64KindsWrongFalsely : Prop := a64KindsRow.holds Try.pinned (OpenSpec.ofChange a64KindsWrong)

/-- 'brazierlaw2.A64Kin': WHATEVER THE INPUT: true; the input reads as it did. -/
def a64KinSpec : ChangeSpec := { name := "a64Kin", fn := fun _ => fun
  | [d] => { results := [.lit (.bool true)], args := [d] }
  | _ => none }
def a64KinRow : OpenClaim := { program := "ytejdlhafdnpcmaa", sum := "870bb9b9009acbef21c9530612199f3f126833c11af32deb02398f227792eb6a", func := "brazier/brazierlaw2.A64Kin", spec := "a64Kin", unfollowed := true, recurses := true, apart := false }
def A64KinSaid : Prop := a64KinRow.holds Try.pinned (OpenSpec.ofChange a64KinSpec)

/-- ITS FALSE NEIGHBOUR: 'it returns false'. Refute it at one input. -/
def a64KinWrong : ChangeSpec := { name := "a64Kin", fn := fun _ => fun
  | [d] => { results := [.lit (.bool false)], args := [d] }
  | _ => none }
def A64KinWrongFalsely : Prop := a64KinRow.holds Try.pinned (OpenSpec.ofChange a64KinWrong)

/-- 'brazierlaw2.A64Names': WHATEVER THE INPUT: true; the input reads as it did. -/
def a64NamesSpec : ChangeSpec := { name := "a64Names", fn := fun _ => fun
  | [d1, d2] => { results := [.lit (.bool true)], args := [d1, d2] }
  | _ => none }
def a64NamesRow : OpenClaim := { program := "ytejdlhafdnpcmaa", sum := "870bb9b9009acbef21c9530612199f3f126833c11af32deb02398f227792eb6a", func := "brazier/brazierlaw2.A64Names", spec := "a64Names", unfollowed := true, recurses := true, apart := false }
def A64NamesSaid : Prop := a64NamesRow.holds Try.pinned (OpenSpec.ofChange a64NamesSpec)

/-- ITS FALSE NEIGHBOUR: 'it returns false'. Refute it at one input. -/
def a64NamesWrong : ChangeSpec := { name := "a64Names", fn := fun _ => fun
  | [d1, d2] => { results := [.lit (.bool false)], args := [d1, d2] }
  | _ => none }
def A64NamesWrongFalsely : Prop := a64NamesRow.holds Try.pinned (OpenSpec.ofChange a64NamesWrong)

/-- 'brazierlaw6.SemFrames': WHATEVER THE INPUT: true; the input reads as it did. -/
def semFramesSpec : ChangeSpec := { name := "semFrames", fn := fun _ => fun
  | [d1, d2, d3, d4] => { results := [.lit (.bool true)], args := [d1, d2, d3, d4] }
  | _ => none }
def semFramesRow : OpenClaim := { program := "ytejdlhafdnpcmaa", sum := "870bb9b9009acbef21c9530612199f3f126833c11af32deb02398f227792eb6a", func := "brazier/brazierlaw6.SemFrames", spec := "semFrames", unfollowed := true, recurses := true, apart := false }
def SemFramesSaid : Prop := semFramesRow.holds Try.pinned (OpenSpec.ofChange semFramesSpec)

/-- ITS FALSE NEIGHBOUR: 'it returns false'. Refute it at one input. -/
def semFramesWrong : ChangeSpec := { name := "semFrames", fn := fun _ => fun
  | [d1, d2, d3, d4] => { results := [.lit (.bool false)], args := [d1, d2, d3, d4] }
  | _ => none }
def SemFramesWrongFalsely : Prop := semFramesRow.holds Try.pinned (OpenSpec.ofChange semFramesWrong)

/- THE SECOND FORM. 'bulk': how many values and letters a reading holds, each counted each time it is reached (what is shared counts as often as it is met; a slice's spare places count too). A statement '..UptoSaid' is the law's where the arguments, and the package variables that the reading takes, are together of bulk at most 1048576: NARROWER than '..Said'. Prove '..Said' where nothing that the law and all that it calls make is longer than what came in: it says more and counts as full. Else prove '..UptoSaid'. A law counts once. -/
mutual
def uptoBulk {H : Type} : DataW H → Nat
  | .lit (.string bytes) => bytes.length + 1
  | .lit _ => 1
  | .nil => 1
  | .ptr d => uptoBulk d + 1
  | .slice elems spare => uptoBulkAll elems + uptoBulkAll spare + 1
  | .agg parts => uptoBulkAll parts + 1
  | .iface _ d => uptoBulk d + 1
  | .map entries => uptoBulkEntries entries + 1
  | .held _ => 1
def uptoBulkAll {H : Type} : List (DataW H) → Nat
  | [] => 0
  | d :: r => uptoBulk d + uptoBulkAll r
def uptoBulkEntries {H : Type} : List (Lit × DataW H) → Nat
  | [] => 0
  | x :: r => uptoBulkEntry x + uptoBulkEntries r
def uptoBulkEntry {H : Type} : Lit × DataW H → Nat
  | (.string bytes, d) => bytes.length + uptoBulk d + 1
  | (_, d) => uptoBulk d + 1
 end
def uptoSmall : (H : Type) → List (DataW H) → Bool := fun _ ds => decide (uptoBulkAll ds ≤ 1048576)
def OpenSpec.upto (s : _root_.Go.ChangeSpec) : _root_.Go.OpenSpec := { _root_.Go.OpenSpec.ofChange s with cond := some uptoSmall }

/-- 'brazierlaw2.A64Checks', WHERE WHAT IT READS IS OF BULK AT MOST 1048576: true; the input reads as it did. -/
def a64ChecksUptoRow : OpenClaim := { program := "ytejdlhafdnpcmaa", sum := "870bb9b9009acbef21c9530612199f3f126833c11af32deb02398f227792eb6a", func := "brazier/brazierlaw2.A64Checks", spec := "a64Checks", unfollowed := true, recurses := true, apart := false, narrowed := true }
def A64ChecksUptoSaid : Prop := a64ChecksUptoRow.holds Try.pinned (OpenSpec.upto a64ChecksSpec)

/-- 'brazierlaw2.A64Kinds', WHERE WHAT IT READS IS OF BULK AT MOST 1048576: true; the input reads as it did. -/
def a64KindsUptoRow : OpenClaim := { program := "ytejdlhafdnpcmaa", sum := "870bb9b9009acbef21c9530612199f3f126833c11af32deb02398f227792eb6a", func := "brazier/brazierlaw2.A64Kinds", spec := "a64Kinds", unfollowed := true, recurses := true, apart := false, narrowed := true }
def A64KindsUptoSaid : Prop := a64KindsUptoRow.holds Try.pinned (OpenSpec.upto a64KindsSpec)

/-- 'brazierlaw2.A64Kin', WHERE WHAT IT READS IS OF BULK AT MOST 1048576: true; the input reads as it did. -/
def a64KinUptoRow : OpenClaim := { program := "ytejdlhafdnpcmaa", sum := "870bb9b9009acbef21c9530612199f3f126833c11af32deb02398f227792eb6a", func := "brazier/brazierlaw2.A64Kin", spec := "a64Kin", unfollowed := true, recurses := true, apart := false, narrowed := true }
def A64KinUptoSaid : Prop := a64KinUptoRow.holds Try.pinned (OpenSpec.upto a64KinSpec)

/-- 'brazierlaw2.A64Names', WHERE WHAT IT READS IS OF BULK AT MOST 1048576: true; the input reads as it did. -/
def a64NamesUptoRow : OpenClaim := { program := "ytejdlhafdnpcmaa", sum := "870bb9b9009acbef21c9530612199f3f126833c11af32deb02398f227792eb6a", func := "brazier/brazierlaw2.A64Names", spec := "a64Names", unfollowed := true, recurses := true, apart := false, narrowed := true }
def A64NamesUptoSaid : Prop := a64NamesUptoRow.holds Try.pinned (OpenSpec.upto a64NamesSpec)

/-- 'brazierlaw6.SemFrames', WHERE WHAT IT READS IS OF BULK AT MOST 1048576: true; the input reads as it did. -/
def semFramesUptoRow : OpenClaim := { program := "ytejdlhafdnpcmaa", sum := "870bb9b9009acbef21c9530612199f3f126833c11af32deb02398f227792eb6a", func := "brazier/brazierlaw6.SemFrames", spec := "semFrames", unfollowed := true, recurses := true, apart := false, narrowed := true }
def SemFramesUptoSaid : Prop := semFramesUptoRow.holds Try.pinned (OpenSpec.upto semFramesSpec)

end Rows
end Go.Proofs.Ytejdlhafdnpcmaa
