/-
  No cell of these rows narrows 'for every input' (looked for: loops, veiled, ifaces, maps, wideKeys, modest, calm, conditions, laid).
  DERIVED. THE GIVEN ROWS OF THIS SEAT. 9 by the template 'for every input the law returns true; each argument reads behind the call as it read before'; 0 by the template 'total and deterministic' (their statements: YtpiafgmncfibmaaTotals.lean).
  GIVEN WITH THE SEED: the statements are not yours to turn. If you find one false, say at which input.
  Laid BY PROGRAM, IN A SANDBOX (cutbox-rows.mjs): the forced cells as the released guide's own fill.sh prints them over the translation 3ac436c01716c9c9… (all of the seat's roots in one cut). By AI agents, Wed Nov 11 2026. No macro, syntax, notation, axiom, sorry.
-/
import Derived.Test.YtpiafgmncfibmaaChecked
import GoSem.Claim
import GoSem.ClaimJoined
import GoSem.ClaimMapViews
import Derived.JoinedTies
import Derived.KernelRfl
namespace Go.Proofs.Ytpiafgmncfibmaa
/- THE CELL 'sum', in the pinned program and in every row, IS THE sha256 OF THE DUMP (.gsa) THAT YtpiafgmncfibmaaProg.lean LOADS. Nothing in Lean hashes anything: it is a label: what it is worth is what the hold of that sum in a sandbox is worth. -/
noncomputable def Try.pinned : Pinned := { name := "ytpiafgmncfibmaa", sum := "3ac436c01716c9c90171af102a6b84aca0852e3b1edcdf6aa8485a91ab654eb1", checked := Try.checked }
namespace Rows
def none {H : Type} : Left H := { results := [], args := [] }

/-- 'brazierlaw14.ClassChecks': WHATEVER THE INPUT: true; the input reads as it did. -/
def classChecksSpec : ChangeSpec := { name := "classChecks", fn := fun _ => fun
  | [d] => { results := [.lit (.bool true)], args := [d] }
  | _ => none }
def classChecksRow : OpenClaim := { program := "ytpiafgmncfibmaa", sum := "3ac436c01716c9c90171af102a6b84aca0852e3b1edcdf6aa8485a91ab654eb1", func := "brazier/brazierlaw14.ClassChecks", spec := "classChecks", unfollowed := true, recurses := true, apart := false }
def ClassChecksSaid : Prop := classChecksRow.holds Try.pinned (OpenSpec.ofChange classChecksSpec)

/-- ITS FALSE NEIGHBOUR: 'it returns false'. Refute it at one input. -/
def classChecksWrong : ChangeSpec := { name := "classChecks", fn := fun _ => fun
  | [d] => { results := [.lit (.bool false)], args := [d] }
  | _ => none }
def ClassChecksWrongFalsely : Prop := classChecksRow.holds Try.pinned (OpenSpec.ofChange classChecksWrong)

/-- 'brazierlaw14.ClassParses': WHATEVER THE INPUT: true; the input reads as it did. -/
def classParsesSpec : ChangeSpec := { name := "classParses", fn := fun _ => fun
  | [d] => { results := [.lit (.bool true)], args := [d] }
  | _ => none }
def classParsesRow : OpenClaim := { program := "ytpiafgmncfibmaa", sum := "3ac436c01716c9c90171af102a6b84aca0852e3b1edcdf6aa8485a91ab654eb1", func := "brazier/brazierlaw14.ClassParses", spec := "classParses", unfollowed := true, recurses := true, apart := false }
def ClassParsesSaid : Prop := classParsesRow.holds Try.pinned (OpenSpec.ofChange classParsesSpec)

/-- ITS FALSE NEIGHBOUR: 'it returns false'. Refute it at one input. -/
def classParsesWrong : ChangeSpec := { name := "classParses", fn := fun _ => fun
  | [d] => { results := [.lit (.bool false)], args := [d] }
  | _ => none }
def ClassParsesWrongFalsely : Prop := classParsesRow.holds Try.pinned (OpenSpec.ofChange classParsesWrong)

/-- 'brazierlaw14.ClassBack': WHATEVER THE INPUT: true; the input reads as it did. -/
def classBackSpec : ChangeSpec := { name := "classBack", fn := fun _ => fun
  | [d1, d2] => { results := [.lit (.bool true)], args := [d1, d2] }
  | _ => none }
def classBackRow : OpenClaim := { program := "ytpiafgmncfibmaa", sum := "3ac436c01716c9c90171af102a6b84aca0852e3b1edcdf6aa8485a91ab654eb1", func := "brazier/brazierlaw14.ClassBack", spec := "classBack", unfollowed := true, recurses := true, apart := false }
def ClassBackSaid : Prop := classBackRow.holds Try.pinned (OpenSpec.ofChange classBackSpec)

/-- ITS FALSE NEIGHBOUR: 'it returns false'. Refute it at one input. -/
def classBackWrong : ChangeSpec := { name := "classBack", fn := fun _ => fun
  | [d1, d2] => { results := [.lit (.bool false)], args := [d1, d2] }
  | _ => none }
def ClassBackWrongFalsely : Prop := classBackRow.holds Try.pinned (OpenSpec.ofChange classBackWrong)

/-- 'brazierlaw14.ClassSame': WHATEVER THE INPUT: true; the input reads as it did. -/
def classSameSpec : ChangeSpec := { name := "classSame", fn := fun _ => fun
  | [d1, d2] => { results := [.lit (.bool true)], args := [d1, d2] }
  | _ => none }
def classSameRow : OpenClaim := { program := "ytpiafgmncfibmaa", sum := "3ac436c01716c9c90171af102a6b84aca0852e3b1edcdf6aa8485a91ab654eb1", func := "brazier/brazierlaw14.ClassSame", spec := "classSame", unfollowed := true, recurses := true, apart := false }
def ClassSameSaid : Prop := classSameRow.holds Try.pinned (OpenSpec.ofChange classSameSpec)

/-- ITS FALSE NEIGHBOUR: 'it returns false'. Refute it at one input. -/
def classSameWrong : ChangeSpec := { name := "classSame", fn := fun _ => fun
  | [d1, d2] => { results := [.lit (.bool false)], args := [d1, d2] }
  | _ => none }
def ClassSameWrongFalsely : Prop := classSameRow.holds Try.pinned (OpenSpec.ofChange classSameWrong)

/-- 'brazierlaw14.ClassFronts': WHATEVER THE INPUT: true; the input reads as it did. -/
def classFrontsSpec : ChangeSpec := { name := "classFronts", fn := fun _ => fun
  | [d1, d2] => { results := [.lit (.bool true)], args := [d1, d2] }
  | _ => none }
def classFrontsRow : OpenClaim := { program := "ytpiafgmncfibmaa", sum := "3ac436c01716c9c90171af102a6b84aca0852e3b1edcdf6aa8485a91ab654eb1", func := "brazier/brazierlaw14.ClassFronts", spec := "classFronts", unfollowed := true, recurses := true, apart := false }
def ClassFrontsSaid : Prop := classFrontsRow.holds Try.pinned (OpenSpec.ofChange classFrontsSpec)

/-- ITS FALSE NEIGHBOUR: 'it returns false'. Refute it at one input. -/
def classFrontsWrong : ChangeSpec := { name := "classFronts", fn := fun _ => fun
  | [d1, d2] => { results := [.lit (.bool false)], args := [d1, d2] }
  | _ => none }
def ClassFrontsWrongFalsely : Prop := classFrontsRow.holds Try.pinned (OpenSpec.ofChange classFrontsWrong)

/-- 'brazierlaw14.ClassCounts': WHATEVER THE INPUT: true; the input reads as it did. -/
def classCountsSpec : ChangeSpec := { name := "classCounts", fn := fun _ => fun
  | [d1, d2] => { results := [.lit (.bool true)], args := [d1, d2] }
  | _ => none }
def classCountsRow : OpenClaim := { program := "ytpiafgmncfibmaa", sum := "3ac436c01716c9c90171af102a6b84aca0852e3b1edcdf6aa8485a91ab654eb1", func := "brazier/brazierlaw14.ClassCounts", spec := "classCounts", unfollowed := true, recurses := true, apart := false }
def ClassCountsSaid : Prop := classCountsRow.holds Try.pinned (OpenSpec.ofChange classCountsSpec)

/-- ITS FALSE NEIGHBOUR: 'it returns false'. Refute it at one input. -/
def classCountsWrong : ChangeSpec := { name := "classCounts", fn := fun _ => fun
  | [d1, d2] => { results := [.lit (.bool false)], args := [d1, d2] }
  | _ => none }
def ClassCountsWrongFalsely : Prop := classCountsRow.holds Try.pinned (OpenSpec.ofChange classCountsWrong)

/-- 'brazierlaw15.VerifyMethods': WHATEVER THE INPUT: true; the input reads as it did. -/
def verifyMethodsSpec : ChangeSpec := { name := "verifyMethods", fn := fun _ => fun
  | [d1, d2] => { results := [.lit (.bool true)], args := [d1, d2] }
  | _ => none }
def verifyMethodsRow : OpenClaim := { program := "ytpiafgmncfibmaa", sum := "3ac436c01716c9c90171af102a6b84aca0852e3b1edcdf6aa8485a91ab654eb1", func := "brazier/brazierlaw15.VerifyMethods", spec := "verifyMethods", unfollowed := true, recurses := true, apart := false }
def VerifyMethodsSaid : Prop := verifyMethodsRow.holds Try.pinned (OpenSpec.ofChange verifyMethodsSpec)

/-- ITS FALSE NEIGHBOUR: 'it returns false'. Refute it at one input. -/
def verifyMethodsWrong : ChangeSpec := { name := "verifyMethods", fn := fun _ => fun
  | [d1, d2] => { results := [.lit (.bool false)], args := [d1, d2] }
  | _ => none }
def VerifyMethodsWrongFalsely : Prop := verifyMethodsRow.holds Try.pinned (OpenSpec.ofChange verifyMethodsWrong)

/-- 'brazierlaw15.VerifyShapes': WHATEVER THE INPUT: true; the input reads as it did. -/
def verifyShapesSpec : ChangeSpec := { name := "verifyShapes", fn := fun _ => fun
  | [d1, d2] => { results := [.lit (.bool true)], args := [d1, d2] }
  | _ => none }
def verifyShapesRow : OpenClaim := { program := "ytpiafgmncfibmaa", sum := "3ac436c01716c9c90171af102a6b84aca0852e3b1edcdf6aa8485a91ab654eb1", func := "brazier/brazierlaw15.VerifyShapes", spec := "verifyShapes", unfollowed := true, recurses := true, apart := false }
def VerifyShapesSaid : Prop := verifyShapesRow.holds Try.pinned (OpenSpec.ofChange verifyShapesSpec)

/-- ITS FALSE NEIGHBOUR: 'it returns false'. Refute it at one input. -/
def verifyShapesWrong : ChangeSpec := { name := "verifyShapes", fn := fun _ => fun
  | [d1, d2] => { results := [.lit (.bool false)], args := [d1, d2] }
  | _ => none }
def VerifyShapesWrongFalsely : Prop := verifyShapesRow.holds Try.pinned (OpenSpec.ofChange verifyShapesWrong)

/-- 'brazierlaw15.VerifyStack': WHATEVER THE INPUT: true; the input reads as it did. -/
def verifyStackSpec : ChangeSpec := { name := "verifyStack", fn := fun _ => fun
  | [d1, d2, d3] => { results := [.lit (.bool true)], args := [d1, d2, d3] }
  | _ => none }
def verifyStackRow : OpenClaim := { program := "ytpiafgmncfibmaa", sum := "3ac436c01716c9c90171af102a6b84aca0852e3b1edcdf6aa8485a91ab654eb1", func := "brazier/brazierlaw15.VerifyStack", spec := "verifyStack", unfollowed := true, recurses := true, apart := false }
def VerifyStackSaid : Prop := verifyStackRow.holds Try.pinned (OpenSpec.ofChange verifyStackSpec)

/-- ITS FALSE NEIGHBOUR: 'it returns false'. Refute it at one input. -/
def verifyStackWrong : ChangeSpec := { name := "verifyStack", fn := fun _ => fun
  | [d1, d2, d3] => { results := [.lit (.bool false)], args := [d1, d2, d3] }
  | _ => none }
def VerifyStackWrongFalsely : Prop := verifyStackRow.holds Try.pinned (OpenSpec.ofChange verifyStackWrong)

/- THE SECOND FORM. 'bulk': how many values and letters a reading holds, each counted each time it is reached (what is shared counts as often as it is met; a slice's spare places count too). A statement '..UptoSaid' is the law's where the arguments, and the package variables that the reading takes, are together of bulk at most 1048576: NARROWER than '..Said'. Prove '..Said' where nothing that the law and all that it calls make is longer than what came in: it says more and counts as full. Else prove '..UptoSaid'. A law counts once. -/
mutual
def uptoBulk {H : Type} : DataW H → Nat
  | .lit (.string bytes) => bytes.length + 1
  | .lit _ => 1
  | .nil => 1
  | .ptr d => uptoBulk d + 1
  | .slice elems spare => uptoBulkAll elems + uptoBulkAll spare + 1
  | .agg parts => uptoBulkAll parts + 1
  | .iface _ d => uptoBulk d + 1
  | .map entries => uptoBulkEntries entries + 1
  | .held _ => 1
def uptoBulkAll {H : Type} : List (DataW H) → Nat
  | [] => 0
  | d :: r => uptoBulk d + uptoBulkAll r
def uptoBulkEntries {H : Type} : List (Lit × DataW H) → Nat
  | [] => 0
  | x :: r => uptoBulkEntry x + uptoBulkEntries r
def uptoBulkEntry {H : Type} : Lit × DataW H → Nat
  | (.string bytes, d) => bytes.length + uptoBulk d + 1
  | (_, d) => uptoBulk d + 1
 end
def uptoSmall : (H : Type) → List (DataW H) → Bool := fun _ ds => decide (uptoBulkAll ds ≤ 1048576)
def OpenSpec.upto (s : _root_.Go.ChangeSpec) : _root_.Go.OpenSpec := { _root_.Go.OpenSpec.ofChange s with cond := some uptoSmall }

/-- 'brazierlaw14.ClassChecks', WHERE WHAT IT READS IS OF BULK AT MOST 1048576: true; the input reads as it did. -/
def classChecksUptoRow : OpenClaim := { program := "ytpiafgmncfibmaa", sum := "3ac436c01716c9c90171af102a6b84aca0852e3b1edcdf6aa8485a91ab654eb1", func := "brazier/brazierlaw14.ClassChecks", spec := "classChecks", unfollowed := true, recurses := true, apart := false, narrowed := true }
def ClassChecksUptoSaid : Prop := classChecksUptoRow.holds Try.pinned (OpenSpec.upto classChecksSpec)

/-- 'brazierlaw14.ClassParses', WHERE WHAT IT READS IS OF BULK AT MOST 1048576: true; the input reads as it did. -/
def classParsesUptoRow : OpenClaim := { program := "ytpiafgmncfibmaa", sum := "3ac436c01716c9c90171af102a6b84aca0852e3b1edcdf6aa8485a91ab654eb1", func := "brazier/brazierlaw14.ClassParses", spec := "classParses", unfollowed := true, recurses := true, apart := false, narrowed := true }
def ClassParsesUptoSaid : Prop := classParsesUptoRow.holds Try.pinned (OpenSpec.upto classParsesSpec)

/-- 'brazierlaw14.ClassBack', WHERE WHAT IT READS IS OF BULK AT MOST 1048576: true; the input reads as it did. -/
def classBackUptoRow : OpenClaim := { program := "ytpiafgmncfibmaa", sum := "3ac436c01716c9c90171af102a6b84aca0852e3b1edcdf6aa8485a91ab654eb1", func := "brazier/brazierlaw14.ClassBack", spec := "classBack", unfollowed := true, recurses := true, apart := false, narrowed := true }
def ClassBackUptoSaid : Prop := classBackUptoRow.holds Try.pinned (OpenSpec.upto classBackSpec)

/-- 'brazierlaw14.ClassSame', WHERE WHAT IT READS IS OF BULK AT MOST 1048576: true; the input reads as it did. -/
def classSameUptoRow : OpenClaim := { program := "ytpiafgmncfibmaa", sum := "3ac436c01716c9c90171af102a6b84aca0852e3b1edcdf6aa8485a91ab654eb1", func := "brazier/brazierlaw14.ClassSame", spec := "classSame", unfollowed := true, recurses := true, apart := false, narrowed := true }
def ClassSameUptoSaid : Prop := classSameUptoRow.holds Try.pinned (OpenSpec.upto classSameSpec)

/-- 'brazierlaw14.ClassFronts', WHERE WHAT IT READS IS OF BULK AT MOST 1048576: true; the input reads as it did. -/
def classFrontsUptoRow : OpenClaim := { program := "ytpiafgmncfibmaa", sum := "3ac436c01716c9c90171af102a6b84aca0852e3b1edcdf6aa8485a91ab654eb1", func := "brazier/brazierlaw14.ClassFronts", spec := "classFronts", unfollowed := true, recurses := true, apart := false, narrowed := true }
def ClassFrontsUptoSaid : Prop := classFrontsUptoRow.holds Try.pinned (OpenSpec.upto classFrontsSpec)

/-- 'brazierlaw14.ClassCounts', WHERE WHAT IT READS IS OF BULK AT MOST 1048576: true; the input reads as it did. -/
def classCountsUptoRow : OpenClaim := { program := "ytpiafgmncfibmaa", sum := "3ac436c01716c9c90171af102a6b84aca0852e3b1edcdf6aa8485a91ab654eb1", func := "brazier/brazierlaw14.ClassCounts", spec := "classCounts", unfollowed := true, recurses := true, apart := false, narrowed := true }
def ClassCountsUptoSaid : Prop := classCountsUptoRow.holds Try.pinned (OpenSpec.upto classCountsSpec)

/-- 'brazierlaw15.VerifyMethods', WHERE WHAT IT READS IS OF BULK AT MOST 1048576: true; the input reads as it did. -/
def verifyMethodsUptoRow : OpenClaim := { program := "ytpiafgmncfibmaa", sum := "3ac436c01716c9c90171af102a6b84aca0852e3b1edcdf6aa8485a91ab654eb1", func := "brazier/brazierlaw15.VerifyMethods", spec := "verifyMethods", unfollowed := true, recurses := true, apart := false, narrowed := true }
def VerifyMethodsUptoSaid : Prop := verifyMethodsUptoRow.holds Try.pinned (OpenSpec.upto verifyMethodsSpec)

/-- 'brazierlaw15.VerifyShapes', WHERE WHAT IT READS IS OF BULK AT MOST 1048576: true; the input reads as it did. -/
def verifyShapesUptoRow : OpenClaim := { program := "ytpiafgmncfibmaa", sum := "3ac436c01716c9c90171af102a6b84aca0852e3b1edcdf6aa8485a91ab654eb1", func := "brazier/brazierlaw15.VerifyShapes", spec := "verifyShapes", unfollowed := true, recurses := true, apart := false, narrowed := true }
def VerifyShapesUptoSaid : Prop := verifyShapesUptoRow.holds Try.pinned (OpenSpec.upto verifyShapesSpec)

/-- 'brazierlaw15.VerifyStack', WHERE WHAT IT READS IS OF BULK AT MOST 1048576: true; the input reads as it did. -/
def verifyStackUptoRow : OpenClaim := { program := "ytpiafgmncfibmaa", sum := "3ac436c01716c9c90171af102a6b84aca0852e3b1edcdf6aa8485a91ab654eb1", func := "brazier/brazierlaw15.VerifyStack", spec := "verifyStack", unfollowed := true, recurses := true, apart := false, narrowed := true }
def VerifyStackUptoSaid : Prop := verifyStackUptoRow.holds Try.pinned (OpenSpec.upto verifyStackSpec)

end Rows
end Go.Proofs.Ytpiafgmncfibmaa
