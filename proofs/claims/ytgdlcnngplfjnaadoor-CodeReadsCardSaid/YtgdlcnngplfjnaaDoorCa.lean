import Derived.Test.YtgdlcnngplfjnaaDoorCp
import Derived.Test.YtgdlcnngplfjnaaDoorVc
import Derived.Test.YtgdlcnngplfjnaaDoorVg
import Derived.BigGuardPart
import Derived.LoopIn
import Derived.LoopNIn
import Derived.OwnWalkIn
import Derived.RangeFuncBound
import Derived.RangeFuncBox
import Derived.RangeFuncCalls
import Derived.RangeFuncLeaves
import Derived.RangeFuncNested
import Derived.Shelf.RegionOpen
import Derived.TacticsInMore
import Derived.Laws.BitsLemmas
import Derived.IntWalk
import Derived.Laws.BitsAllLaws
import Derived.Deep.DrawnRows
import Derived.WalkKit
import Derived.ProofKit
import Derived.OpenShut
import Derived.Deep.QuietTactic
import Derived.BigQuiet
import Derived.Outline
import Derived.WalkSmall
import Derived.WalkLawsBesides
import Derived.WalkSpells
import Derived.BigGuardPart
import Derived.RegionTactic
import Derived.Deep.RegionHeld3
import Derived.Lib.Hide
import Derived.Deep.MidRow
import Derived.Below
import Derived.Deep.RegionWith
import Derived.Deep.OwnRows
import Derived.Deep.AppendLies
import Derived.Deep.RegionLaw
import Derived.Deep.CutBlock
import Derived.Deep.DeepCutAuto
namespace Go.Proofs.YtgdlcnngplfjnaaDoor.Co
open Go.ChangeShapes Go.WideShapes Go.ChangeAt Go.RowKit Go.Proofs.YtgdlcnngplfjnaaDoor.Vf
set_option linter.unusedVariables false
/-! ### limits (42), Write (17) -/
def loL (z : Nat) : Int := if z = 115 then -128 else if z = 111 then -32768 else 0
def hiL (z : Nat) : Int := if z = 115 then 127 else if z = 111 then 32767 else 255
theorem limits_s (w : World) : Calls Tryd.prog 42 #[.int .u8 115] w fun e w' => e = .returned (.tuple #[.int .i64 (-128), .int .i64 127]) ∧ w' = w := by
  go_enter Tryd.func42, Tryd.ntmps42
  go_wp2
  go_ret2
  exact ⟨rfl, rfl⟩
theorem limits_o (w : World) : Calls Tryd.prog 42 #[.int .u8 111] w fun e w' => e = .returned (.tuple #[.int .i64 (-32768), .int .i64 32767]) ∧ w' = w := by
  go_enter Tryd.func42, Tryd.ntmps42
  go_wp2
  go_ret2
  exact ⟨rfl, rfl⟩
theorem limits_u (w : World) : Calls Tryd.prog 42 #[.int .u8 117] w fun e w' => e = .returned (.tuple #[.int .i64 0, .int .i64 255]) ∧ w' = w := by
  go_enter Tryd.func42, Tryd.ntmps42
  go_wp2
  go_ret2
  exact ⟨rfl, rfl⟩
/-- What Write tells. -/
def WrR (c a b : Int) (w : World) (e : Ending) (w' : World) : Prop :=
  if wrE c a b = 0 then ∃ x cx, e = .returned (.tuple #[.slice x (wrL c a b).length cx, .int .i64 0]) ∧ Bys w' x (wrL c a b) ∧ (wrL c a b).length ≤ cx ∧ (∀ p, x = some p → w.heap.size ≤ p.block) ∧ Below w.heap.size w w'
  else e = .returned (.tuple #[.slice none 0 0, .int .i64 (wrE c a b)]) ∧ Below w.heap.size w w'
end Go.Proofs.YtgdlcnngplfjnaaDoor.Co
