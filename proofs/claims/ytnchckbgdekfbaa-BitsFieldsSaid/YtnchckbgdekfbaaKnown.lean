import Derived.Test.YtnchckbgdekfbaaRows
import Derived.Test.YtnchckbgdekfbaaMath
import Derived.Test.YtnchckbgdekfbaaArith
import Derived.Test.YtnchckbgdekfbaaHexMath
import Derived.Test.YtnchckbgdekfbaaAdd
import Derived.Test.YtnchckbgdekfbaaHex
import Derived.WalkKit
import Derived.ProofKit
import Derived.OpenShut
import Derived.Deep.QuietTactic
import Derived.BigQuiet
import Derived.StillTailTactics
import Derived.Outline
import Derived.Lib.Hide
namespace Go.Proofs.Ytnchckbgdekfbaa
open Go.ChangeShapes Go.WideShapes Go.ChangeAt Go.RowKit
set_option linter.unusedVariables false

theorem add_k (w : World) : Calls Try.prog 17 #[.int .u64 18446744073709551615, .int .u64 1, .bool false] w fun e w' => e = .returned (.tuple #[.int .u64 0, .bool false, .bool true, .bool true, .bool false]) ∧ w = w' :=
  (add_c 18446744073709551615 1 w (by decide) (by decide) (by decide) (by decide)).mono fun e w' ⟨h, h'⟩ => ⟨by rw [h]; rfl, h'⟩
theorem sext_k (w : World) : Calls Try.prog 13 #[.int .u64 255, .int .i64 8] w fun e w' => e = .returned (.int .i64 (-1)) ∧ w = w' := by
  go_enter Try.func13, Try.ntmps13
  go_wp2
  go_ret
  exact ⟨ret_int (by simp [wrap64, IntKind.wrap_u64]), rfl⟩
theorem div_k (w : World) : Calls Try.prog 19 #[.int .i64 (-7), .int .i64 2] w fun e w' => e = .returned (.int .i64 (-3)) ∧ w = w' :=
  (div_c (-7) 2 w).mono fun e w' ⟨h, h'⟩ => ⟨by rw [h]; exact ret_int (by unfold divS wrap64; decide), h'⟩
theorem rem_k (w : World) : Calls Try.prog 21 #[.int .i64 (-7), .int .i64 2] w fun e w' => e = .returned (.int .i64 (-1)) ∧ w = w' :=
  (rem_c (-7) 2 w).mono fun e w' ⟨h, h'⟩ => ⟨by rw [h]; exact ret_int (by unfold remS divS wrap64; decide), h'⟩
theorem hex_k (w : World) : Calls Try.prog 27 #[.int .u64 255, .int .i64 1] w fun e w' => e = .returned (.string ⟨#[102, 102]⟩) ∧ Grown w w' :=
  (hex_c 255 1 w (by decide) (by decide)).mono fun e w' ⟨k, hk, h, hG⟩ => by
    have h2 : HexIs 255 1 2 := ⟨⟨by decide, by decide⟩, fun j hj => by
      have : j = 0 ∨ j = 1 := by omega
      rcases this with rfl | rfl <;> decide⟩
    obtain rfl := hk.uniq h2
    exact ⟨by rw [h]; rfl, hG⟩
theorem known_c (w : World) : Calls Try.prog 8 #[] w fun e w' => e = .returned (.bool true) ∧ Grown w w' := by
  go_enter Try.func8, Try.ntmps8
  go_wp2_with (first | (go_at_call 17; refine (add_k _).mono ?_; rintro e w' ⟨rfl, rfl⟩) | (go_at_call 13; refine (sext_k _).mono ?_; rintro e w' ⟨rfl, rfl⟩) | (go_at_call 19; refine (div_k _).mono ?_; rintro e w' ⟨rfl, rfl⟩) | (go_at_call 21; refine (rem_k _).mono ?_; rintro e w' ⟨rfl, rfl⟩) | (go_at_call 27; refine (hex_k _).mono ?_; rintro e w' ⟨rfl, hG⟩))
  go_ret
  exact ⟨rfl, hG⟩
end Go.Proofs.Ytnchckbgdekfbaa
