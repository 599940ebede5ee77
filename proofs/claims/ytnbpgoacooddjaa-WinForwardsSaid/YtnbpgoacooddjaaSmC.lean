import Derived.Test.YtnbpgoacooddjaaRows
import Derived.WalkKit
import Derived.ProofKit
import Derived.OpenShut
import Derived.Deep.QuietTactic
import Derived.BigQuiet
import Derived.Outline
import Derived.WalkSmall
import Derived.WalkLawsBesides
import Derived.WalkSpells
import Derived.BigGuardPart
import Derived.RegionTactic
import Derived.Deep.RegionHeld3
import Derived.Lib.Hide
import Derived.Deep.MidRow
import Derived.Below
import Derived.Test.YtnbpgoacooddjaaSmB
namespace Go.Proofs.Ytnbpgoacooddjaa
open Go.ChangeShapes Go.WideShapes Go.ChangeAt Go.RowKit
set_option linter.unusedVariables false
set_option maxRecDepth 100000 in
set_option maxHeartbeats 2000000 in
theorem hold16_hi (r : Rg) (c : Int) (w : World) (h : 15 < c) (h2 : c ≤ 9223372036854775807) :
    Calls Try.prog 170 #[.agg r.arr, .int .i64 c] w fun e w' => e = .returned (.bool (r.hold c)) ∧ Below w.heap.size w w' := by
  have HV := Lib.hid (r.hold_no c (Or.inr h))
  have e0 : (c / 2 == 0) = false := by simp; omega
  have e1 : (c / 2 == 1) = false := by simp; omega
  have e2 : (c / 2 == 2) = false := by simp; omega
  have e3 : (c / 2 == 3) = false := by simp; omega
  have e4 : (c / 2 == 4) = false := by simp; omega
  have e5 : (c / 2 == 5) = false := by simp; omega
  have e6 : (c / 2 == 6) = false := by simp; omega
  have e8 : decide (c < 0) = false := decide_eq_false (by omega)
  have e9 : decide (15 < c) = true := decide_eq_true (by omega)
  have p : 0 ≤ c := by omega
  go_enter Try.func170, Try.ntmps170
  go_wp2
  go_ret
  exact ⟨by rw [HV.out]; rfl, (Below.refl _ _).alloc (Nat.le_refl _) _⟩
set_option maxRecDepth 100000 in
set_option maxHeartbeats 2000000 in
theorem hold16_lo (r : Rg) (c : Int) (w : World) (h : c < -1) (h2 : -9223372036854775808 ≤ c) :
    Calls Try.prog 170 #[.agg r.arr, .int .i64 c] w fun e w' => e = .returned (.bool (r.hold c)) ∧ Below w.heap.size w w' := by
  have HV := Lib.hid (r.hold_no c (Or.inl (by omega)))
  obtain ⟨q, hq⟩ : ∃ q, c.tdiv 2 = q := ⟨_, rfl⟩
  have hq' : q = -((-c) / 2) := by rw [← hq, ← Int.tdiv_eq_ediv_of_nonneg (by omega), Int.neg_tdiv, Int.neg_neg]
  have q1 : q < 0 := by omega
  have q2 : -4611686018427387904 ≤ q := by omega
  clear hq'
  have e0 : (q == 0) = false := by simp; omega
  have e1 : (q == 1) = false := by simp; omega
  have e2 : (q == 2) = false := by simp; omega
  have e3 : (q == 3) = false := by simp; omega
  have e4 : (q == 4) = false := by simp; omega
  have e5 : (q == 5) = false := by simp; omega
  have e6 : (q == 6) = false := by simp; omega
  have e8 : decide (c < 0) = true := decide_eq_true (by omega)
  go_enter Try.func170, Try.ntmps170
  go_wp2
  go_ret
  exact ⟨by rw [HV.out]; rfl, (Below.refl _ _).alloc (Nat.le_refl _) _⟩
set_option maxRecDepth 100000 in
set_option maxHeartbeats 2000000 in
theorem hold16_m1 (r : Rg) (w : World) :
    Calls Try.prog 170 #[.agg r.arr, .int .i64 (-1)] w fun e w' => e = .returned (.bool (r.hold (-1))) ∧ Below w.heap.size w w' := by
  have HV := Lib.hid (r.hold_no (-1) (Or.inl (by omega)))
  have hz := r.at33
  go_enter Try.func170, Try.ntmps170
  go_wp2
  go_ret
  exact ⟨by rw [HV.out]; rfl, (Below.refl _ _).alloc (Nat.le_refl _) _⟩
theorem hold16 (r : Rg) (c : Int) (w : World) (h1 : -9223372036854775808 ≤ c) (h2 : c ≤ 9223372036854775807) :
    Calls Try.prog 170 #[.agg r.arr, .int .i64 c] w fun e w' => e = .returned (.bool (r.hold c)) ∧ Below w.heap.size w w' := by
  by_cases h : 15 < c
  · exact hold16_hi r c w h h2
  by_cases h' : c < -1
  · exact hold16_lo r c w h' h1
  · rcases (show c = -1 ∨ c = 0 ∨ c = 1 ∨ c = 2 ∨ c = 3 ∨ c = 4 ∨ c = 5 ∨ c = 6 ∨ c = 7 ∨ c = 8 ∨ c = 9 ∨ c = 10 ∨ c = 11 ∨ c = 12 ∨ c = 13 ∨ c = 14 ∨ c = 15 by omega) with rfl | rfl | rfl | rfl | rfl | rfl | rfl | rfl | rfl | rfl | rfl | rfl | rfl | rfl | rfl | rfl | rfl
    · exact hold16_m1 r w
    · exact hold16_0 r w
    · exact hold16_1 r w
    · exact hold16_2 r w
    · exact hold16_3 r w
    · exact hold16_4 r w
    · exact hold16_5 r w
    · exact hold16_6 r w
    · exact hold16_7 r w
    · exact hold16_8 r w
    · exact hold16_9 r w
    · exact hold16_10 r w
    · exact hold16_11 r w
    · exact hold16_12 r w
    · exact hold16_13 r w
    · exact hold16_14 r w
    · exact hold16_15 r w
end Go.Proofs.Ytnbpgoacooddjaa
