import Derived.Test.YtnchckbgdekfbaaRows
import Derived.Test.YtnchckbgdekfbaaMath
import Derived.Test.YtnchckbgdekfbaaArith
import Derived.WalkKit
import Derived.ProofKit
import Derived.OpenShut
import Derived.Deep.QuietTactic
import Derived.BigQuiet
import Derived.StillTailTactics
import Derived.Outline
import Derived.Lib.Hide
namespace Go.Proofs.Ytnchckbgdekfbaa
open Go.ChangeShapes Go.WideShapes Go.ChangeAt Go.RowKit
set_option linter.unusedVariables false

def negB (x : Int) : Bool := decide (9223372036854775808 ≤ x)
theorem neg_c (a : Int) (w : World) (h : 0 ≤ a) (h' : a < 18446744073709551616) : Calls Try.prog 36 #[.int .u64 a] w fun e w' => e = .returned (.bool (negB a)) ∧ w = w' := by
  go_enter Try.func36, Try.ntmps36
  go_wp2
  go_ret
  exact ⟨ret_bool (by unfold negB; rw [Bool.eq_iff_iff]; simp; omega), rfl⟩
def sA (a b i : Int) : Int := (a + b + i) % 18446744073709551616
theorem sA_range (a b i : Int) : 0 ≤ sA a b i ∧ sA a b i < 18446744073709551616 := by unfold sA; omega
def cA (a b i : Int) : Bool := decide (18446744073709551616 ≤ a + b + i)
def vA (a b i : Int) : Bool := (negB a == negB b) && (negB a != negB (sA a b i))
def addS (a b i : Int) : Value := .tuple #[.int .u64 (sA a b i), .bool (negB (sA a b i)), .bool (sA a b i == 0), .bool (cA a b i), .bool (vA a b i)]
theorem c_one (a b : Int) (hx : 0 ≤ a) (hx' : a < 18446744073709551616) (hy : 0 ≤ b) (hy' : b < 18446744073709551616) : decide (sA a b 0 < a) = cA a b 0 := by
  unfold sA cA; rw [Bool.eq_iff_iff]; simp; omega
theorem c_two (a b : Int) (hx : 0 ≤ a) (hx' : a < 18446744073709551616) (hy : 0 ≤ b) (hy' : b < 18446744073709551616) : (decide (sA a b 0 < a) || (sA a b 1 == 0)) = cA a b 1 := by
  unfold sA cA; rw [Bool.eq_iff_iff]; simp; omega
theorem add_c (a b : Int) (w : World) (hx : 0 ≤ a) (hx' : a < 18446744073709551616) (hy : 0 ≤ b) (hy' : b < 18446744073709551616) : Calls Try.prog 17 #[.int .u64 a, .int .u64 b, .bool false] w fun e w' => e = .returned (addS a b 0) ∧ w = w' := by
  have hs : IntKind.u64.wrap (a + b) = sA a b 0 := by rw [IntKind.wrap_u64]; unfold sA; rw [Int.add_zero]
  have hr := sA_range a b 0
  have HC := Lib.hid (c_one a b hx hx' hy hy')
  rcases hA : negB a <;> rcases hB : negB b
  all_goals
    go_enter Try.func17, Try.ntmps17
    go_wp2_with (go_at_call 36; refine (neg_c _ _ (by omega) (by omega)).mono ?_; rintro e w' ⟨rfl, rfl⟩)
    refine bodyPost_ret (v := addS a b 0) (by
      simp [results, Try.results17, go_sem, addS, ← HC.out, vA, hA, hB]) rfl ⟨rfl, rfl⟩
theorem add1_c (a b : Int) (w : World) (hx : 0 ≤ a) (hx' : a < 18446744073709551616) (hy : 0 ≤ b) (hy' : b < 18446744073709551616) : Calls Try.prog 17 #[.int .u64 a, .int .u64 b, .bool true] w fun e w' => e = .returned (addS a b 1) ∧ w = w' := by
  have hs : IntKind.u64.wrap (a + b) = sA a b 0 := by rw [IntKind.wrap_u64]; unfold sA; rw [Int.add_zero]
  have hs1 : IntKind.u64.wrap (sA a b 0 + 1) = sA a b 1 := by rw [IntKind.wrap_u64]; unfold sA; omega
  have hr := sA_range a b 0
  have hr1 := sA_range a b 1
  have HC := Lib.hid (c_two a b hx hx' hy hy')
  rcases hA : negB a <;> rcases hB : negB b <;> rcases hc : decide (sA a b 0 < a)
  all_goals
    go_enter Try.func17, Try.ntmps17
    go_wp2_with (go_at_call 36; refine (neg_c _ _ (by omega) (by omega)).mono ?_; rintro e w' ⟨rfl, rfl⟩)
    refine bodyPost_ret (v := addS a b 1) (by
      simp [results, Try.results17, go_sem, addS, ← HC.out, vA, hA, hB, hc]) rfl ⟨rfl, rfl⟩
theorem xor_max (b : Int) (h : 0 ≤ b) (h' : b < 18446744073709551616) : bits .xor .u64 IntKind.u64.max b = 18446744073709551615 - b := by
  obtain ⟨B, rfl⟩ := Int.eq_ofNat_of_zero_le h
  have hB : (BitVec.ofInt 64 (B : Int)).toNat = B := ofInt_u64 B (by omega)
  have hm : BitVec.ofInt 64 IntKind.u64.max = BitVec.allOnes 64 := by decide
  show IntKind.u64.wrap ((BitVec.ofInt 64 IntKind.u64.max ^^^ BitVec.ofInt 64 (B : Int)).toNat : Int) = _
  rw [hm, BitVec.allOnes_xor, BitVec.toNat_not, hB, IntKind.wrap_u64]
  omega
set_option maxHeartbeats 8000000 in
theorem radd_c (a b : Int) (w : World) (hx : 0 ≤ a) (hx' : a < 18446744073709551616) (hy : 0 ≤ b) (hy' : b < 18446744073709551616) : Calls Try.prog 18 #[.int .u64 a, .int .u64 b, .bool false] w fun e w' => e = .returned (addS a b 0) ∧ w = w' := by
  have hs : IntKind.u64.wrap (a + b) = sA a b 0 := by rw [IntKind.wrap_u64]; unfold sA; rw [Int.add_zero]
  have hr := sA_range a b 0
  have hq := sA_range a b 0
  have HS0 := Lib.hid (show sA a b 0 = (a + b + 0) % 18446744073709551616 from rfl)
  have HC := Lib.hid (show cA a b 0 = decide (18446744073709551616 ≤ a + b + 0) from rfl)
  obtain ⟨nb, hnb, hn1, hn2⟩ : ∃ nb : Int, bits .xor .u64 IntKind.u64.max b = nb ∧ nb + b ≤ 18446744073709551615 ∧ 18446744073709551615 ≤ nb + b := ⟨_, xor_max b hy hy', by omega, by omega⟩
  obtain ⟨sa, hsa, ha1⟩ : ∃ sa : Int, wrap64 a = sa ∧ (sa < 0 ↔ 9223372036854775808 ≤ a) := ⟨_, rfl, by unfold wrap64; omega⟩
  obtain ⟨sb, hsb, hb1⟩ : ∃ sb : Int, wrap64 b = sb ∧ (sb < 0 ↔ 9223372036854775808 ≤ b) := ⟨_, rfl, by unfold wrap64; omega⟩
  obtain ⟨ss, hss, hs1⟩ : ∃ ss : Int, wrap64 (sA a b 0) = ss ∧ (ss < 0 ↔ 9223372036854775808 ≤ sA a b 0) := ⟨_, rfl, by unfold wrap64; omega⟩
  by_cases la : 9223372036854775808 ≤ a <;> by_cases lb : 9223372036854775808 ≤ b <;> by_cases ls : 9223372036854775808 ≤ sA a b 0 <;> rcases Int.lt_trichotomy a nb with hc | hc | hc
  all_goals first | (exfalso; have := HS0.out; omega) | skip
  all_goals
    have hA : negB a = decide (9223372036854775808 ≤ a) := rfl
    have hB : negB b = decide (9223372036854775808 ≤ b) := rfl
    have hS : negB (sA a b 0) = decide (9223372036854775808 ≤ sA a b 0) := rfl
    simp only [la, lb, ls, decide_true, decide_false] at hA hB hS
    have hc2 : cA a b 0 = decide (18446744073709551616 ≤ a + b + 0) := rfl
    first | rw [decide_eq_true (show 18446744073709551616 ≤ a + b + 0 by omega)] at hc2 | rw [decide_eq_false (show ¬ 18446744073709551616 ≤ a + b + 0 by omega)] at hc2
    have HA := Lib.hid hA
    have HB := Lib.hid hB
    have HS := Lib.hid hS
    have HC2 := Lib.hid hc2
    clear hA hB hS hc2
    simp only [la, lb, ls, iff_true, iff_false] at ha1 hb1 hs1
    try subst hc
    go_enter Try.func18, Try.ntmps18
    go_wp2
    refine bodyPost_ret (v := addS _ b 0) (by
      simp [results, Try.results18, go_sem, addS, vA, HA.out, HB.out, HS.out, HC2.out] <;> first | omega | (and_intros <;> omega)) rfl ⟨rfl, rfl⟩
set_option maxHeartbeats 8000000 in
theorem radd1_c (a b : Int) (w : World) (hx : 0 ≤ a) (hx' : a < 18446744073709551616) (hy : 0 ≤ b) (hy' : b < 18446744073709551616) : Calls Try.prog 18 #[.int .u64 a, .int .u64 b, .bool true] w fun e w' => e = .returned (addS a b 1) ∧ w = w' := by
  have hs : IntKind.u64.wrap (a + b) = sA a b 0 := by rw [IntKind.wrap_u64]; unfold sA; rw [Int.add_zero]
  have hs1 : IntKind.u64.wrap (sA a b 0 + 1) = sA a b 1 := by rw [IntKind.wrap_u64]; unfold sA; omega
  have hr := sA_range a b 0
  have hq := sA_range a b 1
  have HS0 := Lib.hid (show sA a b 1 = (a + b + 1) % 18446744073709551616 from rfl)
  have HC := Lib.hid (show cA a b 1 = decide (18446744073709551616 ≤ a + b + 1) from rfl)
  obtain ⟨nb, hnb, hn1, hn2⟩ : ∃ nb : Int, bits .xor .u64 IntKind.u64.max b = nb ∧ nb + b ≤ 18446744073709551615 ∧ 18446744073709551615 ≤ nb + b := ⟨_, xor_max b hy hy', by omega, by omega⟩
  obtain ⟨sa, hsa, ha1⟩ : ∃ sa : Int, wrap64 a = sa ∧ (sa < 0 ↔ 9223372036854775808 ≤ a) := ⟨_, rfl, by unfold wrap64; omega⟩
  obtain ⟨sb, hsb, hb1⟩ : ∃ sb : Int, wrap64 b = sb ∧ (sb < 0 ↔ 9223372036854775808 ≤ b) := ⟨_, rfl, by unfold wrap64; omega⟩
  obtain ⟨ss, hss, hs1⟩ : ∃ ss : Int, wrap64 (sA a b 1) = ss ∧ (ss < 0 ↔ 9223372036854775808 ≤ sA a b 1) := ⟨_, rfl, by unfold wrap64; omega⟩
  by_cases la : 9223372036854775808 ≤ a <;> by_cases lb : 9223372036854775808 ≤ b <;> by_cases ls : 9223372036854775808 ≤ sA a b 1 <;> rcases Int.lt_trichotomy a nb with hc | hc | hc
  all_goals first | (exfalso; have := HS0.out; omega) | skip
  all_goals
    have hA : negB a = decide (9223372036854775808 ≤ a) := rfl
    have hB : negB b = decide (9223372036854775808 ≤ b) := rfl
    have hS : negB (sA a b 1) = decide (9223372036854775808 ≤ sA a b 1) := rfl
    simp only [la, lb, ls, decide_true, decide_false] at hA hB hS
    have hc2 : cA a b 1 = decide (18446744073709551616 ≤ a + b + 1) := rfl
    first | rw [decide_eq_true (show 18446744073709551616 ≤ a + b + 1 by omega)] at hc2 | rw [decide_eq_false (show ¬ 18446744073709551616 ≤ a + b + 1 by omega)] at hc2
    have HA := Lib.hid hA
    have HB := Lib.hid hB
    have HS := Lib.hid hS
    have HC2 := Lib.hid hc2
    clear hA hB hS hc2
    simp only [la, lb, ls, iff_true, iff_false] at ha1 hb1 hs1
    try subst hc
    go_enter Try.func18, Try.ntmps18
    go_wp2
    refine bodyPost_ret (v := addS _ b 1) (by
      simp [results, Try.results18, go_sem, addS, vA, HA.out, HB.out, HS.out, HC2.out] <;> first | omega | (and_intros <;> omega)) rfl ⟨rfl, rfl⟩
end Go.Proofs.Ytnchckbgdekfbaa
