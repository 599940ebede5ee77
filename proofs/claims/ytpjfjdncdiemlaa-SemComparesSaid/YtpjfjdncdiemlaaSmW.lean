import Derived.Test.YtpjfjdncdiemlaaSmH
namespace Go.Proofs.Ytpjfjdncdiemlaa
open Go.ChangeShapes Go.WideShapes Go.ChangeAt Go.RowKit
set_option linter.unusedVariables false
/-- Registers 1 and 2. -/
def r2 (a b : Int) : Rg := ⟨fun i => if i = 1 then a else if i = 2 then b else 0, 0, false, false, false, false⟩
theorem less31 (r : Rg) (x v : Int) : r.less x v 31 = r.flags (negB (sA x (notU v) 1)) (sA x (notU v) 1 == 0) (cA x (notU v) 1) (vA x (notU v) 1) := by
  unfold Rg.less
  rw [Rg.set_no _ _ _ (by omega) (by omega)]
theorem cmp_z {a b : Int} (a1 : 0 ≤ a) (a2 : a < 18446744073709551616) (b1 : 0 ≤ b) (b2 : b < 18446744073709551616) : (sA a (notU b) 1 == 0) = (a == b) := by
  unfold sA notU; rw [Bool.eq_iff_iff]; simp; omega
theorem cmp_c {a b : Int} (a1 : 0 ≤ a) (a2 : a < 18446744073709551616) (b1 : 0 ≤ b) (b2 : b < 18446744073709551616) : cA a (notU b) 1 = decide (b ≤ a) := by
  unfold cA notU; rw [Bool.eq_iff_iff]; simp; omega
theorem cmp_n (a b : Int) : negB (sA a (notU b) 1) = decide (wrap64 (wrap64 a - wrap64 b) < 0) := by
  unfold negB sA notU wrap64; rw [Bool.eq_iff_iff]; simp; omega
theorem cmp_v {a b : Int} (a1 : 0 ≤ a) (a2 : a < 18446744073709551616) (b1 : 0 ≤ b) (b2 : b < 18446744073709551616) : (negB (sA a (notU b) 1) == vA a (notU b) 1) = decide (wrap64 b ≤ wrap64 a) := by
  unfold vA negB
  by_cases h1 : 9223372036854775808 ≤ a <;> by_cases h2 : 9223372036854775808 ≤ b
  all_goals
    by_cases h3 : 9223372036854775808 ≤ sA a (notU b) 1
    all_goals
      have e2 : decide (9223372036854775808 ≤ notU b) = !decide (9223372036854775808 ≤ b) := by unfold notU; rw [Bool.eq_iff_iff]; simp; omega
      rw [e2]
      simp only [h1, h2, h3, decide_true, decide_false]
      unfold sA notU at h3
      unfold wrap64
      rw [Bool.eq_iff_iff]
      simp
      omega
/-- What the law wants. -/
def wantA (a b : Int) (v : Bool) : Array Value := #[.bool (a == b), .bool (a != b), .bool (decide (b ≤ a)), .bool (decide (a < b)), .bool (decide (wrap64 (wrap64 a - wrap64 b) < 0)), .bool (decide (0 ≤ wrap64 (wrap64 a - wrap64 b))), .bool v, .bool !v, .bool (decide (b < a)), .bool (decide (a ≤ b)), .bool (decide (wrap64 b ≤ wrap64 a)), .bool (decide (wrap64 a < wrap64 b)), .bool (decide (wrap64 b < wrap64 a)), .bool (decide (wrap64 a ≤ wrap64 b)), .bool true, .bool true]
theorem want_ok (a b : Int) (a1 : 0 ≤ a) (a2 : a < 18446744073709551616) (b1 : 0 ≤ b) (b2 : b < 18446744073709551616) (RS : Rg) (h : RS = (r2 a b).less a b 31) (j : Nat) (hj : j < 16) : (wantA a b RS.v)[j]? = some (.bool (RS.hv j)) := by
  have hz : RS.z = (a == b) := by rw [h, less31]; exact cmp_z a1 a2 b1 b2
  have hc : RS.c = decide (b ≤ a) := by rw [h, less31]; exact cmp_c a1 a2 b1 b2
  have hn : RS.n = decide (wrap64 (wrap64 a - wrap64 b) < 0) := by rw [h, less31]; exact cmp_n a b
  have hnv : (RS.n == RS.v) = decide (wrap64 b ≤ wrap64 a) := by rw [h, less31]; exact cmp_v a1 a2 b1 b2
  have inj : a = b ↔ wrap64 a = wrap64 b := by unfold wrap64; omega
  clear h
  have vv : (wantA a b RS.v)[j]? = some (.bool (RS.hv j)) ↔ True := by
    match j, hj with
    | 0, _ => simp [wantA, Rg.hv, hz]
    | 1, _ => simp [wantA, Rg.hv, hz, bne]
    | 2, _ => simp [wantA, Rg.hv, hc]
    | 3, _ => simp [wantA, Rg.hv, hc]; rw [Bool.eq_iff_iff]; simp
    | 4, _ => simp [wantA, Rg.hv, hn]
    | 5, _ => simp [wantA, Rg.hv, hn]; rw [Bool.eq_iff_iff]; simp
    | 6, _ => simp [wantA, Rg.hv]
    | 7, _ => simp [wantA, Rg.hv]
    | 8, _ => simp only [wantA, Rg.hv, hc, hz]; simp; rw [Bool.eq_iff_iff]; simp; omega
    | 9, _ => simp only [wantA, Rg.hv, hc, hz]; simp; rw [Bool.eq_iff_iff]; simp; omega
    | 10, _ => simp only [wantA, Rg.hv, hnv]; simp
    | 11, _ => simp only [wantA, Rg.hv, hnv]; simp; rw [Bool.eq_iff_iff]; simp
    | 12, _ => simp only [wantA, Rg.hv, hnv, hz]; simp; rw [Bool.eq_iff_iff]; simp; omega
    | 13, _ => simp only [wantA, Rg.hv, hnv, hz]; simp; rw [Bool.eq_iff_iff]; simp; omega
    | 14, _ => simp [wantA, Rg.hv]
    | 15, _ => simp [wantA, Rg.hv]
    | k + 16, h => exact absurd h (by omega)
  exact vv.2 trivial
end Go.Proofs.Ytpjfjdncdiemlaa
