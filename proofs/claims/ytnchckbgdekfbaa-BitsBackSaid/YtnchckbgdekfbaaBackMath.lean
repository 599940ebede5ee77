import Derived.Test.YtnchckbgdekfbaaField
import Derived.Test.YtnchckbgdekfbaaArith
namespace Go.Proofs.Ytnchckbgdekfbaa
open Go.RowKit
set_option linter.unusedVariables false

theorem fieldS_range (x lo n : Int) (hx : 0 ≤ x) (hx' : x < 4294967296) : 0 ≤ fieldS x lo n ∧ fieldS x lo n < 4294967296 := by
  unfold fieldS
  split
  · rename_i h
    have h5 := Int.emod_lt_of_pos (x / 2 ^ lo.toNat) (pow_pos' n.toNat)
    have h6 := pow_le32 n.toNat (by omega)
    have h7 := Int.emod_nonneg (x / 2 ^ lo.toNat) (show (2 : Int) ^ n.toNat ≠ 0 by have := pow_pos' n.toNat; omega)
    omega
  · omega
theorem putS_range (x lo n v : Int) (hx : 0 ≤ x) (hx' : x < 4294967296) : 0 ≤ putS x lo n v ∧ putS x lo n v < 4294967296 := by
  unfold putS
  split
  · have := putN_lt x.toNat lo.toNat n.toNat v.toNat (by omega) (by omega)
    omega
  · omega
theorem fieldS_nat (X : Nat) (lo n : Int) (h : 0 ≤ lo ∧ lo ≤ 31 ∧ 1 ≤ n ∧ n ≤ 32 - lo) : fieldS (X : Int) lo n = ((X / 2 ^ lo.toNat % 2 ^ n.toNat : Nat) : Int) := by
  unfold fieldS; rw [if_pos h]; simp
theorem back1 (x lo n v : Int) (hx : 0 ≤ x) (hx' : x < 4294967296) (hv : 0 ≤ v) (h : 0 ≤ lo ∧ lo ≤ 31 ∧ 1 ≤ n ∧ n ≤ 32 - lo) : fieldS (putS x lo n v) lo n = fieldS v 0 n := by
  have e : putS x lo n v = ((putN x.toNat lo.toNat n.toNat v.toNat : Nat) : Int) := if_pos h
  obtain ⟨V, rfl⟩ := Int.eq_ofNat_of_zero_le hv
  rw [e, fieldS_nat _ lo n h, fieldS_nat _ 0 n (by omega), field_putN _ _ _ _ (by omega) (by omega)]
  simp
theorem back2 (x lo n v : Int) (hx : 0 ≤ x) (hx' : x < 4294967296) (h : 0 ≤ lo ∧ lo ≤ 31 ∧ 1 ≤ n ∧ n ≤ 32 - lo) : putS (putS x lo n v) lo n (fieldS x lo n) = x := by
  obtain ⟨X, rfl⟩ := Int.eq_ofNat_of_zero_le hx
  have e : putS (X : Int) lo n v = ((putN (X : Int).toNat lo.toNat n.toNat v.toNat : Nat) : Int) := if_pos h
  rw [e, fieldS_nat _ lo n h]
  unfold putS
  rw [if_pos h]
  simp only [Int.toNat_natCast]
  rw [putN_back _ _ _ _ (by omega) (by omega)]
theorem fits_back (v n : Int) (h : fitsG v n = true) : sextG (v % 18446744073709551616) n = v := by
  unfold fitsG at h
  split at h
  · rename_i hn
    unfold sextG
    rw [if_pos hn]
    have := fits_sext v n.toNat (by omega) (by omega)
    rw [h] at this
    simpa using this
  · cases h
theorem fits_all (v : Int) (h : -9223372036854775808 ≤ v) (h' : v < 9223372036854775808) : fitsG v 64 = true := by
  unfold fitsG fitsS
  rw [if_pos (by decide)]
  simp
  exact ⟨h, h'⟩
theorem wrap64_mod (x : Int) : wrap64 x % 18446744073709551616 = x % 18446744073709551616 := by unfold wrap64; omega
theorem wrap64_congr (x y : Int) (h : x % 18446744073709551616 = y % 18446744073709551616) : wrap64 x = wrap64 y := by unfold wrap64; omega
theorem back3 (a b : Int) (h : -9223372036854775808 ≤ a) (h' : a < 9223372036854775808) : wrap64 (wrap64 (divS a b * b) + remS a b) = a := by
  unfold remS
  generalize wrap64 (divS a b * b) = t
  have e : wrap64 (t + wrap64 (a - t)) = wrap64 a := by
    apply wrap64_congr
    have := wrap64_mod (a - t)
    omega
  rw [e]
  unfold wrap64; omega
theorem rem_tmod (a b : Int) (hb : b ≠ 0) (h : -9223372036854775808 ≤ a) (h' : a < 9223372036854775808) : remS a b = a.tmod b := by
  have hd : divS a b = wrap64 (a.tdiv b) := if_neg hb
  have hm : a.tdiv b * b + a.tmod b = a := by have := Int.tmod_add_mul_tdiv a b; rw [Int.mul_comm]; omega
  have hr : -9223372036854775808 ≤ a.tmod b ∧ a.tmod b < 9223372036854775808 := by
    have h1 : (a.tmod b).natAbs ≤ a.natAbs := by
      rw [Int.natAbs_tmod]; exact Nat.mod_le _ _
    by_cases h0 : 0 ≤ a
    · have := Int.tmod_nonneg b h0; omega
    · have h2 : 0 ≤ (-a).tmod b := Int.tmod_nonneg b (by omega)
      rw [Int.neg_tmod] at h2
      omega
  unfold remS
  rw [hd]
  have e1 : wrap64 (wrap64 (a.tdiv b) * b) = wrap64 (a.tdiv b * b) := by
    apply wrap64_congr
    rw [Int.mul_emod, wrap64_mod, ← Int.mul_emod]
  rw [e1]
  have e2 : wrap64 (a - wrap64 (a.tdiv b * b)) = wrap64 (a.tmod b) := by
    apply wrap64_congr
    have := wrap64_mod (a.tdiv b * b)
    omega
  rw [e2]
  unfold wrap64; omega
theorem rem_sign (a b : Int) (hb : b ≠ 0) (h : -9223372036854775808 ≤ a) (h' : a < 9223372036854775808) : (0 ≤ a → 0 ≤ remS a b) ∧ (a < 0 → remS a b ≤ 0) := by
  rw [rem_tmod a b hb h h']
  refine ⟨fun h0 => Int.tmod_nonneg b h0, fun h0 => ?_⟩
  have h2 : 0 ≤ (-a).tmod b := Int.tmod_nonneg b (by omega)
  rw [Int.neg_tmod] at h2
  omega
end Go.Proofs.Ytnchckbgdekfbaa
