import Derived.Test.YthgpolddbadfmaaPt
import Derived.Test.YthgpolddbadfmaaSm
import Derived.Deep.RegionLaw
namespace Go.Proofs.Ythgpolddbadfmaa
open Go.ChangeShapes Go.WideShapes Go.ChangeAt Go.RowKit
set_option linter.unusedVariables false
theorem ret_bool {a b : Bool} (h : a = b) : Ending.returned (.bool a) = .returned (.bool b) := by rw [h]
theorem xor_max (b : Int) (h : 0 ≤ b) (h' : b < 18446744073709551616) : bits .xor .u64 IntKind.u64.max b = 18446744073709551615 - b := by
  obtain ⟨B, rfl⟩ := Int.eq_ofNat_of_zero_le h
  have hB : (BitVec.ofInt 64 (B : Int)).toNat = B := ofInt_u64 B (by omega)
  have hm : BitVec.ofInt 64 IntKind.u64.max = BitVec.allOnes 64 := by decide
  show IntKind.u64.wrap ((BitVec.ofInt 64 IntKind.u64.max ^^^ BitVec.ofInt 64 (B : Int)).toNat : Int) = _
  rw [hm, BitVec.allOnes_xor, BitVec.toNat_not, hB, IntKind.wrap_u64]
  omega
theorem rmask_c (n : Int) (w : World) (h3 : 1 ≤ n) (h4 : n ≤ 64) : Calls Try.prog 79 #[.int .i64 n] w fun e w' => e = .returned (.int .u64 (2 ^ n.toNat - 1)) ∧ w = w' := by
  by_cases hn : n = 64
  · subst hn
    go_enter Try.func79, Try.ntmps79
    go_wp2
    go_ret
    exact ⟨ret_int (by decide), rfl⟩
  · have hl : (2 : Int) ^ n.toNat ≤ 9223372036854775808 := by
      have : 2 ^ n.toNat ≤ 2 ^ 63 := Nat.pow_le_pow_right (by decide) (by omega)
      rw [show (2 : Nat) ^ 63 = 9223372036854775808 from rfl] at this
      have hc : (2 : Int) ^ n.toNat = ((2 ^ n.toNat : Nat) : Int) := by simp
      omega
    have hp := pow_pos' n.toNat
    have HL := Lib.hid hl
    have HP := Lib.hid hp
    clear hl hp
    have hn' : n < 64 := by omega
    go_enter Try.func79, Try.ntmps79
    go_wp2
    go_ret
    exact ⟨ret_int (by simp only [IntKind.wrap_u64]; have := HL.out; have := HP.out; omega), rfl⟩
def fieldS (x lo n : Int) : Int := if 0 ≤ lo ∧ lo ≤ 31 ∧ 1 ≤ n ∧ n ≤ 32 - lo then x / 2 ^ lo.toNat % 2 ^ n.toNat else 0
theorem field_c (x lo n : Int) (w : World) (hx : 0 ≤ x) (hx' : x < 4294967296) : Calls Try.prog 33 #[.int .u32 x, .int .i64 lo, .int .i64 n] w fun e w' => e = .returned (.int .u32 (fieldS x lo n)) ∧ ∃ m, w' = w.drewN m := by
  by_cases hf : 0 ≤ lo ∧ lo ≤ 31 ∧ 1 ≤ n ∧ n ≤ 32 - lo
  · have HF := Lib.hid (show fieldS x lo n = x / 2 ^ lo.toNat % 2 ^ n.toNat from if_pos hf)
    obtain ⟨h1, h2, h3, h4⟩ := hf
    have hq := udiv_range x (2 ^ lo.toNat) (pow_pos' _) hx (by omega)
    have hq2 : x / 2 ^ lo.toNat < 4294967296 := Int.ediv_lt_of_lt_mul (pow_pos' _) (by have := pow_pos' lo.toNat; omega)
    have ha := and_mask32 (x / 2 ^ lo.toNat) n.toNat (by omega) hq.1 hq2
    clear hq hq2
    go_enter Try.func33, Try.ntmps33
    go_wp2_with (go_at_call 55; refine (isField_y _ _ _ h1 h2 h3 h4).mono ?_; rintro e w' ⟨rfl, rfl⟩)
    go_quiet ((go_at_call 56; exact Calls.quiet_of_same (mask_c _ _ (by omega) (by omega))))
    go_wp2
    go_ret
    exact ⟨ret_int HF.out.symm, _, rfl⟩
  · have HF := Lib.hid (show fieldS x lo n = 0 from if_neg hf)
    have HH := Lib.hid hf
    clear hf
    go_enter Try.func33, Try.ntmps33
    go_wp2_with (go_at_call 55; refine (isField_n _ _ _ HH.out).mono ?_; rintro e w' ⟨rfl, rfl⟩)
    go_ret
    exact ⟨ret_int HF.out.symm, 0, rfl⟩
def sextG (x n : Int) : Int := if 1 ≤ n ∧ n ≤ 64 then sextS x n.toNat else wrap64 x
theorem bwithin_c (v lo hi : Int) (b : Bool) (w : World) (h : b = decide (lo ≤ v ∧ v ≤ hi)) : Calls Try.prog 78 #[.int .i64 v, .int .i64 lo, .int .i64 hi] w fun e w' => e = .returned (.bool b) ∧ w = w' := by
  have H := Lib.hid h
  clear h
  by_cases h1 : lo ≤ v
  · by_cases h2 : v ≤ hi
    · go_enter Try.func78, Try.ntmps78
      go_wp2
      go_ret
      exact ⟨ret_bool (by rw [H.out]; simp; omega), rfl⟩
    · have hd : decide (v ≤ hi) = false := decide_eq_false h2
      go_enter Try.func78, Try.ntmps78
      go_wp2
      go_ret
      exact ⟨ret_bool (by rw [H.out]; simp; omega), rfl⟩
  · have hd : decide (lo ≤ v) = false := decide_eq_false h1
    go_enter Try.func78, Try.ntmps78
    go_wp2
    go_ret
    exact ⟨ret_bool (by rw [H.out]; simp; omega), rfl⟩
theorem sext_c (x n : Int) (w : World) (hx : 0 ≤ x) (hx' : x < 18446744073709551616) : Calls Try.prog 57 #[.int .u64 x, .int .i64 n] w fun e w' => e = .returned (.int .i64 (sextG x n)) ∧ w = w' := by
  by_cases hf : 1 ≤ n ∧ n ≤ 64
  · have HF := Lib.hid (show sextG x n = sextS x n.toNat from if_pos hf)
    obtain ⟨h1, h2⟩ := hf
    have HB := Lib.hid (sext_bits x n.toNat (by omega) (by omega) hx)
    have HE := Lib.hid (show (64 - n).toNat = 64 - n.toNat by omega)
    go_enter Try.func57, Try.ntmps57
    go_wp2_with (go_at_call 78; refine (bwithin_c _ _ _ true _ (decide_eq_true ⟨h1, h2⟩).symm).mono ?_; rintro e w' ⟨rfl, rfl⟩)
    go_ret
    exact ⟨ret_int (by rw [HE.out, HF.out]; exact HB.out), rfl⟩
  · have HF := Lib.hid (show sextG x n = wrap64 x from if_neg hf)
    have HH := Lib.hid (decide_eq_false hf).symm
    clear hf
    go_enter Try.func57, Try.ntmps57
    go_wp2_with (go_at_call 78; refine (bwithin_c _ _ _ false _ HH.out).mono ?_; rintro e w' ⟨rfl, rfl⟩)
    go_ret
    exact ⟨ret_int HF.out.symm, rfl⟩
theorem rsext_c (x n : Int) (w : World) (hx : 0 ≤ x) (hx' : x < 18446744073709551616) : Calls Try.prog 58 #[.int .u64 x, .int .i64 n] w fun e w' => e = .returned (.int .i64 (sextG x n)) ∧ w = w' := by
  by_cases hf : 1 ≤ n ∧ n ≤ 64
  · have HF := Lib.hid (show sextG x n = sextS x n.toNat from if_pos hf)
    obtain ⟨h1, h2⟩ := hf
    have ha := and_mask x n.toNat (by omega) hx hx'
    obtain ⟨u, hu, hu0, hu1, HU⟩ : ∃ u : Int, x % 2 ^ n.toNat = u ∧ 0 ≤ u ∧ u < 18446744073709551616 ∧ Hid (x % 2 ^ n.toNat = u) := ⟨_, rfl, Int.emod_nonneg _ (by have := pow_pos' n.toNat; omega), by
      have h5 := Int.emod_lt_of_pos x (pow_pos' n.toNat)
      obtain ⟨_, p2, _⟩ := pows n.toNat (by omega) (by omega)
      have hk := pow_pos' (64 - n.toNat)
      have hn := pow_pos' n.toNat
      have : (2 : Int) ^ n.toNat * 1 ≤ (2 : Int) ^ n.toNat * 2 ^ (64 - n.toNat) := Int.mul_le_mul_of_nonneg_left (by omega) (by omega)
      omega, Lib.hid rfl⟩
    rw [hu] at ha
    clear hu
    have HT := Lib.hid (top_bit u n.toNat (by omega) (by omega) hu0 (by rw [← HU.out]; exact Int.emod_lt_of_pos x (pow_pos' _)))
    have hnm : (n - 1).toNat = n.toNat - 1 := by omega
    by_cases hc : u < 2 ^ (n.toNat - 1)
    · have HL := Lib.hid (sext_ref_lo x n.toNat (by omega) (by omega) (by rw [HU.out]; exact hc))
      have ht : (u / 2 ^ (n.toNat - 1) == 1) = false := by rw [Bool.eq_false_iff]; intro h; exact (HT.out.1 (by simpa using h)) hc
      clear hc
      go_enter Try.func58, Try.ntmps58
      go_wp2_with (go_at_call 79; refine (rmask_c _ _ (by omega) (by omega)).mono ?_; rintro e w' ⟨rfl, rfl⟩)
      go_ret
      exact ⟨ret_int (by rw [HF.out, ← HL.out, HU.out]), rfl⟩
    · have HL := Lib.hid (sext_ref_hi x n.toNat (by omega) (by omega) (by rw [HU.out]; exact hc))
      have ht : (u / 2 ^ (n.toNat - 1) == 1) = true := by simpa using HT.out.2 hc
      have hx : bits .xor .u64 IntKind.u64.max (2 ^ n.toNat - 1) = 18446744073709551616 - 2 ^ n.toNat := by
        obtain ⟨_, p2, _⟩ := pows n.toNat (by omega) (by omega)
        have hk := pow_pos' (64 - n.toNat)
        have hn := pow_pos' n.toNat
        have : (2 : Int) ^ n.toNat * 1 ≤ (2 : Int) ^ n.toNat * 2 ^ (64 - n.toNat) := Int.mul_le_mul_of_nonneg_left (by omega) (by omega)
        rw [xor_max _ (by omega) (by omega)]; omega
      have HX := Lib.hid hx
      clear hc hx
      go_enter Try.func58, Try.ntmps58
      go_wp2_with (go_at_call 79; refine (rmask_c _ _ (by omega) (by omega)).mono ?_; rintro e w' ⟨rfl, rfl⟩)
      go_ret
      exact ⟨ret_int (by rw [HF.out, ← HL.out, HU.out, ← HX.out]), rfl⟩
  · have HF := Lib.hid (show sextG x n = wrap64 x from if_neg hf)
    go_enter Try.func58, Try.ntmps58
    go_wp2_with (go_at_call 79; refine (rmask_c _ _ (by omega) (by omega)).mono ?_; rintro e w' ⟨rfl, rfl⟩)
    all_goals (go_ret; exact ⟨ret_int HF.out.symm, rfl⟩)
end Go.Proofs.Ythgpolddbadfmaa
