import Derived.Test.YtnchckbgdekfbaaRows
import Derived.Test.YtnchckbgdekfbaaMath
import Derived.Test.YtnchckbgdekfbaaArith
import Derived.Test.YtnchckbgdekfbaaHexMath
import Derived.Test.YtnchckbgdekfbaaAdd
import Derived.Test.YtnchckbgdekfbaaFieldMath
import Derived.Test.YtnchckbgdekfbaaSextMath
import Derived.WalkKit
import Derived.ProofKit
import Derived.OpenShut
import Derived.Deep.QuietTactic
import Derived.BigQuiet
import Derived.StillTailTactics
import Derived.Outline
import Derived.Lib.Hide
namespace Go.Proofs.Ytnchckbgdekfbaa
open Go.ChangeShapes Go.WideShapes Go.ChangeAt Go.RowKit
set_option linter.unusedVariables false

/-! ### Fields -/
theorem isField_y (lo n : Int) (w : World) (h1 : 0 ≤ lo) (h2 : lo ≤ 31) (h3 : 1 ≤ n) (h4 : n ≤ 32 - lo) : Calls Try.prog 31 #[.int .i64 lo, .int .i64 n] w fun e w' => e = .returned (.bool true) ∧ w = w' := by
  have h5 : decide (n ≤ 32 - lo) = true := by simpa using h4
  go_enter Try.func31, Try.ntmps31
  go_wp2
  go_ret
  exact ⟨rfl, rfl⟩
theorem isField_n (lo n : Int) (w : World) (h : ¬ (0 ≤ lo ∧ lo ≤ 31 ∧ 1 ≤ n ∧ n ≤ 32 - lo)) : Calls Try.prog 31 #[.int .i64 lo, .int .i64 n] w fun e w' => e = .returned (.bool false) ∧ w = w' := by
  by_cases h1 : 0 ≤ lo ∧ lo ≤ 31 ∧ 1 ≤ n
  · have h5 : decide (n ≤ 32 - lo) = false := decide_eq_false (by omega)
    obtain ⟨a, b, c⟩ := h1
    clear h
    go_enter Try.func31, Try.ntmps31
    go_wp2
    go_ret
    exact ⟨rfl, rfl⟩
  · clear h
    go_enter Try.func31, Try.ntmps31
    go_wp2
    all_goals (go_ret; exact ⟨rfl, rfl⟩)
theorem mask_c (n : Int) (w : World) (h3 : 1 ≤ n) (h4 : n ≤ 32) : Calls Try.prog 32 #[.int .i64 n] w fun e w' => e = .returned (.int .u32 (2 ^ n.toNat - 1)) ∧ w' = w := by
  have hl : (2 : Int) ^ n.toNat ≤ 4294967296 := by
    have : 2 ^ n.toNat ≤ 2 ^ 32 := Nat.pow_le_pow_right (by decide) (by omega)
    rw [show (2 : Nat) ^ 32 = 4294967296 from rfl] at this
    have hc : (2 : Int) ^ n.toNat = ((2 ^ n.toNat : Nat) : Int) := by simp
    omega
  have hp := pow_pos' n.toNat
  have HL := Lib.hid hl
  have HP := Lib.hid hp
  clear hl hp
  go_enter Try.func32, Try.ntmps32
  go_wp2
  go_ret
  exact ⟨ret_int (by have := HL.out; have := HP.out; omega), rfl⟩
theorem rmask_c (n : Int) (w : World) (h3 : 1 ≤ n) (h4 : n ≤ 64) : Calls Try.prog 33 #[.int .i64 n] w fun e w' => e = .returned (.int .u64 (2 ^ n.toNat - 1)) ∧ w = w' := by
  by_cases hn : n = 64
  · subst hn
    go_enter Try.func33, Try.ntmps33
    go_wp2
    go_ret
    exact ⟨ret_int (by decide), rfl⟩
  · have hl : (2 : Int) ^ n.toNat ≤ 9223372036854775808 := by
      have : 2 ^ n.toNat ≤ 2 ^ 63 := Nat.pow_le_pow_right (by decide) (by omega)
      rw [show (2 : Nat) ^ 63 = 9223372036854775808 from rfl] at this
      have hc : (2 : Int) ^ n.toNat = ((2 ^ n.toNat : Nat) : Int) := by simp
      omega
    have hp := pow_pos' n.toNat
    have HL := Lib.hid hl
    have HP := Lib.hid hp
    clear hl hp
    have hn' : n < 64 := by omega
    go_enter Try.func33, Try.ntmps33
    go_wp2
    go_ret
    exact ⟨ret_int (by simp only [IntKind.wrap_u64]; have := HL.out; have := HP.out; omega), rfl⟩
def fieldS (x lo n : Int) : Int := if 0 ≤ lo ∧ lo ≤ 31 ∧ 1 ≤ n ∧ n ≤ 32 - lo then x / 2 ^ lo.toNat % 2 ^ n.toNat else 0
theorem field_c (x lo n : Int) (w : World) (hx : 0 ≤ x) (hx' : x < 4294967296) : Calls Try.prog 9 #[.int .u32 x, .int .i64 lo, .int .i64 n] w fun e w' => e = .returned (.int .u32 (fieldS x lo n)) ∧ ∃ m, w' = w.drewN m := by
  by_cases hf : 0 ≤ lo ∧ lo ≤ 31 ∧ 1 ≤ n ∧ n ≤ 32 - lo
  · have HF := Lib.hid (show fieldS x lo n = x / 2 ^ lo.toNat % 2 ^ n.toNat from if_pos hf)
    obtain ⟨h1, h2, h3, h4⟩ := hf
    have hq := udiv_range x (2 ^ lo.toNat) (pow_pos' _) hx (by omega)
    have hq2 : x / 2 ^ lo.toNat < 4294967296 := Int.ediv_lt_of_lt_mul (pow_pos' _) (by have := pow_pos' lo.toNat; omega)
    have ha := and_mask32 (x / 2 ^ lo.toNat) n.toNat (by omega) hq.1 hq2
    clear hq hq2
    go_enter Try.func9, Try.ntmps9
    go_wp2_with (go_at_call 31; refine (isField_y _ _ _ h1 h2 h3 h4).mono ?_; rintro e w' ⟨rfl, rfl⟩)
    go_quiet ((go_at_call 32; exact Calls.quiet_of_same (mask_c _ _ (by omega) (by omega))))
    go_wp2
    go_ret
    exact ⟨ret_int HF.out.symm, _, rfl⟩
  · have HF := Lib.hid (show fieldS x lo n = 0 from if_neg hf)
    have HH := Lib.hid hf
    clear hf
    go_enter Try.func9, Try.ntmps9
    go_wp2_with (go_at_call 31; refine (isField_n _ _ _ HH.out).mono ?_; rintro e w' ⟨rfl, rfl⟩)
    go_ret
    exact ⟨ret_int HF.out.symm, 0, rfl⟩
theorem rfield_c (x lo n : Int) (w : World) (hx : 0 ≤ x) (hx' : x < 4294967296) : Calls Try.prog 10 #[.int .u32 x, .int .i64 lo, .int .i64 n] w fun e w' => e = .returned (.int .u32 (fieldS x lo n)) ∧ w = w' := by
  by_cases hf : 0 ≤ lo ∧ lo ≤ 31 ∧ 1 ≤ n ∧ n ≤ 32 - lo
  · have HF := Lib.hid (show fieldS x lo n = x / 2 ^ lo.toNat % 2 ^ n.toNat from if_pos hf)
    obtain ⟨h1, h2, h3, h4⟩ := hf
    have hq := udiv_range x (2 ^ lo.toNat) (pow_pos' _) hx (by omega)
    have hq2 : x / 2 ^ lo.toNat < 4294967296 := Int.ediv_lt_of_lt_mul (pow_pos' _) (by have := pow_pos' lo.toNat; omega)
    have ha := and_mask (x / 2 ^ lo.toNat) n.toNat (by omega) hq.1 hq.2
    have hb : x / 2 ^ lo.toNat % 2 ^ n.toNat < 4294967296 := by
      have h5 := Int.emod_lt_of_pos (x / 2 ^ lo.toNat) (pow_pos' n.toNat)
      have h6 := pow_le32 n.toNat (by omega)
      omega
    have hb0 : 0 ≤ x / 2 ^ lo.toNat % 2 ^ n.toNat := Int.emod_nonneg _ (by have := pow_pos' n.toNat; omega)
    have HM := Lib.hid (show x / 2 ^ lo.toNat % 2 ^ n.toNat % 4294967296 = x / 2 ^ lo.toNat % 2 ^ n.toNat from Int.emod_eq_of_lt hb0 hb)
    clear hq hq2 hb hb0
    go_enter Try.func10, Try.ntmps10
    go_wp2_with (go_at_call 33; refine (rmask_c _ _ (by omega) (by omega)).mono ?_; rintro e w' ⟨rfl, rfl⟩)
    go_ret
    exact ⟨ret_int (by rw [HF.out]; first | rfl | exact HM.out), rfl⟩
  · have HF := Lib.hid (show fieldS x lo n = 0 from if_neg hf)
    go_enter Try.func10, Try.ntmps10
    go_wp2_with (go_at_call 33; refine (rmask_c _ _ (by omega) (by omega)).mono ?_; rintro e w' ⟨rfl, rfl⟩)
    all_goals (go_ret; exact ⟨ret_int HF.out.symm, rfl⟩)

def putS (x lo n v : Int) : Int := if 0 ≤ lo ∧ lo ≤ 31 ∧ 1 ≤ n ∧ n ≤ 32 - lo then ((putN x.toNat lo.toNat n.toNat v.toNat : Nat) : Int) else x
theorem put_c (x lo n v : Int) (w : World) (hx : 0 ≤ x) (hx' : x < 4294967296) (hv : 0 ≤ v) (hv' : v < 4294967296) : Calls Try.prog 11 #[.int .u32 x, .int .i64 lo, .int .i64 n, .int .u32 v] w fun e w' => e = .returned (.int .u32 (putS x lo n v)) ∧ ∃ m, w' = w.drewN m := by
  by_cases hf : 0 ≤ lo ∧ lo ≤ 31 ∧ 1 ≤ n ∧ n ≤ 32 - lo
  · have HF := Lib.hid (show putS x lo n v = ((putN x.toNat lo.toNat n.toNat v.toNat : Nat) : Int) from if_pos hf)
    obtain ⟨h1, h2, h3, h4⟩ := hf
    have HB := put_bits x.toNat lo.toNat n.toNat v.toNat (by omega) (by omega)
    rw [Int.toNat_of_nonneg hx, Int.toNat_of_nonneg hv] at HB
    have HB := Lib.hid HB
    have ha := and_mask32 v n.toNat (by omega) hv hv'
    go_enter Try.func11, Try.ntmps11
    go_wp2_with (go_at_call 31; refine (isField_y _ _ _ h1 h2 h3 h4).mono ?_; rintro e w' ⟨rfl, rfl⟩)
    go_quiet ((go_at_call 32; exact Calls.quiet_of_same (mask_c _ _ (by omega) (by omega))))
    go_wp2
    go_ret
    exact ⟨ret_int HF.out.symm, _, rfl⟩
  · have HF := Lib.hid (show putS x lo n v = x from if_neg hf)
    have HH := Lib.hid hf
    clear hf
    go_enter Try.func11, Try.ntmps11
    go_wp2_with (go_at_call 31; refine (isField_n _ _ _ HH.out).mono ?_; rintro e w' ⟨rfl, rfl⟩)
    go_ret
    exact ⟨ret_int HF.out.symm, 0, rfl⟩
theorem rput_c (x lo n v : Int) (w : World) (hx : 0 ≤ x) (hx' : x < 4294967296) (hv : 0 ≤ v) (hv' : v < 4294967296) : Calls Try.prog 12 #[.int .u32 x, .int .i64 lo, .int .i64 n, .int .u32 v] w fun e w' => e = .returned (.int .u32 (putS x lo n v)) ∧ w = w' := by
  by_cases hf : 0 ≤ lo ∧ lo ≤ 31 ∧ 1 ≤ n ∧ n ≤ 32 - lo
  · have HF := Lib.hid (show putS x lo n v = ((putN x.toNat lo.toNat n.toNat v.toNat : Nat) : Int) from if_pos hf)
    obtain ⟨h1, h2, h3, h4⟩ := hf
    have HB := put_ref x.toNat lo.toNat n.toNat v.toNat (by omega) (by omega)
    rw [Int.toNat_of_nonneg hx, Int.toNat_of_nonneg hv] at HB
    have HB := Lib.hid HB
    go_enter Try.func12, Try.ntmps12
    go_wp2_with (go_at_call 33; refine (rmask_c _ _ (by omega) (by omega)).mono ?_; rintro e w' ⟨rfl, rfl⟩)
    go_ret
    exact ⟨ret_int HF.out.symm, rfl⟩
  · have HF := Lib.hid (show putS x lo n v = x from if_neg hf)
    go_enter Try.func12, Try.ntmps12
    go_wp2_with (go_at_call 33; refine (rmask_c _ _ (by omega) (by omega)).mono ?_; rintro e w' ⟨rfl, rfl⟩)
    all_goals (go_ret; exact ⟨ret_int HF.out.symm, rfl⟩)

/-! ### Signed numbers -/
def sextG (x n : Int) : Int := if 1 ≤ n ∧ n ≤ 64 then sextS x n.toNat else wrap64 x
theorem sext_c (x n : Int) (w : World) (hx : 0 ≤ x) (hx' : x < 18446744073709551616) : Calls Try.prog 13 #[.int .u64 x, .int .i64 n] w fun e w' => e = .returned (.int .i64 (sextG x n)) ∧ w = w' := by
  by_cases hf : 1 ≤ n ∧ n ≤ 64
  · have HF := Lib.hid (show sextG x n = sextS x n.toNat from if_pos hf)
    obtain ⟨h1, h2⟩ := hf
    have HB := Lib.hid (sext_bits x n.toNat (by omega) (by omega) hx)
    have HE := Lib.hid (show (64 - n).toNat = 64 - n.toNat by omega)
    go_enter Try.func13, Try.ntmps13
    go_wp2
    go_ret
    exact ⟨ret_int (by rw [HE.out, HF.out]; exact HB.out), rfl⟩
  · have HF := Lib.hid (show sextG x n = wrap64 x from if_neg hf)
    rcases Int.lt_or_le n 1 with h1 | h1
    · clear hf
      go_enter Try.func13, Try.ntmps13
      go_wp2
      go_ret
      exact ⟨ret_int HF.out.symm, rfl⟩
    · have h2 : 64 < n := by omega
      have hd : decide (n ≤ 64) = false := decide_eq_false (by omega)
      clear hf
      go_enter Try.func13, Try.ntmps13
      go_wp2
      go_ret
      exact ⟨ret_int HF.out.symm, rfl⟩
theorem rsext_c (x n : Int) (w : World) (hx : 0 ≤ x) (hx' : x < 18446744073709551616) : Calls Try.prog 14 #[.int .u64 x, .int .i64 n] w fun e w' => e = .returned (.int .i64 (sextG x n)) ∧ w = w' := by
  by_cases hf : 1 ≤ n ∧ n ≤ 64
  · have HF := Lib.hid (show sextG x n = sextS x n.toNat from if_pos hf)
    obtain ⟨h1, h2⟩ := hf
    have ha := and_mask x n.toNat (by omega) hx hx'
    obtain ⟨u, hu, hu0, hu1, HU⟩ : ∃ u : Int, x % 2 ^ n.toNat = u ∧ 0 ≤ u ∧ u < 18446744073709551616 ∧ Hid (x % 2 ^ n.toNat = u) := ⟨_, rfl, Int.emod_nonneg _ (by have := pow_pos' n.toNat; omega), by
      have h5 := Int.emod_lt_of_pos x (pow_pos' n.toNat)
      obtain ⟨_, p2, _⟩ := pows n.toNat (by omega) (by omega)
      have hk := pow_pos' (64 - n.toNat)
      have hn := pow_pos' n.toNat
      have : (2 : Int) ^ n.toNat * 1 ≤ (2 : Int) ^ n.toNat * 2 ^ (64 - n.toNat) := Int.mul_le_mul_of_nonneg_left (by omega) (by omega)
      omega, Lib.hid rfl⟩
    rw [hu] at ha
    clear hu
    have HT := Lib.hid (top_bit u n.toNat (by omega) (by omega) hu0 (by rw [← HU.out]; exact Int.emod_lt_of_pos x (pow_pos' _)))
    have hnm : (n - 1).toNat = n.toNat - 1 := by omega
    by_cases hc : u < 2 ^ (n.toNat - 1)
    · have HL := Lib.hid (sext_ref_lo x n.toNat (by omega) (by omega) (by rw [HU.out]; exact hc))
      have ht : (u / 2 ^ (n.toNat - 1) == 1) = false := by rw [Bool.eq_false_iff]; intro h; exact (HT.out.1 (by simpa using h)) hc
      clear hc
      go_enter Try.func14, Try.ntmps14
      go_wp2_with (go_at_call 33; refine (rmask_c _ _ (by omega) (by omega)).mono ?_; rintro e w' ⟨rfl, rfl⟩)
      go_ret
      exact ⟨ret_int (by rw [HF.out, ← HL.out, HU.out]), rfl⟩
    · have HL := Lib.hid (sext_ref_hi x n.toNat (by omega) (by omega) (by rw [HU.out]; exact hc))
      have ht : (u / 2 ^ (n.toNat - 1) == 1) = true := by simpa using HT.out.2 hc
      have hx : bits .xor .u64 IntKind.u64.max (2 ^ n.toNat - 1) = 18446744073709551616 - 2 ^ n.toNat := by
        obtain ⟨_, p2, _⟩ := pows n.toNat (by omega) (by omega)
        have hk := pow_pos' (64 - n.toNat)
        have hn := pow_pos' n.toNat
        have : (2 : Int) ^ n.toNat * 1 ≤ (2 : Int) ^ n.toNat * 2 ^ (64 - n.toNat) := Int.mul_le_mul_of_nonneg_left (by omega) (by omega)
        rw [xor_max _ (by omega) (by omega)]; omega
      have HX := Lib.hid hx
      clear hc hx
      go_enter Try.func14, Try.ntmps14
      go_wp2_with (go_at_call 33; refine (rmask_c _ _ (by omega) (by omega)).mono ?_; rintro e w' ⟨rfl, rfl⟩)
      go_ret
      exact ⟨ret_int (by rw [HF.out, ← HL.out, HU.out, ← HX.out]), rfl⟩
  · have HF := Lib.hid (show sextG x n = wrap64 x from if_neg hf)
    go_enter Try.func14, Try.ntmps14
    go_wp2_with (go_at_call 33; refine (rmask_c _ _ (by omega) (by omega)).mono ?_; rintro e w' ⟨rfl, rfl⟩)
    all_goals (go_ret; exact ⟨ret_int HF.out.symm, rfl⟩)
def fitsG (v n : Int) : Bool := if 1 ≤ n ∧ n ≤ 64 then fitsS v n.toNat else false
theorem fits_c (v n : Int) (w : World) (hv : -9223372036854775808 ≤ v) (hv' : v < 9223372036854775808) : Calls Try.prog 15 #[.int .i64 v, .int .i64 n] w fun e w' => e = .returned (.bool (fitsG v n)) ∧ w = w' := by
  by_cases hf : 1 ≤ n ∧ n ≤ 64
  · have HF := Lib.hid (show fitsG v n = fitsS v n.toNat from if_pos hf)
    obtain ⟨h1, h2⟩ := hf
    obtain ⟨L, hL, HL, hl1, hl2⟩ : ∃ L : Int, wrap64 (-2 ^ (n.toNat - 1)) = L ∧ Hid (L = -2 ^ (n.toNat - 1)) ∧ -9223372036854775808 ≤ L ∧ L < 9223372036854775808 := by
      obtain ⟨_, _, p3⟩ := pows n.toNat (by omega) (by omega)
      have hk := pow_pos' (64 - n.toNat)
      have hn := pow_pos' (n.toNat - 1)
      have : (2 : Int) ^ (n.toNat - 1) * 1 ≤ (2 : Int) ^ (n.toNat - 1) * 2 ^ (64 - n.toNat) := Int.mul_le_mul_of_nonneg_left (by omega) (by omega)
      exact ⟨-2 ^ (n.toNat - 1), by unfold wrap64; omega, Lib.hid rfl, by omega, by omega⟩
    obtain ⟨M, hM, HM⟩ : ∃ M : Int, bits .xor .i64 (-1) L = M ∧ Hid (M = -1 - L) := ⟨_, rfl, Lib.hid (not_i64 L hl1 hl2)⟩
    by_cases hlo : L ≤ v
    · by_cases hhi : v ≤ M
      · go_enter Try.func15, Try.ntmps15
        go_wp2
        go_ret
        exact ⟨ret_bool (by rw [HF.out]; unfold fitsS; have := HL.out; have := HM.out; simp; omega), rfl⟩
      · have hd : decide (v ≤ M) = false := decide_eq_false hhi
        go_enter Try.func15, Try.ntmps15
        go_wp2
        go_ret
        exact ⟨ret_bool (by rw [HF.out]; unfold fitsS; have := HL.out; have := HM.out; simp; omega), rfl⟩
    · go_enter Try.func15, Try.ntmps15
      go_wp2
      go_ret
      exact ⟨ret_bool (by rw [HF.out]; unfold fitsS; have := HL.out; have := HM.out; simp; omega), rfl⟩
  · have HF := Lib.hid (show fitsG v n = false from if_neg hf)
    rcases Int.lt_or_le n 1 with h1 | h1
    · clear hf
      go_enter Try.func15, Try.ntmps15
      go_wp2
      go_ret
      exact ⟨ret_bool HF.out.symm, rfl⟩
    · have h2 : 64 < n := by omega
      have hd : decide (n ≤ 64) = false := decide_eq_false (by omega)
      clear hf
      go_enter Try.func15, Try.ntmps15
      go_wp2
      go_ret
      exact ⟨ret_bool HF.out.symm, rfl⟩
theorem rfits_c (v n : Int) (w : World) (hv : -9223372036854775808 ≤ v) (hv' : v < 9223372036854775808) : Calls Try.prog 16 #[.int .i64 v, .int .i64 n] w fun e w' => e = .returned (.bool (fitsG v n)) ∧ w = w' := by
  have hw : IntKind.u64.wrap v = v % 18446744073709551616 := IntKind.wrap_u64 v
  by_cases hf : 1 ≤ n ∧ n ≤ 64
  · have HF := Lib.hid (show fitsG v n = fitsS v n.toNat from if_pos hf)
    have HS := Lib.hid (show sextG (v % 18446744073709551616) n = sextS (v % 18446744073709551616) n.toNat from if_pos hf)
    have HE := Lib.hid (fits_sext v n.toNat (by omega) (by omega))
    obtain ⟨h1, h2⟩ := hf
    go_enter Try.func16, Try.ntmps16
    go_wp2_with (go_at_call 14; refine (rsext_c _ _ _ (by omega) (by omega)).mono ?_; rintro e w' ⟨rfl, rfl⟩)
    go_ret
    exact ⟨ret_bool (by rw [HF.out, HS.out]; exact HE.out), rfl⟩
  · have HF := Lib.hid (show fitsG v n = false from if_neg hf)
    rcases Int.lt_or_le n 1 with h1 | h1
    · clear hf
      have hd : decide (1 ≤ n) = false := decide_eq_false (by omega)
      go_enter Try.func16, Try.ntmps16
      go_wp2
      go_ret
      exact ⟨ret_bool HF.out.symm, rfl⟩
    · have h2 : 64 < n := by omega
      have hd : decide (n ≤ 64) = false := decide_eq_false (by omega)
      clear hf
      go_enter Try.func16, Try.ntmps16
      go_wp2
      go_ret
      exact ⟨ret_bool HF.out.symm, rfl⟩
end Go.Proofs.Ytnchckbgdekfbaa
