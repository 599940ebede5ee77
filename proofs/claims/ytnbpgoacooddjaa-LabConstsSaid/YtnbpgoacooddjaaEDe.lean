import Derived.Test.YtnbpgoacooddjaaEPt
import Derived.Test.YtnbpgoacooddjaaESm
import Derived.Deep.RegionLaw
namespace Go.Proofs.Ytnbpgoacooddjaa.Fr
end Go.Proofs.Ytnbpgoacooddjaa.Fr
namespace Go.Proofs.Ytnbpgoacooddjaa.En
open Go.Proofs.Ytnbpgoacooddjaa.Fr
open Go.ChangeShapes Go.WideShapes Go.ChangeAt Go.RowKit
set_option linter.unusedVariables false
theorem ret_bool {a b : Bool} (h : a = b) : Ending.returned (.bool a) = .returned (.bool b) := by rw [h]
theorem xor_max (b : Int) (h : 0 ≤ b) (h' : b < 18446744073709551616) : bits .xor .u64 IntKind.u64.max b = 18446744073709551615 - b := by
  obtain ⟨B, rfl⟩ := Int.eq_ofNat_of_zero_le h
  have hB : (BitVec.ofInt 64 (B : Int)).toNat = B := ofInt_u64 B (by omega)
  have hm : BitVec.ofInt 64 IntKind.u64.max = BitVec.allOnes 64 := by decide
  show IntKind.u64.wrap ((BitVec.ofInt 64 IntKind.u64.max ^^^ BitVec.ofInt 64 (B : Int)).toNat : Int) = _
  rw [hm, BitVec.allOnes_xor, BitVec.toNat_not, hB, IntKind.wrap_u64]
  omega
def fieldS (x lo n : Int) : Int := if 0 ≤ lo ∧ lo ≤ 31 ∧ 1 ≤ n ∧ n ≤ 32 - lo then x / 2 ^ lo.toNat % 2 ^ n.toNat else 0
theorem field_c (x lo n : Int) (w : World) (hx : 0 ≤ x) (hx' : x < 4294967296) : Calls Try.prog 93 #[.int .u32 x, .int .i64 lo, .int .i64 n] w fun e w' => e = .returned (.int .u32 (fieldS x lo n)) ∧ ∃ m, w' = w.drewN m := by
  by_cases hf : 0 ≤ lo ∧ lo ≤ 31 ∧ 1 ≤ n ∧ n ≤ 32 - lo
  · have HF := Lib.hid (show fieldS x lo n = x / 2 ^ lo.toNat % 2 ^ n.toNat from if_pos hf)
    obtain ⟨h1, h2, h3, h4⟩ := hf
    have hq := udiv_range x (2 ^ lo.toNat) (pow_pos' _) hx (by omega)
    have hq2 : x / 2 ^ lo.toNat < 4294967296 := Int.ediv_lt_of_lt_mul (pow_pos' _) (by have := pow_pos' lo.toNat; omega)
    have ha := and_mask32 (x / 2 ^ lo.toNat) n.toNat (by omega) hq.1 hq2
    clear hq hq2
    go_enter Try.func93, Try.ntmps93
    go_wp2_with (go_at_call 174; refine (isField_y _ _ _ h1 h2 h3 h4).mono ?_; rintro e w' ⟨rfl, rfl⟩)
    go_quiet ((go_at_call 175; exact Calls.quiet_of_same (mask_c _ _ (by omega) (by omega))))
    go_wp2
    go_ret
    exact ⟨ret_int HF.out.symm, _, rfl⟩
  · have HF := Lib.hid (show fieldS x lo n = 0 from if_neg hf)
    have HH := Lib.hid hf
    clear hf
    go_enter Try.func93, Try.ntmps93
    go_wp2_with (go_at_call 174; refine (isField_n _ _ _ HH.out).mono ?_; rintro e w' ⟨rfl, rfl⟩)
    go_ret
    exact ⟨ret_int HF.out.symm, 0, rfl⟩
def sextG (x n : Int) : Int := if 1 ≤ n ∧ n ≤ 64 then sextS x n.toNat else wrap64 x
theorem bwithin_c (v lo hi : Int) (b : Bool) (w : World) (h : b = decide (lo ≤ v ∧ v ≤ hi)) : Calls Try.prog 199 #[.int .i64 v, .int .i64 lo, .int .i64 hi] w fun e w' => e = .returned (.bool b) ∧ w = w' := by
  have H := Lib.hid h
  clear h
  by_cases h1 : lo ≤ v
  · by_cases h2 : v ≤ hi
    · go_enter Try.func199, Try.ntmps199
      go_wp2
      go_ret
      exact ⟨ret_bool (by rw [H.out]; simp; omega), rfl⟩
    · have hd : decide (v ≤ hi) = false := decide_eq_false h2
      go_enter Try.func199, Try.ntmps199
      go_wp2
      go_ret
      exact ⟨ret_bool (by rw [H.out]; simp; omega), rfl⟩
  · have hd : decide (lo ≤ v) = false := decide_eq_false h1
    go_enter Try.func199, Try.ntmps199
    go_wp2
    go_ret
    exact ⟨ret_bool (by rw [H.out]; simp; omega), rfl⟩
theorem sext_c (x n : Int) (w : World) (hx : 0 ≤ x) (hx' : x < 18446744073709551616) : Calls Try.prog 176 #[.int .u64 x, .int .i64 n] w fun e w' => e = .returned (.int .i64 (sextG x n)) ∧ w = w' := by
  by_cases hf : 1 ≤ n ∧ n ≤ 64
  · have HF := Lib.hid (show sextG x n = sextS x n.toNat from if_pos hf)
    obtain ⟨h1, h2⟩ := hf
    have HB := Lib.hid (sext_bits x n.toNat (by omega) (by omega) hx)
    have HE := Lib.hid (show (64 - n).toNat = 64 - n.toNat by omega)
    go_enter Try.func176, Try.ntmps176
    go_wp2_with (go_at_call 199; refine (bwithin_c _ _ _ true _ (decide_eq_true ⟨h1, h2⟩).symm).mono ?_; rintro e w' ⟨rfl, rfl⟩)
    go_ret
    exact ⟨ret_int (by rw [HE.out, HF.out]; exact HB.out), rfl⟩
  · have HF := Lib.hid (show sextG x n = wrap64 x from if_neg hf)
    have HH := Lib.hid (decide_eq_false hf).symm
    clear hf
    go_enter Try.func176, Try.ntmps176
    go_wp2_with (go_at_call 199; refine (bwithin_c _ _ _ false _ HH.out).mono ?_; rintro e w' ⟨rfl, rfl⟩)
    go_ret
    exact ⟨ret_int HF.out.symm, rfl⟩
end Go.Proofs.Ytnbpgoacooddjaa.En
