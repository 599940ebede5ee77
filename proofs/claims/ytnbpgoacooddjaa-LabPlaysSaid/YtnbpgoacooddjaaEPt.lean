import Derived.Test.YtnbpgoacooddjaaRows
import Derived.Test.YtnbpgoacooddjaaEMa
import Derived.Test.YtnbpgoacooddjaaEMf
import Derived.WalkKit
import Derived.ProofKit
import Derived.OpenShut
import Derived.Deep.QuietTactic
import Derived.BigQuiet
import Derived.StillTailTactics
import Derived.Outline
import Derived.Lib.Hide
namespace Go.Proofs.Ytnbpgoacooddjaa.Fr
end Go.Proofs.Ytnbpgoacooddjaa.Fr
namespace Go.Proofs.Ytnbpgoacooddjaa.En
open Go.Proofs.Ytnbpgoacooddjaa.Fr
open Go.ChangeShapes Go.WideShapes Go.ChangeAt Go.RowKit
set_option linter.unusedVariables false
theorem ret_int {k : IntKind} {a b : Int} (h : a = b) : Ending.returned (.int k a) = .returned (.int k b) := by rw [h]
theorem isField_y (lo n : Int) (w : World) (h1 : 0 ≤ lo) (h2 : lo ≤ 31) (h3 : 1 ≤ n) (h4 : n ≤ 32 - lo) : Calls Try.prog 174 #[.int .i64 lo, .int .i64 n] w fun e w' => e = .returned (.bool true) ∧ w = w' := by
  have h5 : decide (n ≤ 32 - lo) = true := by simpa using h4
  go_enter Try.func174, Try.ntmps174
  go_wp2
  go_ret
  exact ⟨rfl, rfl⟩
theorem isField_n (lo n : Int) (w : World) (h : ¬ (0 ≤ lo ∧ lo ≤ 31 ∧ 1 ≤ n ∧ n ≤ 32 - lo)) : Calls Try.prog 174 #[.int .i64 lo, .int .i64 n] w fun e w' => e = .returned (.bool false) ∧ w = w' := by
  by_cases h1 : 0 ≤ lo ∧ lo ≤ 31 ∧ 1 ≤ n
  · have h5 : decide (n ≤ 32 - lo) = false := decide_eq_false (by omega)
    obtain ⟨a, b, c⟩ := h1
    clear h
    go_enter Try.func174, Try.ntmps174
    go_wp2
    go_ret
    exact ⟨rfl, rfl⟩
  · clear h
    go_enter Try.func174, Try.ntmps174
    go_wp2
    all_goals (go_ret; exact ⟨rfl, rfl⟩)
theorem mask_c (n : Int) (w : World) (h3 : 1 ≤ n) (h4 : n ≤ 32) : Calls Try.prog 175 #[.int .i64 n] w fun e w' => e = .returned (.int .u32 (2 ^ n.toNat - 1)) ∧ w' = w := by
  have hl : (2 : Int) ^ n.toNat ≤ 4294967296 := by
    have : 2 ^ n.toNat ≤ 2 ^ 32 := Nat.pow_le_pow_right (by decide) (by omega)
    rw [show (2 : Nat) ^ 32 = 4294967296 from rfl] at this
    have hc : (2 : Int) ^ n.toNat = ((2 ^ n.toNat : Nat) : Int) := by simp
    omega
  have hp := pow_pos' n.toNat
  have HL := Lib.hid hl
  have HP := Lib.hid hp
  clear hl hp
  go_enter Try.func175, Try.ntmps175
  go_wp2
  go_ret
  exact ⟨ret_int (by have := HL.out; have := HP.out; omega), rfl⟩
def putS (x lo n v : Int) : Int := if 0 ≤ lo ∧ lo ≤ 31 ∧ 1 ≤ n ∧ n ≤ 32 - lo then ((putN x.toNat lo.toNat n.toNat v.toNat : Nat) : Int) else x
theorem put_c (x lo n v : Int) (w : World) (hx : 0 ≤ x) (hx' : x < 4294967296) (hv : 0 ≤ v) (hv' : v < 4294967296) : Calls Try.prog 254 #[.int .u32 x, .int .i64 lo, .int .i64 n, .int .u32 v] w fun e w' => e = .returned (.int .u32 (putS x lo n v)) ∧ ∃ m, w' = w.drewN m := by
  by_cases hf : 0 ≤ lo ∧ lo ≤ 31 ∧ 1 ≤ n ∧ n ≤ 32 - lo
  · have HF := Lib.hid (show putS x lo n v = ((putN x.toNat lo.toNat n.toNat v.toNat : Nat) : Int) from if_pos hf)
    obtain ⟨h1, h2, h3, h4⟩ := hf
    have HB := put_bits x.toNat lo.toNat n.toNat v.toNat (by omega) (by omega)
    rw [Int.toNat_of_nonneg hx, Int.toNat_of_nonneg hv] at HB
    have HB := Lib.hid HB
    have ha := and_mask32 v n.toNat (by omega) hv hv'
    go_enter Try.func254, Try.ntmps254
    go_wp2_with (go_at_call 174; refine (isField_y _ _ _ h1 h2 h3 h4).mono ?_; rintro e w' ⟨rfl, rfl⟩)
    go_quiet ((go_at_call 175; exact Calls.quiet_of_same (mask_c _ _ (by omega) (by omega))))
    go_wp2
    go_ret
    exact ⟨ret_int HF.out.symm, _, rfl⟩
  · have HF := Lib.hid (show putS x lo n v = x from if_neg hf)
    have HH := Lib.hid hf
    clear hf
    go_enter Try.func254, Try.ntmps254
    go_wp2_with (go_at_call 174; refine (isField_n _ _ _ HH.out).mono ?_; rintro e w' ⟨rfl, rfl⟩)
    go_ret
    exact ⟨ret_int HF.out.symm, 0, rfl⟩
end Go.Proofs.Ytnbpgoacooddjaa.En
