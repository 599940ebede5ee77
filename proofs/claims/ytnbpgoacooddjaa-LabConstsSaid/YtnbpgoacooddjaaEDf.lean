import Derived.Test.YtnbpgoacooddjaaEDe
import Derived.BigGuardPart
import Derived.Below
namespace Go.Proofs.Ytnbpgoacooddjaa.Fr
end Go.Proofs.Ytnbpgoacooddjaa.Fr
namespace Go.Proofs.Ytnbpgoacooddjaa.En
open Go.Proofs.Ytnbpgoacooddjaa.Fr
open Go.ChangeShapes Go.WideShapes Go.ChangeAt Go.RowKit
set_option linter.unusedVariables false
/-- A field of a word. -/
def fd (x : Int) (lo n : Nat) : Int := x / 2 ^ lo % 2 ^ n
theorem fd_range (x : Int) (lo n : Nat) : 0 ≤ fd x lo n ∧ fd x lo n < 2 ^ n := ⟨Int.emod_nonneg _ (by have := pow_pos' n; omega), Int.emod_lt_of_pos _ (pow_pos' n)⟩
theorem fd_lt (x : Int) (lo n : Nat) (h : n ≤ 32) : 0 ≤ fd x lo n ∧ fd x lo n < 4294967296 := by
  have h1 := fd_range x lo n
  have := pow_le32 n h
  omega
theorem fieldv (x : Int) (lo n : Nat) (a b : Int) (ha : a = (lo : Int)) (hb : b = (n : Int)) (h1 : lo ≤ 31) (h2 : 1 ≤ n) (h3 : n ≤ 32 - lo) (w : World) (hx : 0 ≤ x) (hx' : x < 4294967296) : Calls Try.prog 93 #[.int .u32 x, .int .i64 a, .int .i64 b] w fun e w' => e = .returned (.int .u32 (fd x lo n)) ∧ ∃ m, w' = w.drewN m := by
  subst ha hb
  refine (field_c x lo n w hx hx').mono ?_
  rintro e w' ⟨rfl, h⟩
  refine ⟨ret_int ?_, h⟩
  unfold fieldS fd
  rw [if_pos (by omega)]
  simp
theorem part_c (x : Int) (lo n : Nat) (a b : Int) (ha : a = (lo : Int)) (hb : b = (n : Int)) (h1 : lo ≤ 31) (h2 : 1 ≤ n) (h3 : n ≤ 32 - lo) (w : World) (hx : 0 ≤ x) (hx' : x < 4294967296) : Calls Try.prog 95 #[.int .u32 x, .int .i64 a, .int .i64 b] w fun e w' => e = .returned (.int .i64 (fd x lo n)) ∧ ∃ m, w' = w.drewN m := by
  have hr := fd_lt x lo n (by omega)
  have hc := fun w => fieldv x lo n a b ha hb h1 h2 h3 w hx hx'
  generalize fd x lo n = f at hr hc ⊢
  clear ha hb h1 h2 h3
  go_enter Try.func95, Try.ntmps95
  go_wp2_with (go_at_call 93; refine (hc _).mono ?_; rintro e w' ⟨rfl, m, rfl⟩)
  go_ret
  exact ⟨rfl, _, rfl⟩
theorem d_c (x : Int) (w : World) (hx : 0 ≤ x) (hx' : x < 4294967296) : Calls Try.prog 96 #[.int .u32 x] w fun e w' => e = .returned (.int .i64 (fd x 0 5)) ∧ ∃ m, w' = w.drewN m := by
  go_enter Try.func96, Try.ntmps96
  go_wp2_with (go_at_call 95; refine (part_c x 0 5 0 5 rfl rfl (by omega) (by omega) (by omega) _ hx hx').mono ?_; rintro e w' ⟨rfl, m, rfl⟩)
  go_ret
  exact ⟨rfl, _, rfl⟩
theorem n_c (x : Int) (w : World) (hx : 0 ≤ x) (hx' : x < 4294967296) : Calls Try.prog 99 #[.int .u32 x] w fun e w' => e = .returned (.int .i64 (fd x 5 5)) ∧ ∃ m, w' = w.drewN m := by
  go_enter Try.func99, Try.ntmps99
  go_wp2_with (go_at_call 95; refine (part_c x 5 5 5 5 rfl rfl (by omega) (by omega) (by omega) _ hx hx').mono ?_; rintro e w' ⟨rfl, m, rfl⟩)
  go_ret
  exact ⟨rfl, _, rfl⟩
theorem m_c (x : Int) (w : World) (hx : 0 ≤ x) (hx' : x < 4294967296) : Calls Try.prog 100 #[.int .u32 x] w fun e w' => e = .returned (.int .i64 (fd x 16 5)) ∧ ∃ m, w' = w.drewN m := by
  go_enter Try.func100, Try.ntmps100
  go_wp2_with (go_at_call 95; refine (part_c x 16 5 16 5 rfl rfl (by omega) (by omega) (by omega) _ hx hx').mono ?_; rintro e w' ⟨rfl, m, rfl⟩)
  go_ret
  exact ⟨rfl, _, rfl⟩
/-- The bytes that a field of words says. -/
def off (x : Int) (lo n : Nat) : Int := sextS (fd x lo n) n * 4
theorem off_range (x : Int) (lo n : Nat) (h1 : 1 ≤ n) (h2 : n ≤ 32) : -8589934592 ≤ sextS (fd x lo n) n * 4 ∧ sextS (fd x lo n) n * 4 < 8589934592 ∧ -2147483648 ≤ sextS (fd x lo n) n ∧ sextS (fd x lo n) n < 2147483648 := by
  have h3 := sextS_range (fd x lo n) n h1 (by omega)
  have h4 : (2 : Int) ^ (n - 1) ≤ 2147483648 := by
    have : 2 ^ (n - 1) ≤ 2 ^ 31 := Nat.pow_le_pow_right (by decide) (by omega)
    have hc : (2 : Int) ^ (n - 1) = ((2 ^ (n - 1) : Nat) : Int) := by simp
    rw [hc]; have h5 : (2 : Nat) ^ 31 = 2147483648 := rfl; omega
  omega
theorem offset_c (x : Int) (lo n : Nat) (a b : Int) (ha : a = (lo : Int)) (hb : b = (n : Int)) (h1 : lo ≤ 31) (h2 : 1 ≤ n) (h3 : n ≤ 32 - lo) (w : World) (hx : 0 ≤ x) (hx' : x < 4294967296) : Calls Try.prog 98 #[.int .u32 x, .int .i64 a, .int .i64 b] w fun e w' => e = .returned (.int .i64 (off x lo n)) ∧ ∃ m, w' = w.drewN m := by
  have hr := fd_lt x lo n (by omega)
  have ho := off_range x lo n h2 (by omega)
  have hg : sextG (fd x lo n) b = sextS (fd x lo n) n := by unfold sextG; rw [if_pos (by omega), hb]; simp
  have hc := fun w => fieldv x lo n a b ha hb h1 h2 h3 w hx hx'
  have hs := fun w => sext_c (fd x lo n) b w hr.1 (by omega)
  unfold off
  rw [hg] at hs
  clear hg
  generalize sextS (fd x lo n) n = s at ho hs ⊢
  generalize fd x lo n = f at hr hc hs
  clear ha hb h1 h2 h3
  go_enter Try.func98, Try.ntmps98
  go_wp2_with (first | (go_at_call 93; refine (hc _).mono ?_; rintro e w' ⟨rfl, m, rfl⟩) | (go_at_call 176; refine (hs _).mono ?_; rintro e w' ⟨rfl, rfl⟩))
  go_ret
  exact ⟨rfl, _, rfl⟩
theorem near_c (x : Int) (w : World) (hx : 0 ≤ x) (hx' : x < 4294967296) : Calls Try.prog 94 #[.int .u32 x] w fun e w' => e = .returned (.int .i64 (off x 5 19)) ∧ ∃ m, w' = w.drewN m := by
  go_enter Try.func94, Try.ntmps94
  go_wp2_with (go_at_call 98; refine (offset_c x 5 19 5 19 rfl rfl (by omega) (by omega) (by omega) _ hx hx').mono ?_; rintro e w' ⟨rfl, m, rfl⟩)
  go_ret
  exact ⟨rfl, _, rfl⟩
theorem pick_c (t : Bool) (a b : Int) (w : World) : Calls Try.prog 97 #[.bool t, .int .i64 a, .int .i64 b] w fun e w' => e = .returned (.int .i64 (if t then a else b)) ∧ w = w' := by
  cases t
  all_goals
    go_enter Try.func97, Try.ntmps97
    go_wp2
    go_ret
    exact ⟨rfl, rfl⟩
end Go.Proofs.Ytnbpgoacooddjaa.En
