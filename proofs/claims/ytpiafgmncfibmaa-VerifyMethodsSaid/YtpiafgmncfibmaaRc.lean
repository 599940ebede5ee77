import Derived.Test.YtpiafgmncfibmaaCm
import Derived.Test.YtpiafgmncfibmaaRows
import Derived.WalkKit
import Derived.ProofKit
import Derived.OpenShut
import Derived.Deep.QuietTactic
import Derived.BigQuiet
import Derived.Outline
import Derived.WalkSmall
import Derived.WalkLawsBesides
import Derived.WalkSpells
import Derived.BigGuardPart
import Derived.RegionTactic
import Derived.Deep.RegionHeld3
import Derived.Lib.Hide
import Derived.Deep.MidRow
import Derived.Below
import Derived.Deep.RegionWith
import Derived.Deep.OwnRows
import Derived.Deep.AppendLies
namespace Go.Proofs.Ytpiafgmncfibmaa
open Go.ChangeShapes Go.WideShapes Go.ChangeAt Go.RowKit
set_option linter.unusedVariables false

theorem anyN_false {n : Nat} {B : Nat → Bool} (h : ∀ i, i < n → B i = false) : anyN n B = false := by
  cases hx : anyN n B with
  | false => rfl
  | true =>
    obtain ⟨k, hk, _, h2⟩ := anyN_y hx
    rw [h k hk] at h2
    cases h2
theorem forall_snoc {j : Nat} {p : Nat → Prop} (h : ∀ k, k < j → p k) (h' : p j) : ∀ k, k < j + 1 → p k := fun k hk => by
  by_cases e : k = j
  · rw [e]; exact h'
  · exact h k (by omega)
theorem rvalue_c (t : Int) (w : World) : Calls Try.prog 43 #[.int .i64 t] w fun e w' => e = .returned (.bool (isTB t)) ∧ w = w' := by
  by_cases h1 : t = 1
  · subst h1
    go_enter Try.func43, Try.ntmps43
    go_wp2
    go_ret
    exact ⟨rfl, rfl⟩
  have d1 : (t == 1) = false := by simpa using h1
  have hv : isTB t = (t == 2) := by unfold isTB; rw [d1]; rfl
  rw [hv]
  clear hv h1
  go_enter Try.func43, Try.ntmps43
  go_wp2
  go_ret
  exact ⟨rfl, rfl⟩
set_option maxHeartbeats 1000000 in
theorem rvalues_c (a : Option Addr) (n c : Nat) (F : Nat → Int) (w : World) (hn : n ≤ Big) (hr : Row1 w a n (fun i => .int .i64 (F i))) (b : Bool) (hb : anyN n (fun j => !isTB (F j)) = b) :
    Calls Try.prog 44 #[.slice a n c] w fun e w' => e = .returned (.bool (!b)) ∧ w = w' := by
  unfold Big at hn
  have HR := Lib.hid hr
  have HB := Lib.hid hb
  clear hr hb
  go_enter Try.func44, Try.ntmps44
  go_wp2
  go_loop [3] (fun i => ∃ j : Nat, j ≤ n ∧ i = .int .i64 j ∧ Hid (∀ k, k < j → (!isTB (F k)) = false)) (fun i => n - (intOf i).toNat)
  case atStart => exact ⟨0, by omega, rfl, Lib.hid fun k hk => absurd hk (Nat.not_lt_zero k)⟩
  case round =>
    obtain ⟨j, hj, rfl, HL⟩ := hrel
    by_cases hjn : j < n
    · have gj : (j : Int) < n := by omega
      rcases HR.out with h0 | ⟨bb, o, rfl, hbb, hc⟩
      · exact absurd h0 (by omega)
      have c0 := hc j hjn; clear hc
      cases ht : isTB (F j) with
      | true =>
        have HT := Lib.hid ht
        clear ht
        go_wp2_with (first | (go_at_call 43; refine (rvalue_c _ _).mono ?_; rintro e w' ⟨rfl, rfl⟩; rw [HT.out]))
        go_round
        case rel => exact ⟨j + 1, by omega, by go_num, Lib.hid (forall_snoc HL.out (by rw [HT.out]; rfl))⟩
        case measure => simp [intOf]; omega
      | false =>
        have HT := Lib.hid ht
        clear ht
        go_wp2_with (first | (go_at_call 43; refine (rvalue_c _ _).mono ?_; rintro e w' ⟨rfl, rfl⟩; rw [HT.out]))
        go_ret
        exact ⟨by rw [← HB.out, anyN_of j hjn (by rw [HT.out]; rfl)]; rfl, rfl⟩
    · obtain rfl : j = n := by omega
      go_wp2
      go_ret
      exact ⟨by rw [← HB.out, anyN_false HL.out]; rfl, rfl⟩
set_option maxHeartbeats 1000000 in
theorem rmth_c (a0 : Option Addr) (n0 c0 : Nat) (r : Int) (a1 : Option Addr) (n1 c1 : Nat) (s : Int) (a2 : Option Addr) (n2 c2 : Nat) (w : World) (h0 : n0 ≤ Big) (h1 : n1 ≤ Big) :
    Calls Try.prog 42 #[.agg #[.slice a0 n0 c0, .int .i64 r, .slice a1 n1 c1, .int .i64 s, .slice a2 n2 c2]] w fun e w' => e = .returned (.int .i64 (chkM n0 r n1 s n2)) ∧ Below w.heap.size w w' := by
  unfold Big at h0 h1
  have HA : Hid (Below w.heap.size w (w.alloc (.cells #[.slice a0 n0 c0, .int .i64 r, .slice a1 n1 c1, .int .i64 s, .slice a2 n2 c2] 50))) := Lib.hid ((Below.refl _ _).alloc (Nat.le_refl _) _)
  by_cases q1 : n0 + n1 > 40
  · have dq1 : decide ((40 : Int) < (n0 : Int) + (n1 : Int)) = true := decide_eq_true (by omega)
    have hv : Hid (chkM n0 r n1 s n2 = 2) := Lib.hid (by unfold chkM; rw [if_pos (.inl q1)])
    go_enter Try.func42, Try.ntmps42
    go_wp2
    go_ret
    exact ⟨(by rw [hv.out]; first | done | rfl), HA.out⟩
  have nq1 : decide ((40 : Int) < (n0 : Int) + (n1 : Int)) = false := decide_eq_false (by omega)
  by_cases q2 : s > 40
  · have dq2 : decide ((40 : Int) < s) = true := decide_eq_true (by omega)
    have hv : Hid (chkM n0 r n1 s n2 = 2) := Lib.hid (by unfold chkM; rw [if_pos (.inr (.inl q2))])
    go_enter Try.func42, Try.ntmps42
    go_wp2
    go_ret
    exact ⟨(by rw [hv.out]; first | done | rfl), HA.out⟩
  have nq2 : decide ((40 : Int) < s) = false := decide_eq_false (by omega)
  by_cases q3 : n2 > 4096
  · have dq3 : decide ((4096 : Int) < (n2 : Int)) = true := decide_eq_true (by omega)
    have hv : Hid (chkM n0 r n1 s n2 = 2) := Lib.hid (by unfold chkM; rw [if_pos (.inr (.inr q3))])
    go_enter Try.func42, Try.ntmps42
    go_wp2
    go_ret
    exact ⟨(by rw [hv.out]; first | done | rfl), HA.out⟩
  have nq3 : decide ((4096 : Int) < (n2 : Int)) = false := decide_eq_false (by omega)
  have e1 : ∀ x y : Int, (if n0 + n1 > 40 ∨ s > 40 ∨ n2 > 4096 then x else y) = y := fun x y => if_neg (by omega)
  by_cases q4 : s < 0
  · have dq4 : decide (s < 0) = true := decide_eq_true (by omega)
    have hv : Hid (chkM n0 r n1 s n2 = 1) := Lib.hid (by unfold chkM; rw [e1, if_pos (.inl q4)])
    clear e1
    go_enter Try.func42, Try.ntmps42
    go_wp2
    go_ret
    exact ⟨(by rw [hv.out]; first | done | rfl), HA.out⟩
  have nq4 : decide (s < 0) = false := decide_eq_false (by omega)
  have hrb : isRB r = decide (0 ≤ r ∧ r ≤ 2) := by
    unfold isRB isTB
    rw [Bool.eq_iff_iff]
    simp
    omega
  by_cases q5 : r < 0
  · have dq5 : decide (r < 0) = true := decide_eq_true (by omega)
    have hv : Hid (chkM n0 r n1 s n2 = 1) := Lib.hid (by unfold chkM; rw [e1, if_pos (.inr (by rw [hrb]; exact decide_eq_false (by omega)))])
    clear e1 hrb
    go_enter Try.func42, Try.ntmps42
    go_wp2
    go_ret
    exact ⟨(by rw [hv.out]; first | done | rfl), HA.out⟩
  have nq5 : decide (r < 0) = false := decide_eq_false (by omega)
  by_cases q6 : r > 2
  · have dq6 : decide ((2 : Int) < r) = true := decide_eq_true (by omega)
    have hv : Hid (chkM n0 r n1 s n2 = 1) := Lib.hid (by unfold chkM; rw [e1, if_pos (.inr (by rw [hrb]; exact decide_eq_false (by omega)))])
    clear e1 hrb
    go_enter Try.func42, Try.ntmps42
    go_wp2
    go_ret
    exact ⟨(by rw [hv.out]; first | done | rfl), HA.out⟩
  have nq6 : decide ((2 : Int) < r) = false := decide_eq_false (by omega)
  have q7 : isRB r = true := by rw [hrb]; exact decide_eq_true (by omega)
  have e2 : ∀ x y : Int, (if s < 0 ∨ isRB r = false then x else y) = y := fun x y => if_neg (by rw [q7]; rintro (h | h); exact q4 h; cases h)
  by_cases q8 : n2 = 0
  · have hv : Hid (chkM n0 r n1 s n2 = 26) := Lib.hid (by unfold chkM; rw [e1, e2, if_pos q8])
    clear e1 e2 hrb q7
    subst q8
    go_enter Try.func42, Try.ntmps42
    go_wp2
    go_ret
    exact ⟨(by rw [hv.out]; first | done | rfl), HA.out⟩
  · have hv : Hid (chkM n0 r n1 s n2 = 0) := Lib.hid (by unfold chkM; rw [e1, e2, if_neg q8])
    have d : ((n2 : Int) == 0) = false := by simpa using q8
    clear e1 e2 hrb q7 q8
    go_enter Try.func42, Try.ntmps42
    go_wp2
    go_ret
    exact ⟨(by rw [hv.out]; first | done | rfl), HA.out⟩
end Go.Proofs.Ytpiafgmncfibmaa
