import Derived.Test.YtpiafgmncfibmaaSc
import Derived.Test.YtpiafgmncfibmaaRows
import Derived.WalkKit
import Derived.ProofKit
import Derived.OpenShut
import Derived.Deep.QuietTactic
import Derived.BigQuiet
import Derived.Outline
import Derived.WalkSmall
import Derived.WalkLawsBesides
import Derived.WalkSpells
import Derived.BigGuardPart
import Derived.RegionTactic
import Derived.Deep.RegionHeld3
import Derived.Lib.Hide
import Derived.Deep.MidRow
import Derived.Below
import Derived.Deep.RegionWith
import Derived.Deep.OwnRows
import Derived.Deep.AppendLies
namespace Go.Proofs.Ytpiafgmncfibmaa
open Go.ChangeShapes Go.WideShapes Go.ChangeAt Go.RowKit
set_option linter.unusedVariables false
set_option maxHeartbeats 1000000 in
theorem chkm_c (a0 : Option Addr) (n0 c0 : Nat) (r : Int) (a1 : Option Addr) (n1 c1 : Nat) (s : Int) (a2 : Option Addr) (n2 c2 : Nat) (w : World) (h0 : n0 ≤ Big) (h1 : n1 ≤ Big) :
    Calls Try.prog 37 #[.agg #[.slice a0 n0 c0, .int .i64 r, .slice a1 n1 c1, .int .i64 s, .slice a2 n2 c2]] w fun e w' => e = .returned (.int .i64 (chkM n0 r n1 s n2)) ∧ Below w.heap.size w w' := by
  unfold Big at h0 h1
  by_cases q1 : n0 + n1 > 40
  · have hv : Hid (chkM n0 r n1 s n2 = 2) := Lib.hid (by unfold chkM; rw [if_pos (.inl q1)])
    go_enter Try.func37, Try.ntmps37
    go_wp2
    go_ret
    exact ⟨(by rw [hv.out]; first | done | rfl), (Below.refl _ _).alloc (Nat.le_refl _) _⟩
  by_cases q2 : s > 40
  · have hv : Hid (chkM n0 r n1 s n2 = 2) := Lib.hid (by unfold chkM; rw [if_pos (.inr (.inl q2))])
    go_enter Try.func37, Try.ntmps37
    go_wp2
    go_ret
    exact ⟨(by rw [hv.out]; first | done | rfl), (Below.refl _ _).alloc (Nat.le_refl _) _⟩
  by_cases q3 : n2 > 4096
  · have hv : Hid (chkM n0 r n1 s n2 = 2) := Lib.hid (by unfold chkM; rw [if_pos (.inr (.inr q3))])
    go_enter Try.func37, Try.ntmps37
    go_wp2
    go_ret
    exact ⟨(by rw [hv.out]; first | done | rfl), (Below.refl _ _).alloc (Nat.le_refl _) _⟩
  have e1 : ∀ x y : Int, (if n0 + n1 > 40 ∨ s > 40 ∨ n2 > 4096 then x else y) = y := fun x y => if_neg (by omega)
  by_cases q4 : s < 0
  · have hv : Hid (chkM n0 r n1 s n2 = 1) := Lib.hid (by unfold chkM; rw [e1, if_pos (.inl q4)])
    clear e1
    go_enter Try.func37, Try.ntmps37
    go_wp2
    go_ret
    exact ⟨(by rw [hv.out]; first | done | rfl), (Below.refl _ _).alloc (Nat.le_refl _) _⟩
  cases q5 : isRB r with
  | false =>
    have hv : Hid (chkM n0 r n1 s n2 = 1) := Lib.hid (by unfold chkM; rw [e1, if_pos (.inr q5)])
    have H := Lib.hid q5
    clear e1 q5
    go_enter Try.func37, Try.ntmps37
    go_wp2_with (first | (go_at_call 74; refine (ret_c r false _ H.out).mono ?_; rintro e w' ⟨rfl, rfl⟩))
    go_ret
    exact ⟨(by rw [hv.out]; first | done | rfl), (Below.refl _ _).alloc (Nat.le_refl _) _⟩
  | true =>
    have e2 : ∀ x y : Int, (if s < 0 ∨ isRB r = false then x else y) = y := fun x y => if_neg (by rw [q5]; rintro (h | h); exact q4 h; cases h)
    by_cases q6 : n2 = 0
    · have hv : Hid (chkM n0 r n1 s n2 = 26) := Lib.hid (by unfold chkM; rw [e1, e2, if_pos q6])
      have H := Lib.hid q5
      clear e1 e2 q5
      subst q6
      go_enter Try.func37, Try.ntmps37
      go_wp2_with (first | (go_at_call 74; refine (ret_c r true _ H.out).mono ?_; rintro e w' ⟨rfl, rfl⟩))
      go_ret
      exact ⟨(by rw [hv.out]; first | done | rfl), (Below.refl _ _).alloc (Nat.le_refl _) _⟩
    · have hv : Hid (chkM n0 r n1 s n2 = 0) := Lib.hid (by unfold chkM; rw [e1, e2, if_neg q6])
      have H := Lib.hid q5
      have d : ((n2 : Int) == 0) = false := by simpa using q6
      clear e1 e2 q5 q6
      go_enter Try.func37, Try.ntmps37
      go_wp2_with (first | (go_at_call 74; refine (ret_c r true _ H.out).mono ?_; rintro e w' ⟨rfl, rfl⟩))
      go_ret
      exact ⟨(by rw [hv.out]; first | done | rfl), (Below.refl _ _).alloc (Nat.le_refl _) _⟩

/-- Is there an i below n of which B says so? -/
def anyN (n : Nat) (B : Nat → Bool) : Bool := (List.range n).any B
theorem anyN_n {n : Nat} {B : Nat → Bool} (h : anyN n B = false) : ∀ i, i < n → B i = false := by
  intro i hi
  unfold anyN at h
  rw [List.any_eq_false] at h
  have := h i (List.mem_range.2 hi)
  simpa using this
theorem anyN_of {n : Nat} {B : Nat → Bool} (k : Nat) (hk : k < n) (h : B k = true) : anyN n B = true := by
  unfold anyN
  rw [List.any_eq_true]
  exact ⟨k, List.mem_range.2 hk, h⟩
theorem anyN_y : ∀ {n : Nat} {B : Nat → Bool}, anyN n B = true → ∃ k, k < n ∧ (∀ i, i < k → B i = false) ∧ B k = true
  | 0, B, h => by simp [anyN] at h
  | n + 1, B, h => by
    cases hp : anyN n B with
    | true =>
      obtain ⟨k, hk, h1, h2⟩ := anyN_y hp
      exact ⟨k, by omega, h1, h2⟩
    | false =>
      have hn := anyN_n hp
      have : B n = true := by
        unfold anyN at h hp
        rw [List.range_succ, List.any_append, hp] at h
        simpa using h
      exact ⟨n, by omega, hn, this⟩

set_option maxHeartbeats 1000000 in
theorem ix_ty_y (a : Option Addr) (n c k : Nat) (F : Nat → Int) (w : World) (hn : n ≤ Big) (hr : Row1 w a n (fun i => .int .i64 (F i))) (hk : k < n) (hlo : ∀ i, i < k → (!isTB (F i)) = false) (hhi : (!isTB (F k)) = true) :
    Calls Try.prog 103 #[.slice a n c, .func (.func 80) #[] #[]] w fun e w' => e = .returned (.int .i64 k) ∧ Below w.heap.size w w' := by
  unfold Big at hn
  have HR := Lib.hid hr
  have HL := Lib.hid hlo
  have HH := Lib.hid hhi
  clear hr hlo hhi
  go_enter Try.func103, Try.ntmps103
  go_wp2
  go_loopw [8] (fun i wr => ∃ j : Nat, j ≤ k ∧ i = .int .i64 j ∧ Hid (Below w.heap.size w wr)) (fun i _ => k + 1 - (intOf i).toNat)
  case atStart => exact ⟨0, by omega, rfl, Lib.hid (Below.refl _ _)⟩
  case round =>
    obtain ⟨j, hj, rfl, HB⟩ := hrel
    have gj : (j : Int) < n := by omega
    rcases Row1.kept HR.out (Kept.of HB.out) with h0 | ⟨b, o, rfl, hb, hc⟩
    · exact absurd h0 (by omega)
    have c0 := hc j (by omega); clear hc
    by_cases hjk : j < k
    · have HF := Lib.hid (HL.out j hjk)
      go_wp2_with (first | (go_at_call 80; refine (notype_c _ (!false) _ (by simpa using HF.out)).mono ?_; rintro e w' ⟨rfl, rfl⟩; have HB2 := HB))
      exact ⟨⟨j + 1, by omega, by go_num, HB2⟩, by simp [intOf]; omega⟩
    · obtain rfl : j = k := by omega
      have HF := HH
      go_wp2_with (first | (go_at_call 80; refine (notype_c _ (!true) _ (by simpa using HF.out)).mono ?_; rintro e w' ⟨rfl, rfl⟩; have HB2 := HB))
      go_ret
      exact ⟨rfl, HB2.out⟩
set_option maxHeartbeats 1000000 in
theorem ix_ty_n (a : Option Addr) (n c : Nat) (F : Nat → Int) (w : World) (hn : n ≤ Big) (hr : Row1 w a n (fun i => .int .i64 (F i))) (hlo : ∀ i, i < n → (!isTB (F i)) = false) :
    Calls Try.prog 103 #[.slice a n c, .func (.func 80) #[] #[]] w fun e w' => e = .returned (.int .i64 (-1)) ∧ Below w.heap.size w w' := by
  unfold Big at hn
  have HR := Lib.hid hr
  have HL := Lib.hid hlo
  clear hr hlo
  go_enter Try.func103, Try.ntmps103
  go_wp2
  go_loopw [8] (fun i wr => ∃ j : Nat, j ≤ n ∧ i = .int .i64 j ∧ Hid (Below w.heap.size w wr)) (fun i _ => n - (intOf i).toNat)
  case atStart => exact ⟨0, by omega, rfl, Lib.hid (Below.refl _ _)⟩
  case round =>
    obtain ⟨j, hj, rfl, HB⟩ := hrel
    by_cases hjk : j < n
    · have gj : (j : Int) < n := by omega
      rcases Row1.kept HR.out (Kept.of HB.out) with h0 | ⟨b, o, rfl, hb, hc⟩
      · exact absurd h0 (by omega)
      have c0 := hc j (by omega); clear hc
      have HF := Lib.hid (HL.out j hjk)
      go_wp2_with (first | (go_at_call 80; refine (notype_c _ (!false) _ (by simpa using HF.out)).mono ?_; rintro e w' ⟨rfl, rfl⟩; have HB2 := HB))
      exact ⟨⟨j + 1, by omega, by go_num, HB2⟩, by simp [intOf]; omega⟩
    · obtain rfl : j = n := by omega
      go_wp2
      go_ret
      exact ⟨rfl, HB.out⟩
theorem cf_ty (a : Option Addr) (n c : Nat) (F : Nat → Int) (w : World) (hn : n ≤ Big) (hr : Row1 w a n (fun i => .int .i64 (F i))) (x : Bool) (hx : anyN n (fun i => (!isTB (F i))) = x) :
    Calls Try.prog 79 #[.slice a n c, .func (.func 80) #[] #[]] w fun e w' => e = .returned (.bool x) ∧ Below w.heap.size w w' := by
  cases x with
  | true =>
    obtain ⟨k, hk, hlo, hhi⟩ := anyN_y hx
    clear hx
    have HL := Lib.hid hlo
    have HH := Lib.hid hhi
    clear hlo hhi
    go_enter Try.func79, Try.ntmps79
    go_wp2_with (first | (go_at_call 103; refine (ix_ty_y a n c k F _ hn hr hk HL.out HH.out).mono ?_; rintro e w' ⟨rfl, hb⟩))
    go_ret
    exact ⟨rfl, hb⟩
  | false =>
    have HL := Lib.hid (anyN_n hx)
    clear hx
    go_enter Try.func79, Try.ntmps79
    go_wp2_with (first | (go_at_call 103; refine (ix_ty_n a n c F _ hn hr HL.out).mono ?_; rintro e w' ⟨rfl, hb⟩))
    go_ret
    exact ⟨rfl, hb⟩

set_option maxHeartbeats 1000000 in
theorem ix_fd_y (a : Option Addr) (n c k : Nat) (F : Nat → Int) (G : Nat → Bool) (w : World) (hn : n ≤ Big) (hr : Row2 w a n (fun i => .int .i64 (F i)) (fun i => .bool (G i))) (hk : k < n) (hlo : ∀ i, i < k → (!isTB (F i)) = false) (hhi : (!isTB (F k)) = true) :
    Calls Try.prog 102 #[.slice a n c, .func (.func 76) #[] #[]] w fun e w' => e = .returned (.int .i64 k) ∧ Below w.heap.size w w' := by
  unfold Big at hn
  have HR := Lib.hid hr
  have HL := Lib.hid hlo
  have HH := Lib.hid hhi
  clear hr hlo hhi
  go_enter Try.func102, Try.ntmps102
  go_wp2
  go_loopw [8] (fun i wr => ∃ j : Nat, j ≤ k ∧ i = .int .i64 j ∧ Hid (Below w.heap.size w wr)) (fun i _ => k + 1 - (intOf i).toNat)
  case atStart => exact ⟨0, by omega, rfl, Lib.hid (Below.refl _ _)⟩
  case round =>
    obtain ⟨j, hj, rfl, HB⟩ := hrel
    have gj : (j : Int) < n := by omega
    rcases Row2.kept HR.out (Kept.of HB.out) with h0 | ⟨b, o, rfl, hb, hc⟩
    · exact absurd h0 (by omega)
    obtain ⟨c0, c1⟩ := hc j (by omega); clear hc
    by_cases hjk : j < k
    · have HF := Lib.hid (HL.out j hjk)
      go_wp2_with (first | (go_at_call 76; refine (field_c _ _ (!false) _ (by simpa using HF.out)).mono ?_; rintro e w2 ⟨rfl, hb2⟩; have HB2 := Lib.hid (HB.out.trans (hb2.mono HB.out.size)); clear hb2))
      exact ⟨⟨j + 1, by omega, by go_num, HB2⟩, by simp [intOf]; omega⟩
    · obtain rfl : j = k := by omega
      have HF := HH
      go_wp2_with (first | (go_at_call 76; refine (field_c _ _ (!true) _ (by simpa using HF.out)).mono ?_; rintro e w2 ⟨rfl, hb2⟩; have HB2 := Lib.hid (HB.out.trans (hb2.mono HB.out.size)); clear hb2))
      go_ret
      exact ⟨rfl, HB2.out⟩
set_option maxHeartbeats 1000000 in
theorem ix_fd_n (a : Option Addr) (n c : Nat) (F : Nat → Int) (G : Nat → Bool) (w : World) (hn : n ≤ Big) (hr : Row2 w a n (fun i => .int .i64 (F i)) (fun i => .bool (G i))) (hlo : ∀ i, i < n → (!isTB (F i)) = false) :
    Calls Try.prog 102 #[.slice a n c, .func (.func 76) #[] #[]] w fun e w' => e = .returned (.int .i64 (-1)) ∧ Below w.heap.size w w' := by
  unfold Big at hn
  have HR := Lib.hid hr
  have HL := Lib.hid hlo
  clear hr hlo
  go_enter Try.func102, Try.ntmps102
  go_wp2
  go_loopw [8] (fun i wr => ∃ j : Nat, j ≤ n ∧ i = .int .i64 j ∧ Hid (Below w.heap.size w wr)) (fun i _ => n - (intOf i).toNat)
  case atStart => exact ⟨0, by omega, rfl, Lib.hid (Below.refl _ _)⟩
  case round =>
    obtain ⟨j, hj, rfl, HB⟩ := hrel
    by_cases hjk : j < n
    · have gj : (j : Int) < n := by omega
      rcases Row2.kept HR.out (Kept.of HB.out) with h0 | ⟨b, o, rfl, hb, hc⟩
      · exact absurd h0 (by omega)
      obtain ⟨c0, c1⟩ := hc j (by omega); clear hc
      have HF := Lib.hid (HL.out j hjk)
      go_wp2_with (first | (go_at_call 76; refine (field_c _ _ (!false) _ (by simpa using HF.out)).mono ?_; rintro e w2 ⟨rfl, hb2⟩; have HB2 := Lib.hid (HB.out.trans (hb2.mono HB.out.size)); clear hb2))
      exact ⟨⟨j + 1, by omega, by go_num, HB2⟩, by simp [intOf]; omega⟩
    · obtain rfl : j = n := by omega
      go_wp2
      go_ret
      exact ⟨rfl, HB.out⟩
theorem cf_fd (a : Option Addr) (n c : Nat) (F : Nat → Int) (G : Nat → Bool) (w : World) (hn : n ≤ Big) (hr : Row2 w a n (fun i => .int .i64 (F i)) (fun i => .bool (G i))) (x : Bool) (hx : anyN n (fun i => (!isTB (F i))) = x) :
    Calls Try.prog 75 #[.slice a n c, .func (.func 76) #[] #[]] w fun e w' => e = .returned (.bool x) ∧ Below w.heap.size w w' := by
  cases x with
  | true =>
    obtain ⟨k, hk, hlo, hhi⟩ := anyN_y hx
    clear hx
    have HL := Lib.hid hlo
    have HH := Lib.hid hhi
    clear hlo hhi
    go_enter Try.func75, Try.ntmps75
    go_wp2_with (first | (go_at_call 102; refine (ix_fd_y a n c k F G _ hn hr hk HL.out HH.out).mono ?_; rintro e w' ⟨rfl, hb⟩))
    go_ret
    exact ⟨rfl, hb⟩
  | false =>
    have HL := Lib.hid (anyN_n hx)
    clear hx
    go_enter Try.func75, Try.ntmps75
    go_wp2_with (first | (go_at_call 102; refine (ix_fd_n a n c F G _ hn hr HL.out).mono ?_; rintro e w' ⟨rfl, hb⟩))
    go_ret
    exact ⟨rfl, hb⟩

set_option maxHeartbeats 1000000 in
theorem ix_mn_y (a : Option Addr) (n c k : Nat) (A : Nat → Option Addr) (M : Nat → Nat) (C : Nat → Nat) (w : World) (hn : n ≤ Big) (hr : Row1 w a n (fun i => .slice (A i) (M i) (C i))) (hk : k < n) (hlo : ∀ i, i < k → decide (50 < M i) = false) (hhi : decide (50 < M k) = true) :
    Calls Try.prog 73 #[.slice a n c, .func (.func 36) #[] #[]] w fun e w' => e = .returned (.int .i64 k) ∧ Below w.heap.size w w' := by
  unfold Big at hn
  have HR := Lib.hid hr
  have HL := Lib.hid hlo
  have HH := Lib.hid hhi
  clear hr hlo hhi
  go_enter Try.func73, Try.ntmps73
  go_wp2
  go_loopw [8] (fun i wr => ∃ j : Nat, j ≤ k ∧ i = .int .i64 j ∧ Hid (Below w.heap.size w wr)) (fun i _ => k + 1 - (intOf i).toNat)
  case atStart => exact ⟨0, by omega, rfl, Lib.hid (Below.refl _ _)⟩
  case round =>
    obtain ⟨j, hj, rfl, HB⟩ := hrel
    have gj : (j : Int) < n := by omega
    rcases Row1.kept HR.out (Kept.of HB.out) with h0 | ⟨b, o, rfl, hb, hc⟩
    · exact absurd h0 (by omega)
    have c0 := hc j (by omega); clear hc
    by_cases hjk : j < k
    · have HF := Lib.hid (HL.out j hjk)
      go_wp2_with (first | (go_at_call 36; refine (many_c _ _ _ false _ HF.out).mono ?_; rintro e w' ⟨rfl, rfl⟩; have HB2 := HB))
      exact ⟨⟨j + 1, by omega, by go_num, HB2⟩, by simp [intOf]; omega⟩
    · obtain rfl : j = k := by omega
      have HF := HH
      go_wp2_with (first | (go_at_call 36; refine (many_c _ _ _ true _ HF.out).mono ?_; rintro e w' ⟨rfl, rfl⟩; have HB2 := HB))
      go_ret
      exact ⟨rfl, HB2.out⟩
set_option maxHeartbeats 1000000 in
theorem ix_mn_n (a : Option Addr) (n c : Nat) (A : Nat → Option Addr) (M : Nat → Nat) (C : Nat → Nat) (w : World) (hn : n ≤ Big) (hr : Row1 w a n (fun i => .slice (A i) (M i) (C i))) (hlo : ∀ i, i < n → decide (50 < M i) = false) :
    Calls Try.prog 73 #[.slice a n c, .func (.func 36) #[] #[]] w fun e w' => e = .returned (.int .i64 (-1)) ∧ Below w.heap.size w w' := by
  unfold Big at hn
  have HR := Lib.hid hr
  have HL := Lib.hid hlo
  clear hr hlo
  go_enter Try.func73, Try.ntmps73
  go_wp2
  go_loopw [8] (fun i wr => ∃ j : Nat, j ≤ n ∧ i = .int .i64 j ∧ Hid (Below w.heap.size w wr)) (fun i _ => n - (intOf i).toNat)
  case atStart => exact ⟨0, by omega, rfl, Lib.hid (Below.refl _ _)⟩
  case round =>
    obtain ⟨j, hj, rfl, HB⟩ := hrel
    by_cases hjk : j < n
    · have gj : (j : Int) < n := by omega
      rcases Row1.kept HR.out (Kept.of HB.out) with h0 | ⟨b, o, rfl, hb, hc⟩
      · exact absurd h0 (by omega)
      have c0 := hc j (by omega); clear hc
      have HF := Lib.hid (HL.out j hjk)
      go_wp2_with (first | (go_at_call 36; refine (many_c _ _ _ false _ HF.out).mono ?_; rintro e w' ⟨rfl, rfl⟩; have HB2 := HB))
      exact ⟨⟨j + 1, by omega, by go_num, HB2⟩, by simp [intOf]; omega⟩
    · obtain rfl : j = n := by omega
      go_wp2
      go_ret
      exact ⟨rfl, HB.out⟩
theorem cf_mn (a : Option Addr) (n c : Nat) (A : Nat → Option Addr) (M : Nat → Nat) (C : Nat → Nat) (w : World) (hn : n ≤ Big) (hr : Row1 w a n (fun i => .slice (A i) (M i) (C i))) (x : Bool) (hx : anyN n (fun i => decide (50 < M i)) = x) :
    Calls Try.prog 35 #[.slice a n c, .func (.func 36) #[] #[]] w fun e w' => e = .returned (.bool x) ∧ Below w.heap.size w w' := by
  cases x with
  | true =>
    obtain ⟨k, hk, hlo, hhi⟩ := anyN_y hx
    clear hx
    have HL := Lib.hid hlo
    have HH := Lib.hid hhi
    clear hlo hhi
    go_enter Try.func35, Try.ntmps35
    go_wp2_with (first | (go_at_call 73; refine (ix_mn_y a n c k A M C _ hn hr hk HL.out HH.out).mono ?_; rintro e w' ⟨rfl, hb⟩))
    go_ret
    exact ⟨rfl, hb⟩
  | false =>
    have HL := Lib.hid (anyN_n hx)
    clear hx
    go_enter Try.func35, Try.ntmps35
    go_wp2_with (first | (go_at_call 73; refine (ix_mn_n a n c A M C _ hn hr HL.out).mono ?_; rintro e w' ⟨rfl, hb⟩))
    go_ret
    exact ⟨rfl, hb⟩
end Go.Proofs.Ytpiafgmncfibmaa
