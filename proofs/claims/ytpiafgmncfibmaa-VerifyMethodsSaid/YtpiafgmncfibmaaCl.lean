import Derived.Test.YtpiafgmncfibmaaCk
import Derived.Test.YtpiafgmncfibmaaRows
import Derived.WalkKit
import Derived.ProofKit
import Derived.OpenShut
import Derived.Deep.QuietTactic
import Derived.BigQuiet
import Derived.Outline
import Derived.WalkSmall
import Derived.WalkLawsBesides
import Derived.WalkSpells
import Derived.BigGuardPart
import Derived.RegionTactic
import Derived.Deep.RegionHeld3
import Derived.Lib.Hide
import Derived.Deep.MidRow
import Derived.Below
import Derived.Deep.RegionWith
import Derived.Deep.OwnRows
import Derived.Deep.AppendLies
namespace Go.Proofs.Ytpiafgmncfibmaa
open Go.ChangeShapes Go.WideShapes Go.ChangeAt Go.RowKit
set_option linter.unusedVariables false

theorem wf_c (a : Option Addr) (n c : Nat) (F : Nat → Int) (G : Nat → Bool) (b : Bool) (w : World) (hn : n ≤ Big) (hr : Row2 w a n (fun i => .int .i64 (F i)) (fun i => .bool (G i))) (h : anyN n (fun j => (!isTB (F j))) = b) :
    Calls Try.prog 38 #[.slice a n c] w fun e w' => e = .returned (.bool b) ∧ Below w.heap.size w w' := by
  have HR := Lib.hid hr
  have H := Lib.hid h
  clear hr h
  go_enter Try.func38, Try.ntmps38
  go_wp2_with (first | (go_at_call 75; refine (cf_fd a n c F G _ hn HR.out b H.out).mono ?_; rintro e w' ⟨rfl, hb⟩))
  go_ret
  exact ⟨rfl, hb⟩
/-- What a method's types are. -/
def wrongM (n0 : Nat) (F : Nat → Int) (n1 : Nat) (G : Nat → Int) : Bool := anyN n0 (fun j => (!isTB (F j))) || anyN n1 (fun j => (!isTB (G j)))
theorem wm_c (a0 : Option Addr) (n0 c0 : Nat) (r : Int) (a1 : Option Addr) (n1 c1 : Nat) (s : Int) (a2 : Option Addr) (n2 c2 : Nat) (F G : Nat → Int) (b : Bool) (w : World) (hn0 : n0 ≤ Big) (hn1 : n1 ≤ Big)
    (h0 : Row1 w a0 n0 (fun i => .int .i64 (F i))) (h1 : Row1 w a1 n1 (fun i => .int .i64 (G i))) (h : wrongM n0 F n1 G = b) :
    Calls Try.prog 40 #[.agg #[.slice a0 n0 c0, .int .i64 r, .slice a1 n1 c1, .int .i64 s, .slice a2 n2 c2]] w fun e w' => e = .returned (.bool b) ∧ Below w.heap.size w w' := by
  have H0 := Lib.hid h0
  have H1 := Lib.hid h1
  clear h0 h1
  have HW : Hid (Below w.heap.size w (w.alloc (.cells #[.slice a0 n0 c0, .int .i64 r, .slice a1 n1 c1, .int .i64 s, .slice a2 n2 c2] 50))) := Lib.hid ((Below.refl _ _).alloc (Nat.le_refl _) _)
  cases hx : anyN n0 (fun j => (!isTB (F j))) with
  | true =>
    have hb : b = true := by rw [← h]; unfold wrongM; rw [hx]; rfl
    subst hb
    have HX := Lib.hid hx
    clear h hx
    go_enter Try.func40, Try.ntmps40
    go_wp2_with (first | (go_at_call 79; refine (cf_ty a0 n0 c0 F _ hn0 (Row1.kept H0.out (Kept.of HW.out)) true HX.out).mono ?_; rintro e w' ⟨rfl, hb⟩))
    go_ret
    exact ⟨rfl, HW.out.trans (hb.mono (by simp))⟩
  | false =>
    have hb : anyN n1 (fun j => (!isTB (G j))) = b := by rw [← h]; unfold wrongM; rw [hx]; rfl
    have HX := Lib.hid hx
    have HY := Lib.hid hb
    clear h hx hb
    go_enter Try.func40, Try.ntmps40
    go_wp2_with fail
    refine (cf_ty a0 n0 c0 F _ hn0 (Row1.kept H0.out (Kept.of HW.out)) false HX.out).mono ?_
    rintro e w1 ⟨rfl, hb⟩
    have hz : w.heap.size < w1.heap.size := by have := hb.size; simp at this; omega
    have e1 : w1.cell? ⟨w.heap.size, 2, none⟩ = some (.slice a1 n1 c1) := by rw [hb.cell (p := ⟨w.heap.size, 2, none⟩) (by simp)]; simp [go_sem]
    have HW2 := Lib.hid (HW.out.trans (hb.mono (by simp)))
    clear hb
    go_wp2_with fail
    refine (cf_ty a1 n1 c1 G _ hn1 (Row1.kept H1.out (Kept.of HW2.out)) b HY.out).mono ?_
    rintro e w' ⟨rfl, hb⟩
    have HW3 := Lib.hid (HW2.out.trans (hb.mono HW2.out.size))
    clear hb
    go_wp2
    go_ret
    exact ⟨rfl, HW3.out⟩

set_option maxHeartbeats 1000000 in
theorem ix_wf_y (a : Option Addr) (n c k : Nat) (A : Nat → Option Addr) (M : Nat → Nat) (C : Nat → Nat) (F : Nat → Nat → Int) (G : Nat → Nat → Bool) (w : World) (hn : n ≤ Big) (hr : Row1 w a n (fun i => .slice (A i) (M i) (C i)) ∧ ∀ i, i < n → M i ≤ Big ∧ Row2 w (A i) (M i) (fun j => .int .i64 (F i j)) (fun j => .bool (G i j))) (hk : k < n) (hlo : ∀ i, i < k → (anyN (M i) (fun j => (!isTB (F i j)))) = false) (hhi : (anyN (M k) (fun j => (!isTB (F k j)))) = true) :
    Calls Try.prog 73 #[.slice a n c, .func (.func 38) #[] #[]] w fun e w' => e = .returned (.int .i64 k) ∧ Below w.heap.size w w' := by
  unfold Big at hn
  have HR := Lib.hid hr
  have HL := Lib.hid hlo
  have HH := Lib.hid hhi
  clear hr hlo hhi
  go_enter Try.func73, Try.ntmps73
  go_wp2
  go_loopw [8] (fun i wr => ∃ j : Nat, j ≤ k ∧ i = .int .i64 j ∧ Hid (Below w.heap.size w wr)) (fun i _ => k + 1 - (intOf i).toNat)
  case atStart => exact ⟨0, by omega, rfl, Lib.hid (Below.refl _ _)⟩
  case round =>
    obtain ⟨j, hj, rfl, HB⟩ := hrel
    have gj : (j : Int) < n := by omega
    rcases Row1.kept HR.out.1 (Kept.of HB.out) with h0 | ⟨b, o, rfl, hb, hc⟩
    · exact absurd h0 (by omega)
    have c0 := hc j (by omega); clear hc
    by_cases hjk : j < k
    · have HF := Lib.hid (HL.out j hjk)
      go_wp2_with (first | (go_at_call 38; refine (wf_c _ _ _ (F j) (G j) false _ (HR.out.2 j (by omega)).1 (Row2.kept (HR.out.2 j (by omega)).2 (Kept.of HB.out)) HF.out).mono ?_; rintro e w2 ⟨rfl, hb2⟩; have HB2 := Lib.hid (HB.out.trans (hb2.mono HB.out.size)); clear hb2))
      exact ⟨⟨j + 1, by omega, by go_num, HB2⟩, by simp [intOf]; omega⟩
    · obtain rfl : j = k := by omega
      have HF := HH
      go_wp2_with (first | (go_at_call 38; refine (wf_c _ _ _ (F j) (G j) true _ (HR.out.2 j (by omega)).1 (Row2.kept (HR.out.2 j (by omega)).2 (Kept.of HB.out)) HF.out).mono ?_; rintro e w2 ⟨rfl, hb2⟩; have HB2 := Lib.hid (HB.out.trans (hb2.mono HB.out.size)); clear hb2))
      go_ret
      exact ⟨rfl, HB2.out⟩
set_option maxHeartbeats 1000000 in
theorem ix_wf_n (a : Option Addr) (n c : Nat) (A : Nat → Option Addr) (M : Nat → Nat) (C : Nat → Nat) (F : Nat → Nat → Int) (G : Nat → Nat → Bool) (w : World) (hn : n ≤ Big) (hr : Row1 w a n (fun i => .slice (A i) (M i) (C i)) ∧ ∀ i, i < n → M i ≤ Big ∧ Row2 w (A i) (M i) (fun j => .int .i64 (F i j)) (fun j => .bool (G i j))) (hlo : ∀ i, i < n → (anyN (M i) (fun j => (!isTB (F i j)))) = false) :
    Calls Try.prog 73 #[.slice a n c, .func (.func 38) #[] #[]] w fun e w' => e = .returned (.int .i64 (-1)) ∧ Below w.heap.size w w' := by
  unfold Big at hn
  have HR := Lib.hid hr
  have HL := Lib.hid hlo
  clear hr hlo
  go_enter Try.func73, Try.ntmps73
  go_wp2
  go_loopw [8] (fun i wr => ∃ j : Nat, j ≤ n ∧ i = .int .i64 j ∧ Hid (Below w.heap.size w wr)) (fun i _ => n - (intOf i).toNat)
  case atStart => exact ⟨0, by omega, rfl, Lib.hid (Below.refl _ _)⟩
  case round =>
    obtain ⟨j, hj, rfl, HB⟩ := hrel
    by_cases hjk : j < n
    · have gj : (j : Int) < n := by omega
      rcases Row1.kept HR.out.1 (Kept.of HB.out) with h0 | ⟨b, o, rfl, hb, hc⟩
      · exact absurd h0 (by omega)
      have c0 := hc j (by omega); clear hc
      have HF := Lib.hid (HL.out j hjk)
      go_wp2_with (first | (go_at_call 38; refine (wf_c _ _ _ (F j) (G j) false _ (HR.out.2 j (by omega)).1 (Row2.kept (HR.out.2 j (by omega)).2 (Kept.of HB.out)) HF.out).mono ?_; rintro e w2 ⟨rfl, hb2⟩; have HB2 := Lib.hid (HB.out.trans (hb2.mono HB.out.size)); clear hb2))
      exact ⟨⟨j + 1, by omega, by go_num, HB2⟩, by simp [intOf]; omega⟩
    · obtain rfl : j = n := by omega
      go_wp2
      go_ret
      exact ⟨rfl, HB.out⟩
theorem cf_wf (a : Option Addr) (n c : Nat) (A : Nat → Option Addr) (M : Nat → Nat) (C : Nat → Nat) (F : Nat → Nat → Int) (G : Nat → Nat → Bool) (w : World) (hn : n ≤ Big) (hr : Row1 w a n (fun i => .slice (A i) (M i) (C i)) ∧ ∀ i, i < n → M i ≤ Big ∧ Row2 w (A i) (M i) (fun j => .int .i64 (F i j)) (fun j => .bool (G i j))) (x : Bool) (hx : anyN n (fun i => (anyN (M i) (fun j => (!isTB (F i j))))) = x) :
    Calls Try.prog 35 #[.slice a n c, .func (.func 38) #[] #[]] w fun e w' => e = .returned (.bool x) ∧ Below w.heap.size w w' := by
  cases x with
  | true =>
    obtain ⟨k, hk, hlo, hhi⟩ := anyN_y hx
    clear hx
    have HL := Lib.hid hlo
    have HH := Lib.hid hhi
    clear hlo hhi
    go_enter Try.func35, Try.ntmps35
    go_wp2_with (first | (go_at_call 73; refine (ix_wf_y a n c k A M C F G _ hn hr hk HL.out HH.out).mono ?_; rintro e w' ⟨rfl, hb⟩))
    go_ret
    exact ⟨rfl, hb⟩
  | false =>
    have HL := Lib.hid (anyN_n hx)
    clear hx
    go_enter Try.func35, Try.ntmps35
    go_wp2_with (first | (go_at_call 73; refine (ix_wf_n a n c A M C F G _ hn hr HL.out).mono ?_; rintro e w' ⟨rfl, hb⟩))
    go_ret
    exact ⟨rfl, hb⟩

set_option maxHeartbeats 1000000 in
theorem ix_wm_y (a : Option Addr) (n c k : Nat) (A : Nat → Option Addr) (M : Nat → Nat) (C : Nat → Nat) (R : Nat → Int) (D : Nat → Option Addr) (L : Nat → Nat) (E : Nat → Nat) (S : Nat → Int) (X : Nat → Option Addr) (Y : Nat → Nat) (Z : Nat → Nat) (F : Nat → Nat → Int) (G : Nat → Nat → Int) (w : World) (hn : n ≤ Big) (hr : Row5 w a n (fun i => .slice (A i) (M i) (C i)) (fun i => .int .i64 (R i)) (fun i => .slice (D i) (L i) (E i)) (fun i => .int .i64 (S i)) (fun i => .slice (X i) (Y i) (Z i)) ∧ ∀ i, i < n → (M i ≤ Big ∧ L i ≤ Big) ∧ Row1 w (A i) (M i) (fun j => .int .i64 (F i j)) ∧ Row1 w (D i) (L i) (fun j => .int .i64 (G i j))) (hk : k < n) (hlo : ∀ i, i < k → (wrongM (M i) (F i) (L i) (G i)) = false) (hhi : (wrongM (M k) (F k) (L k) (G k)) = true) :
    Calls Try.prog 78 #[.slice a n c, .func (.func 40) #[] #[]] w fun e w' => e = .returned (.int .i64 k) ∧ Below w.heap.size w w' := by
  unfold Big at hn
  have HR := Lib.hid hr
  have HL := Lib.hid hlo
  have HH := Lib.hid hhi
  clear hr hlo hhi
  go_enter Try.func78, Try.ntmps78
  go_wp2
  go_loopw [8] (fun i wr => ∃ j : Nat, j ≤ k ∧ i = .int .i64 j ∧ Hid (Below w.heap.size w wr)) (fun i _ => k + 1 - (intOf i).toNat)
  case atStart => exact ⟨0, by omega, rfl, Lib.hid (Below.refl _ _)⟩
  case round =>
    obtain ⟨j, hj, rfl, HB⟩ := hrel
    have gj : (j : Int) < n := by omega
    rcases Row5.kept HR.out.1 (Kept.of HB.out) with h0 | ⟨b, o, rfl, hb, hc⟩
    · exact absurd h0 (by omega)
    obtain ⟨c0, c1, c2, c3, c4⟩ := hc j (by omega); clear hc
    by_cases hjk : j < k
    · have HF := Lib.hid (HL.out j hjk)
      go_wp2_with (first | (go_at_call 40; refine (wm_c _ _ _ _ _ _ _ _ _ _ _ (F j) (G j) false _ (HR.out.2 j (by omega)).1.1 (HR.out.2 j (by omega)).1.2 (Row1.kept (HR.out.2 j (by omega)).2.1 (Kept.of HB.out)) (Row1.kept (HR.out.2 j (by omega)).2.2 (Kept.of HB.out)) HF.out).mono ?_; rintro e w2 ⟨rfl, hb2⟩; have HB2 := Lib.hid (HB.out.trans (hb2.mono HB.out.size)); clear hb2))
      exact ⟨⟨j + 1, by omega, by go_num, HB2⟩, by simp [intOf]; omega⟩
    · obtain rfl : j = k := by omega
      have HF := HH
      go_wp2_with (first | (go_at_call 40; refine (wm_c _ _ _ _ _ _ _ _ _ _ _ (F j) (G j) true _ (HR.out.2 j (by omega)).1.1 (HR.out.2 j (by omega)).1.2 (Row1.kept (HR.out.2 j (by omega)).2.1 (Kept.of HB.out)) (Row1.kept (HR.out.2 j (by omega)).2.2 (Kept.of HB.out)) HF.out).mono ?_; rintro e w2 ⟨rfl, hb2⟩; have HB2 := Lib.hid (HB.out.trans (hb2.mono HB.out.size)); clear hb2))
      go_ret
      exact ⟨rfl, HB2.out⟩
set_option maxHeartbeats 1000000 in
theorem ix_wm_n (a : Option Addr) (n c : Nat) (A : Nat → Option Addr) (M : Nat → Nat) (C : Nat → Nat) (R : Nat → Int) (D : Nat → Option Addr) (L : Nat → Nat) (E : Nat → Nat) (S : Nat → Int) (X : Nat → Option Addr) (Y : Nat → Nat) (Z : Nat → Nat) (F : Nat → Nat → Int) (G : Nat → Nat → Int) (w : World) (hn : n ≤ Big) (hr : Row5 w a n (fun i => .slice (A i) (M i) (C i)) (fun i => .int .i64 (R i)) (fun i => .slice (D i) (L i) (E i)) (fun i => .int .i64 (S i)) (fun i => .slice (X i) (Y i) (Z i)) ∧ ∀ i, i < n → (M i ≤ Big ∧ L i ≤ Big) ∧ Row1 w (A i) (M i) (fun j => .int .i64 (F i j)) ∧ Row1 w (D i) (L i) (fun j => .int .i64 (G i j))) (hlo : ∀ i, i < n → (wrongM (M i) (F i) (L i) (G i)) = false) :
    Calls Try.prog 78 #[.slice a n c, .func (.func 40) #[] #[]] w fun e w' => e = .returned (.int .i64 (-1)) ∧ Below w.heap.size w w' := by
  unfold Big at hn
  have HR := Lib.hid hr
  have HL := Lib.hid hlo
  clear hr hlo
  go_enter Try.func78, Try.ntmps78
  go_wp2
  go_loopw [8] (fun i wr => ∃ j : Nat, j ≤ n ∧ i = .int .i64 j ∧ Hid (Below w.heap.size w wr)) (fun i _ => n - (intOf i).toNat)
  case atStart => exact ⟨0, by omega, rfl, Lib.hid (Below.refl _ _)⟩
  case round =>
    obtain ⟨j, hj, rfl, HB⟩ := hrel
    by_cases hjk : j < n
    · have gj : (j : Int) < n := by omega
      rcases Row5.kept HR.out.1 (Kept.of HB.out) with h0 | ⟨b, o, rfl, hb, hc⟩
      · exact absurd h0 (by omega)
      obtain ⟨c0, c1, c2, c3, c4⟩ := hc j (by omega); clear hc
      have HF := Lib.hid (HL.out j hjk)
      go_wp2_with (first | (go_at_call 40; refine (wm_c _ _ _ _ _ _ _ _ _ _ _ (F j) (G j) false _ (HR.out.2 j (by omega)).1.1 (HR.out.2 j (by omega)).1.2 (Row1.kept (HR.out.2 j (by omega)).2.1 (Kept.of HB.out)) (Row1.kept (HR.out.2 j (by omega)).2.2 (Kept.of HB.out)) HF.out).mono ?_; rintro e w2 ⟨rfl, hb2⟩; have HB2 := Lib.hid (HB.out.trans (hb2.mono HB.out.size)); clear hb2))
      exact ⟨⟨j + 1, by omega, by go_num, HB2⟩, by simp [intOf]; omega⟩
    · obtain rfl : j = n := by omega
      go_wp2
      go_ret
      exact ⟨rfl, HB.out⟩
theorem cf_wm (a : Option Addr) (n c : Nat) (A : Nat → Option Addr) (M : Nat → Nat) (C : Nat → Nat) (R : Nat → Int) (D : Nat → Option Addr) (L : Nat → Nat) (E : Nat → Nat) (S : Nat → Int) (X : Nat → Option Addr) (Y : Nat → Nat) (Z : Nat → Nat) (F : Nat → Nat → Int) (G : Nat → Nat → Int) (w : World) (hn : n ≤ Big) (hr : Row5 w a n (fun i => .slice (A i) (M i) (C i)) (fun i => .int .i64 (R i)) (fun i => .slice (D i) (L i) (E i)) (fun i => .int .i64 (S i)) (fun i => .slice (X i) (Y i) (Z i)) ∧ ∀ i, i < n → (M i ≤ Big ∧ L i ≤ Big) ∧ Row1 w (A i) (M i) (fun j => .int .i64 (F i j)) ∧ Row1 w (D i) (L i) (fun j => .int .i64 (G i j))) (x : Bool) (hx : anyN n (fun i => (wrongM (M i) (F i) (L i) (G i))) = x) :
    Calls Try.prog 39 #[.slice a n c, .func (.func 40) #[] #[]] w fun e w' => e = .returned (.bool x) ∧ Below w.heap.size w w' := by
  cases x with
  | true =>
    obtain ⟨k, hk, hlo, hhi⟩ := anyN_y hx
    clear hx
    have HL := Lib.hid hlo
    have HH := Lib.hid hhi
    clear hlo hhi
    go_enter Try.func39, Try.ntmps39
    go_wp2_with (first | (go_at_call 78; refine (ix_wm_y a n c k A M C R D L E S X Y Z F G _ hn hr hk HL.out HH.out).mono ?_; rintro e w' ⟨rfl, hb⟩))
    go_ret
    exact ⟨rfl, hb⟩
  | false =>
    have HL := Lib.hid (anyN_n hx)
    clear hx
    go_enter Try.func39, Try.ntmps39
    go_wp2_with (first | (go_at_call 78; refine (ix_wm_n a n c A M C R D L E S X Y Z F G _ hn hr HL.out).mono ?_; rintro e w' ⟨rfl, hb⟩))
    go_ret
    exact ⟨rfl, hb⟩
end Go.Proofs.Ytpiafgmncfibmaa
