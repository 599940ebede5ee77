import Derived.Laws.RangeString
import Derived.Test.YtgdlcnngplfjnaaDoorPg

import Derived.Test.YtgdlcnngplfjnaaDoorRows
import Derived.WalkKit
import Derived.ProofKit
import Derived.OpenShut
import Derived.Deep.QuietTactic
import Derived.BigQuiet
import Derived.Outline
import Derived.WalkSmall
import Derived.WalkLawsBesides
import Derived.WalkSpells
import Derived.BigGuardPart
import Derived.RegionTactic
import Derived.Deep.RegionHeld3
import Derived.Lib.Hide
import Derived.Deep.MidRow
import Derived.Below
import Derived.Deep.RegionWith
import Derived.Deep.OwnRows
import Derived.Deep.AppendLies
import Derived.Deep.RegionLaw
namespace Go.Proofs.YtgdlcnngplfjnaaDoor
open Go.ChangeShapes Go.WideShapes Go.ChangeAt Go.RowKit
set_option linter.unusedVariables false

/-- What stands behind a bytecode: 0 nothing, 1 a byte, 2 a signed byte, 3 an offset, 4 two bytes. -/
def kindO (c : Int) : Nat := if c = 2 then 2 else if c = 25 then 3 else if c = 26 then 3 else if c = 30 then 4 else if c = 31 then 4 else if c = 1 ∨ c = 4 ∨ c = 5 ∨ c = 27 ∨ c = 29 ∨ c = 32 ∨ c = 33 ∨ c = 34 ∨ c = 38 then 1 else 0
def kindS (k : Nat) : ByteArray := if k = 2 then ⟨#[115]⟩ else if k = 3 then ⟨#[111]⟩ else if k = 4 then ⟨#[117, 117]⟩ else if k = 1 then ⟨#[117]⟩ else ⟨#[]⟩
def sizeK (k : Nat) : Int := if k = 3 then 3 else if k = 4 then 3 else if k = 0 then 1 else 2
theorem isCode_c (c : Int) (w : World) : Calls Tryd.prog 25 #[.int .i64 c] w fun e w' => e = .returned (.bool (decide (0 ≤ c ∧ c < 41))) ∧ w' = w := by
  go_enter Tryd.func25, Tryd.ntmps25
  by_cases h0 : 0 ≤ c
  · by_cases h1 : c < 41
    · go_wp2
      go_ret
      exact ⟨by simp [h0, h1], rfl⟩
    · go_wp2
      go_ret
      exact ⟨by simp; omega, rfl⟩
  · go_wp2
    go_ret
    exact ⟨by simp; omega, rfl⟩
theorem sizeOne_c (c : Int) (w : World) : Calls Tryd.prog 29 #[.int .i32 c] w fun e w' => e = .returned (.int .i64 (if c = 111 then 2 else 1)) ∧ w' = w := by
  go_enter Tryd.func29, Tryd.ntmps29
  by_cases h0 : c = 111
  · subst h0
    go_wp2
    go_ret
    exact ⟨rfl, rfl⟩
  · have h1 : (c == 111) = false := by simpa using h0
    go_wp2
    go_ret
    exact ⟨by simp, rfl⟩
theorem operands_c (c : Int) (w : World) : Calls Tryd.prog 27 #[.int .i64 c] w fun e w' => e = .returned (.string (kindS (kindO c))) ∧ w' = w := by
  go_enter Tryd.func27, Tryd.ntmps27
  go_wp2
  all_goals
    go_ret
    refine ⟨?_, rfl⟩
    simp_all [kindO, kindS]
theorem kcase (k : Nat) : k = 1 ∨ k = 2 ∨ k = 3 ∨ k = 4 ∨ (k ≠ 1 ∧ k ≠ 2 ∧ k ≠ 3 ∧ k ≠ 4) := by omega
theorem next_at (w : World) (s : ByteArray) (pos v : Nat) (h : pos < s.size) (ha : v < 128) (hv : (s[pos]'h).toNat = v) (ty : TypeId) : (Instr.next (.pointer (some ⟨w.heap.size, 0, none⟩)) true ty).run Tryd.prog (w.iter s pos) = .ok (.tuple #[.bool true, .int .i64 pos, .int .i32 v]) (w.iter s (pos + 1)) := by
  have := run_next_ascii (P := Tryd.prog) w s pos ty h (by rw [hv]; exact ha)
  rw [hv] at this
  exact this
theorem next_end (w : World) (s : ByteArray) (pos : Nat) (h : ¬ pos < s.size) (ty : TypeId) : (Instr.next (.pointer (some ⟨w.heap.size, 0, none⟩)) true ty).run Tryd.prog (w.iter s pos) = .ok (.tuple #[.bool false]) (w.iter s pos) := run_next_end (P := Tryd.prog) w s pos ty h
theorem sizeOf_c (c : Int) (w : World) : Calls Tryd.prog 26 #[.int .i64 c] w fun e w' => e = .returned (.int .i64 (sizeK (kindO c))) ∧ Below w.heap.size w w' := by
  obtain ⟨k, hk⟩ : ∃ k, kindO c = k := ⟨_, rfl⟩
  have HO : Hid (∀ V, Calls Tryd.prog 27 #[.int .i64 c] V fun e w' => e = .returned (.string (kindS k)) ∧ w' = V) := Lib.hid fun V => hk ▸ operands_c c V
  have hk0 : (k ≠ 1 ∧ k ≠ 2 ∧ k ≠ 3 ∧ k ≠ 4) → sizeK k = 1 := fun q => by
    have h0 : k = 0 := by
      rw [← hk] at q ⊢
      revert q
      unfold kindO
      repeat' split
      all_goals simp
    rw [h0]; rfl
  rw [hk]
  clear hk
  go_enter Tryd.func26, Tryd.ntmps26
  go_wp2_with fail
  refine (HO.out w).mono ?_
  rintro e w1 ⟨rfl, rfl⟩
  go_wp2_with fail
  rcases kcase k with rfl | rfl | rfl | rfl | hk
  · have hS : kindS 1 = ⟨#[117]⟩ := rfl
    rw [hS]
    have h0 := next_at w1 ⟨#[117]⟩ 0 117 (by decide) (by decide) rfl
    have h1 := next_end w1 ⟨#[117]⟩ 1 (by decide)
    refine wp_loop_rounds 2 ?_
    rw [rounds_succ]
    go_wp2_with (first | (go_at_call 29; refine (sizeOne_c _ _).mono ?_; rintro e w2 ⟨rfl, rfl⟩))
    rw [rounds_succ]
    go_wp2_with fail
    go_ret
    exact ⟨rfl, (Below.refl _ _).alloc (Nat.le_refl _) _⟩
  · have hS : kindS 2 = ⟨#[115]⟩ := rfl
    rw [hS]
    have h0 := next_at w1 ⟨#[115]⟩ 0 115 (by decide) (by decide) rfl
    have h1 := next_end w1 ⟨#[115]⟩ 1 (by decide)
    refine wp_loop_rounds 2 ?_
    rw [rounds_succ]
    go_wp2_with (first | (go_at_call 29; refine (sizeOne_c _ _).mono ?_; rintro e w2 ⟨rfl, rfl⟩))
    rw [rounds_succ]
    go_wp2_with fail
    go_ret
    exact ⟨rfl, (Below.refl _ _).alloc (Nat.le_refl _) _⟩
  · have hS : kindS 3 = ⟨#[111]⟩ := rfl
    rw [hS]
    have h0 := next_at w1 ⟨#[111]⟩ 0 111 (by decide) (by decide) rfl
    have h1 := next_end w1 ⟨#[111]⟩ 1 (by decide)
    refine wp_loop_rounds 2 ?_
    rw [rounds_succ]
    go_wp2_with (first | (go_at_call 29; refine (sizeOne_c _ _).mono ?_; rintro e w2 ⟨rfl, rfl⟩))
    rw [rounds_succ]
    go_wp2_with fail
    go_ret
    exact ⟨rfl, (Below.refl _ _).alloc (Nat.le_refl _) _⟩
  · have hS : kindS 4 = ⟨#[117, 117]⟩ := rfl
    rw [hS]
    have h0 := next_at w1 ⟨#[117, 117]⟩ 0 117 (by decide) (by decide) rfl
    have h1 := next_at w1 ⟨#[117, 117]⟩ 1 117 (by decide) (by decide) rfl
    have h2 := next_end w1 ⟨#[117, 117]⟩ 2 (by decide)
    refine wp_loop_rounds 3 ?_
    rw [rounds_succ]
    go_wp2_with (first | (go_at_call 29; refine (sizeOne_c _ _).mono ?_; rintro e w2 ⟨rfl, rfl⟩))
    rw [rounds_succ]
    go_wp2_with (first | (go_at_call 29; refine (sizeOne_c _ _).mono ?_; rintro e w2 ⟨rfl, rfl⟩))
    rw [rounds_succ]
    go_wp2_with fail
    go_ret
    exact ⟨rfl, (Below.refl _ _).alloc (Nat.le_refl _) _⟩
  · have hS : kindS k = ⟨#[]⟩ := by unfold kindS; rw [if_neg hk.2.1, if_neg hk.2.2.1, if_neg hk.2.2.2, if_neg hk.1]
    have hz : sizeK k = 1 := hk0 hk
    rw [hS]
    have h0 := next_end w1 ⟨#[]⟩ 0 (by decide)
    refine wp_loop_rounds 1 ?_
    rw [rounds_succ]
    go_wp2_with fail
    go_ret
    exact ⟨by rw [hz]; rfl, (Below.refl _ _).alloc (Nat.le_refl _) _⟩
end Go.Proofs.YtgdlcnngplfjnaaDoor
