import Derived.Test.YtgdlcnngplfjnaaDoorXb
import Derived.Test.YtgdlcnngplfjnaaDoorXc
import Derived.Test.YtgdlcnngplfjnaaDoorRn
import Derived.Test.YtgdlcnngplfjnaaDoorLp
import Derived.BigGuardPart
import Derived.LoopIn
import Derived.LoopNIn
import Derived.OwnWalkIn
import Derived.RangeFuncBound
import Derived.RangeFuncBox
import Derived.RangeFuncCalls
import Derived.RangeFuncLeaves
import Derived.RangeFuncNested
import Derived.Shelf.RegionOpen
import Derived.TacticsInMore
import Derived.Laws.BitsLemmas
import Derived.IntWalk
import Derived.Laws.BitsAllLaws
import Derived.Deep.DrawnRows
import Derived.WalkKit
import Derived.ProofKit
import Derived.OpenShut
import Derived.Deep.QuietTactic
import Derived.BigQuiet
import Derived.Outline
import Derived.WalkSmall
import Derived.WalkLawsBesides
import Derived.WalkSpells
import Derived.BigGuardPart
import Derived.RegionTactic
import Derived.Deep.RegionHeld3
import Derived.Lib.Hide
import Derived.Deep.MidRow
import Derived.Below
import Derived.Deep.RegionWith
import Derived.Deep.OwnRows
import Derived.Deep.AppendLies
import Derived.Deep.RegionLaw
import Derived.Deep.CutBlock
import Derived.Deep.DeepCutAuto
import Derived.Lib.ItoaLen
import Derived.Lib.ItoaMem
namespace Go.Proofs.YtgdlcnngplfjnaaDoor.Co
open Go.Shelf Go.ChangeShapes Go.WideShapes Go.ChangeAt Go.RowKit Go.Proofs.YtgdlcnngplfjnaaDoor.Vf
set_option linter.unusedVariables false
/-! ### Read at any place: the program's (9) and the document's (10) -/
def RdA (n : Nat) (D : Nat → Nat) (p : Int) (w : World) (e : Ending) (w' : World) : Prop := e = .returned (.tuple #[.agg (opC n D p), .int .i64 (opE n D p)]) ∧ Below w.heap.size w w'
theorem opC_at {n : Nat} {D : Nat → Nat} {k : Nat} (hk : k < n) : opE n D (k : Int) = rdE n D k ∧ opC n D (k : Int) = rdC n D k := by
  have h1 : opE n D (k : Int) = rdE n D k := by
    unfold opE
    rw [if_neg (by omega), if_neg (by omega)]
    rfl
  refine ⟨h1, ?_⟩
  unfold opC rdC
  rw [h1]
  rfl
theorem opC_end (n : Nat) (D : Nat → Nat) : opE n D (n : Int) = 6 ∧ opC n D (n : Int) = ret4 0 0 0 0 := by
  have h1 : opE n D (n : Int) = 6 := by
    unfold opE
    rw [if_neg (by omega), if_pos rfl]
  refine ⟨h1, ?_⟩
  unfold opC
  rw [h1, if_neg (by decide)]
  rfl
theorem opC_out {n : Nat} {D : Nat → Nat} {p : Int} (h : p < 0 ∨ (n : Int) < p) : opE n D p = 1 ∧ opC n D p = ret4 0 0 0 0 := by
  have h1 : opE n D p = 1 := if_pos h
  refine ⟨h1, ?_⟩
  unfold opC
  rw [h1, if_neg (by decide)]
  rfl
set_option maxRecDepth 100000 in
set_option maxHeartbeats 4000000 in
theorem cread_any (a : Option Addr) (n c : Nat) (D : Nat → Nat) (p : Int) (w : World) (hI : CodeIn w a n c D) : Calls Tryd.prog 9 #[.slice a n c, .int .i64 p] w (RdA n D p w) := by
  have hn := hI.big
  by_cases h0 : p < 0
  · have d0 : decide (p < 0) = true := decide_eq_true h0
    obtain ⟨h1, h2⟩ := opC_out (n := n) (D := D) (.inl h0)
    unfold RdA
    rw [h1, h2]
    clear h0 h1 h2
    unfold ret4
    go_enter Tryd.func9, Tryd.ntmps9
    go_wp2
    exact bodyPost_ret (v := .tuple #[.agg #[.int .i64 0, .int .i64 0, .int .i64 0, .int .i64 0], .int .i64 1]) (by simp [results, Tryd.results9, go_sem]) rfl ⟨rfl, (Below.refl _ _).alloc (Nat.le_refl _) _⟩
  · have d0 : decide (p < 0) = false := decide_eq_false h0
    by_cases h1 : (n : Int) < p
    · have d1 : decide ((n : Int) < p) = true := decide_eq_true h1
      obtain ⟨h2, h3⟩ := opC_out (n := n) (D := D) (p := p) (.inr h1)
      unfold RdA
      rw [h2, h3]
      clear h0 h1 h2 h3
      unfold ret4
      go_enter Tryd.func9, Tryd.ntmps9
      go_wp2
      exact bodyPost_ret (v := .tuple #[.agg #[.int .i64 0, .int .i64 0, .int .i64 0, .int .i64 0], .int .i64 1]) (by simp [results, Tryd.results9, go_sem]) rfl ⟨rfl, (Below.refl _ _).alloc (Nat.le_refl _) _⟩
    · have d1 : decide ((n : Int) < p) = false := decide_eq_false h1
      by_cases h2 : p = n
      · subst h2
        obtain ⟨h3, h4⟩ := opC_end n D
        unfold RdA
        rw [h3, h4]
        clear h0 h1 h3 h4
        unfold ret4
        go_enter Tryd.func9, Tryd.ntmps9
        go_wp2
        exact bodyPost_ret (v := .tuple #[.agg #[.int .i64 0, .int .i64 0, .int .i64 0, .int .i64 0], .int .i64 6]) (by simp [results, Tryd.results9, go_sem]) rfl ⟨rfl, (Below.refl _ _).alloc (Nat.le_refl _) _⟩
      · obtain ⟨k, rfl⟩ : ∃ k : Nat, p = k := ⟨p.toNat, by omega⟩
        obtain ⟨h3, h4⟩ := opC_at (n := n) (D := D) (show k < n by omega)
        unfold RdA
        rw [h3, h4]
        exact cread_c a n c D k w hI (by omega)
set_option maxRecDepth 100000 in
set_option maxHeartbeats 4000000 in
theorem rread_any (a : Option Addr) (n c : Nat) (D : Nat → Nat) (p : Int) (w : World) (hI : CodeIn w a n c D) : Calls Tryd.prog 10 #[.slice a n c, .int .i64 p] w (RdA n D p w) := by
  have hn := hI.big
  by_cases h0 : p < 0
  · have d0 : decide (p < 0) = true := decide_eq_true h0
    obtain ⟨h1, h2⟩ := opC_out (n := n) (D := D) (.inl h0)
    unfold RdA
    rw [h1, h2]
    clear h0 h1 h2
    unfold ret4
    go_enter Tryd.func10, Tryd.ntmps10
    go_wp2
    exact bodyPost_ret (v := .tuple #[.agg #[.int .i64 0, .int .i64 0, .int .i64 0, .int .i64 0], .int .i64 1]) (by simp [results, Tryd.results10, go_sem]) rfl ⟨rfl, (Below.refl _ _).alloc (Nat.le_refl _) _⟩
  · have d0 : decide (p < 0) = false := decide_eq_false h0
    by_cases h1 : (n : Int) < p
    · have d1 : decide ((n : Int) < p) = true := decide_eq_true h1
      obtain ⟨h2, h3⟩ := opC_out (n := n) (D := D) (p := p) (.inr h1)
      unfold RdA
      rw [h2, h3]
      clear h0 h1 h2 h3
      unfold ret4
      go_enter Tryd.func10, Tryd.ntmps10
      go_wp2
      exact bodyPost_ret (v := .tuple #[.agg #[.int .i64 0, .int .i64 0, .int .i64 0, .int .i64 0], .int .i64 1]) (by simp [results, Tryd.results10, go_sem]) rfl ⟨rfl, (Below.refl _ _).alloc (Nat.le_refl _) _⟩
    · have d1 : decide ((n : Int) < p) = false := decide_eq_false h1
      by_cases h2 : p = n
      · subst h2
        obtain ⟨h3, h4⟩ := opC_end n D
        unfold RdA
        rw [h3, h4]
        clear h0 h1 h3 h4
        unfold ret4
        go_enter Tryd.func10, Tryd.ntmps10
        go_wp2
        exact bodyPost_ret (v := .tuple #[.agg #[.int .i64 0, .int .i64 0, .int .i64 0, .int .i64 0], .int .i64 6]) (by simp [results, Tryd.results10, go_sem]) rfl ⟨rfl, (Below.refl _ _).alloc (Nat.le_refl _) _⟩
      · obtain ⟨k, rfl⟩ : ∃ k : Nat, p = k := ⟨p.toNat, by omega⟩
        obtain ⟨h3, h4⟩ := opC_at (n := n) (D := D) (show k < n by omega)
        unfold RdA
        rw [h3, h4]
        exact rread_c a n c D k w hI (by omega)
end Go.Proofs.YtgdlcnngplfjnaaDoor.Co
