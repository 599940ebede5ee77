import Derived.Laws.BitsLemmas
import Derived.IntWalk
import Derived.Laws.BitsAllLaws
import Derived.Deep.DrawnRows
import Derived.Deep.RegionLaw
import Derived.Test.YtpiafgmncfibmaaQp
import Derived.Test.YtpiafgmncfibmaaRows
import Derived.WalkKit
import Derived.ProofKit
import Derived.OpenShut
import Derived.Deep.QuietTactic
import Derived.BigQuiet
import Derived.Outline
import Derived.WalkSmall
import Derived.WalkLawsBesides
import Derived.WalkSpells
import Derived.BigGuardPart
import Derived.RegionTactic
import Derived.Deep.RegionHeld3
import Derived.Lib.Hide
import Derived.Deep.MidRow
import Derived.Below
import Derived.Deep.RegionWith
import Derived.Deep.OwnRows
import Derived.Deep.AppendLies
import Derived.Deep.RegionLaw
namespace Go.Proofs.Ytpiafgmncfibmaa
open Go.ChangeShapes Go.WideShapes Go.ChangeAt Go.RowKit
set_option linter.unusedVariables false

/-- The state in which something was wrong. -/
structure BD (S : Src) (w : World) (V : World) : Prop where
  e : ∃ p er, prsE S.n S.d = some (p, er) ∧ R2 S (some (p, er)) 0 V
  res : BoxT V w.heap.size z3 26
theorem BD.call {S : Src} {w V V' : World} {p : Nat} {er : Int} (h : prsE S.n S.d = some (p, er)) (hr : R2 S (some (p, er)) 0 V') (hb : BoxT V' w.heap.size z3 26) : BD S w V' := ⟨⟨p, er, h, hr⟩, hb⟩
theorem magicC2 (w : World) (x : Value) : (convert 29 29 (.slice (some ⟨w.heap.size + 3, 0, none⟩) 4 4)).run Try.prog ((((w.alloc (.cells #[.slice none 0 0, .slice none 0 0, .slice none 0 0] 26)).alloc (.cells #[x, .int .i64 0, .int .i64 0, .int .i64 0] 98)).alloc (.cells #[.slice none 0 0, .slice none 0 0, .slice none 0 0] 26)).alloc (.cells #[.int .u8 66, .int .u8 90, .int .u8 82, .int .u8 49] 5)) = .ok (.slice (some ⟨w.heap.size + 3, 0, none⟩) 4 4) ((((w.alloc (.cells #[.slice none 0 0, .slice none 0 0, .slice none 0 0] 26)).alloc (.cells #[x, .int .i64 0, .int .i64 0, .int .i64 0] 98)).alloc (.cells #[.slice none 0 0, .slice none 0 0, .slice none 0 0] 26)).alloc (.cells #[.int .u8 66, .int .u8 90, .int .u8 82, .int .u8 49] 5 (4, 5))) := by
  have h := Lib.run_convert_bytes_const (P := Try.prog) (((w.alloc (.cells #[.slice none 0 0, .slice none 0 0, .slice none 0 0] 26)).alloc (.cells #[x, .int .i64 0, .int .i64 0, .int .i64 0] 98)).alloc (.cells #[.slice none 0 0, .slice none 0 0, .slice none 0 0] 26)) 29 5 #[.int .u8 66, .int .u8 90, .int .u8 82, .int .u8 49] 4 4 Try.underlying29 Try.underlying5
  have ha : (((w.alloc (.cells #[.slice none 0 0, .slice none 0 0, .slice none 0 0] 26)).alloc (.cells #[x, .int .i64 0, .int .i64 0, .int .i64 0] 98)).alloc (.cells #[.slice none 0 0, .slice none 0 0, .slice none 0 0] 26)).heap.size = w.heap.size + 3 := by simp
  rw [ha] at h
  exact h
/-- The magic bytes, as they lie. -/
def MgAt (w V : World) : Prop := ∀ (j : Nat) (u : Int), ([66, 90, 82, 49] : List Int)[j]? = some u → V.cell? ⟨w.heap.size + 3, j, none⟩ = some (.int .u8 u)
theorem MgAt.call {w V V' : World} {R : Nat} (h : MgAt w V) (hl : w.heap.size + 3 < V.heap.size) (hR : R ≠ w.heap.size + 3) (hg : V.grownBy V' (some R)) : MgAt w V' := fun j u hu => (hg.cell_far ⟨w.heap.size + 3, j, none⟩ hl (by simp; exact fun e => hR e.symm)).trans (h j u hu)
theorem parsey_start (a : Option Addr) (n c : Nat) (d : Nat → Nat) (w : World) : ∃ V, V = (((w.alloc (.cells z3 26)).alloc (.cells #[.slice a n c, .int .i64 0, .int .i64 0, .int .i64 0] 98)).alloc (.cells z3 26)).alloc (.cells #[.int .u8 66, .int .u8 90, .int .u8 82, .int .u8 49] 5 (4, 5)) ∧
    PM2 ⟨w, w.heap.size + 1, n, c, a, d⟩ w none 0 (w.heap.size + 2) { prs d with np := 0, nc := 0, nm := 0 } noAd V ∧ MgAt w V ∧ w.heap.size + 3 < V.heap.size := by
  refine ⟨_, rfl, ?_, ?_, by simp⟩
  · have e1 : (w.alloc (.cells z3 26)).heap.size = w.heap.size + 1 := by simp
    have e2 : ((w.alloc (.cells z3 26)).alloc (.cells #[.slice a n c, .int .i64 0, .int .i64 0, .int .i64 0] 98)).heap.size = w.heap.size + 2 := by simp
    have b1 : BoxT ((w.alloc (.cells z3 26)).alloc (.cells #[.slice a n c, .int .i64 0, .int .i64 0, .int .i64 0] 98)) (w.heap.size + 1) #[.slice a n c, .int .i64 0, .int .i64 0, .int .i64 0] 98 := by rw [← e1]; exact heap_alloc_new _ _
    have b2 : BoxT (((w.alloc (.cells z3 26)).alloc (.cells #[.slice a n c, .int .i64 0, .int .i64 0, .int .i64 0] 98)).alloc (.cells z3 26)) (w.heap.size + 2) z3 26 := by rw [← e2]; exact heap_alloc_new _ _
    have hb : Below w.heap.size w ((((w.alloc (.cells z3 26)).alloc (.cells #[.slice a n c, .int .i64 0, .int .i64 0, .int .i64 0] 98)).alloc (.cells z3 26)).alloc (.cells #[.int .u8 66, .int .u8 90, .int .u8 82, .int .u8 49] 5 (4, 5))) := ((((Below.refl _ _).alloc (Nat.le_refl _) _).alloc (by simp) _).alloc (by simp; omega) _).alloc (by simp; omega) _
    refine ⟨⟨grown_of_below hb _, (b1.keep (.alloc _ _)).keep (.alloc _ _)⟩, (((BoxT.keep (show BoxT (w.alloc _) w.heap.size z3 26 from heap_alloc_new _ _) (.alloc _ _)).keep (.alloc _ _)).keep (.alloc _ _)), b2.keep (.alloc _ _), ⟨nil_row _ _ _ _ _ rfl, nil_row _ _ _ _ _ rfl, fun i hi => absurd hi (Nat.not_lt_zero i), nil_row _ _ _ _ _ rfl, fun i hi => absurd hi (Nat.not_lt_zero i), fun i hi => absurd hi (Nat.not_lt_zero i), fun i hi => absurd hi (Nat.not_lt_zero i)⟩, by omega, grown_of_below hb _⟩
  · intro j u hu
    have h := magic4 (((w.alloc (.cells z3 26)).alloc (.cells #[.slice a n c, .int .i64 0, .int .i64 0, .int .i64 0] 98)).alloc (.cells z3 26)) j u hu
    rw [show (((w.alloc (.cells z3 26)).alloc (.cells #[.slice a n c, .int .i64 0, .int .i64 0, .int .i64 0] 98)).alloc (.cells z3 26)).heap.size = w.heap.size + 3 by simp, Addr.add_lit, Nat.zero_add] at h
    exact h
end Go.Proofs.Ytpiafgmncfibmaa
