import Derived.Test.YtpiafgmncfibmaaRd
import Derived.Test.YtpiafgmncfibmaaRows
import Derived.Laws.IdiomStrings
import Derived.WalkKit
import Derived.ProofKit
import Derived.OpenShut
import Derived.Deep.QuietTactic
import Derived.BigQuiet
import Derived.Outline
import Derived.WalkSmall
import Derived.WalkLawsBesides
import Derived.WalkSpells
import Derived.BigGuardPart
import Derived.RegionTactic
import Derived.Deep.RegionHeld3
import Derived.Lib.Hide
import Derived.Deep.MidRow
import Derived.Below
import Derived.Deep.RegionWith
import Derived.Deep.OwnRows
import Derived.Deep.AppendLies
namespace Go.Proofs.Ytpiafgmncfibmaa
open Go.ChangeShapes Go.WideShapes Go.ChangeAt Go.RowKit
set_option linter.unusedVariables false

def ParseR (w : World) (e : Ending) (w' : World) : Prop := ∃ g2 cap2 g cap, e = .returned (.tuple #[.agg #[.slice none 0 0, .slice none 0 0, .slice (some ⟨g2, 0, none⟩) 1 cap2], .int .i64 0, .int .i64 0]) ∧ OutP w w' g2 g cap ∧ Below w.heap.size w w'
structure US (w V : World) (g2 g cap : Nat) (X : Array Value) : Prop where
  x : rowAt V w.heap.size = some X
  o : OutP w V g2 g cap
  l2 : w.heap.size + 2 ≤ g2
  l1 : w.heap.size + 2 ≤ g
  be : Below w.heap.size w V
theorem OutP.alloc {w V : World} {g2 g cap : Nat} (h : OutP w V g2 g cap) (o : Obj) : OutP w (V.alloc o) g2 g cap :=
  ⟨fun j v hv => ((grown_alloc V o none).cell_far ⟨g2, j, none⟩ h.g2.2 (by simp)).trans (h.m j v hv), ((grown_alloc V o none).cell_far ⟨g, 0, none⟩ h.g.2 (by simp)).trans h.c, ⟨h.g2.1, by have := h.g2.2; simp; omega⟩, ⟨h.g.1, by have := h.g.2; simp; omega⟩⟩
theorem US.alloc {w V : World} {g2 g cap : Nat} {X : Array Value} (h : US w V g2 g cap X) (o : Obj) : US w (V.alloc o) g2 g cap X := ⟨rowAt_past h.x _, h.o.alloc o, h.l2, h.l1, h.be.alloc h.be.size o⟩
theorem US.set {w V : World} {g2 g cap : Nat} {X X' : Array Value} (h : US w V g2 g cap X) (j : Nat) (v : Value) (hX : X.setIfInBounds j v = X') : US w (V.setCell ⟨w.heap.size, j, none⟩ v) g2 g cap X' :=
  have h2 := h.l2
  have h1 := h.l1
  ⟨hX ▸ rowAt_set h.x j v, h.o.set _ _ (by show w.heap.size ≠ g2; omega) (by show w.heap.size ≠ g; omega), h2, h1, h.be.setCell (p := ⟨w.heap.size, j, none⟩) (Nat.le_refl _) v⟩
set_option maxRecDepth 100000 in
theorem parse14_c (B : Nat) (w : World) (HB : Hid (rowAt w B = some by14)) : Calls Try.prog 18 #[.slice (some ⟨B, 0, none⟩) 14 14] w (ParseR w) := by
  have hB := rowAt_lt HB.out
  have HP : Hid (PS ((w.alloc (.cells z3 26)).alloc (.cells (rdr B 0 14 14 0) 95)) (w.heap.size + 1) B 0) := Lib.hid ⟨(by have := rowAt_new (w.alloc (.cells z3 26)) (rdr B 0 14 14 0) 95; rw [show (w.alloc (.cells z3 26)).heap.size = w.heap.size + 1 by simp] at this; exact this), rowAt_past (rowAt_past HB.out _) _, by omega⟩
  go_enter Try.func18, Try.ntmps18
  go_wp2_with fail
  refine (read_c (w.heap.size + 1) B _ HP).mono ?_
  rintro e V ⟨g2, cap2, g, cap, rfl, ho, hg⟩
  have HU : Hid (US w V g2 g cap z3) := Lib.hid ⟨rowAt_grown (rowAt_past (rowAt_new w z3 26) _) hg (by omega), ⟨ho.m, ho.c, ⟨by have := ho.g2.1; simp at this; omega, ho.g2.2⟩, ⟨by have := ho.g.1; simp at this; omega, ho.g.2⟩⟩, (by have := ho.g2.1; simp at this; omega), (by have := ho.g.1; simp at this; omega), grown_below (((Below.refl w.heap.size w).alloc (Nat.le_refl _) (.cells z3 26)).alloc (by simp) (.cells (rdr B 0 14 14 0) 95)) hg (by omega)⟩
  clear ho hg HP
  have hx : w.heap.size < V.heap.size := rowAt_lt HU.out.x
  have x0 : V.cell? ⟨w.heap.size, 0, none⟩ = some (.slice none 0 0) := rowAt_cell HU.out.x 0
  have z0 : V.frozen? ⟨w.heap.size, 0, none⟩ = false := rowAt_frz HU.out.x 0
  have x1 : V.cell? ⟨w.heap.size, 1, none⟩ = some (.slice none 0 0) := rowAt_cell HU.out.x 1
  have z1 : V.frozen? ⟨w.heap.size, 1, none⟩ = false := rowAt_frz HU.out.x 1
  have x2 : V.cell? ⟨w.heap.size, 2, none⟩ = some (.slice none 0 0) := rowAt_cell HU.out.x 2
  have z2 : V.frozen? ⟨w.heap.size, 2, none⟩ = false := rowAt_frz HU.out.x 2
  go_wp2
  clear x0 x1 x2 z0 z1 z2
  replace HU : Hid (US w (V.setCell ⟨w.heap.size, 0, none⟩ (.slice none 0 0)) g2 g cap #[.slice none 0 0, .slice none 0 0, .slice none 0 0]) := Lib.hid (HU.out.set 0 _ rfl)
  generalize V.setCell ⟨w.heap.size, 0, none⟩ (.slice none 0 0) = e0 at HU ⊢
  replace HU : Hid (US w (e0.setCell ⟨w.heap.size, 1, none⟩ (.slice none 0 0)) g2 g cap #[.slice none 0 0, .slice none 0 0, .slice none 0 0]) := Lib.hid (HU.out.set 1 _ rfl)
  generalize e0.setCell ⟨w.heap.size, 1, none⟩ (.slice none 0 0) = e1 at HU ⊢
  replace HU : Hid (US w (e1.setCell ⟨w.heap.size, 2, none⟩ (.slice (some ⟨g2, 0, none⟩) 1 cap2)) g2 g cap #[.slice none 0 0, .slice none 0 0, .slice (some ⟨g2, 0, none⟩) 1 cap2]) := Lib.hid (HU.out.set 2 _ rfl)
  generalize e1.setCell ⟨w.heap.size, 2, none⟩ (.slice (some ⟨g2, 0, none⟩) 1 cap2) = e2 at HU ⊢
  replace HU := Lib.hid ((HU.out.alloc (.cells #[.slice none 0 0, .slice none 0 0, .slice (some ⟨g2, 0, none⟩) 1 cap2] 26)).alloc (.cells #[.int .i64 0, .int .i64 0] 90))
  generalize (e2.alloc (.cells #[.slice none 0 0, .slice none 0 0, .slice (some ⟨g2, 0, none⟩) 1 cap2] 26)).alloc (.cells #[.int .i64 0, .int .i64 0] 90) = e3 at HU ⊢
  have x0 : e3.cell? ⟨w.heap.size, 0, none⟩ = some (.slice none 0 0) := rowAt_cell HU.out.x 0
  have x1 : e3.cell? ⟨w.heap.size, 1, none⟩ = some (.slice none 0 0) := rowAt_cell HU.out.x 1
  have x2 : e3.cell? ⟨w.heap.size, 2, none⟩ = some (.slice (some ⟨g2, 0, none⟩) 1 cap2) := rowAt_cell HU.out.x 2
  exact bodyPost_ret (v := .tuple #[.agg #[.slice none 0 0, .slice none 0 0, .slice (some ⟨g2, 0, none⟩) 1 cap2], .int .i64 0, .int .i64 0]) (by simp [results, Try.results18, go_sem, x0, x1, x2]) rfl ⟨g2, cap2, g, cap, rfl, HU.out.o, HU.out.be⟩

set_option maxRecDepth 100000 in
theorem known14_c (w : World) : Calls Try.prog 12 #[] w fun e w' => e = .returned (.bool true) ∧ Below w.heap.size w w' := by
  have HB : Hid (rowAt (w.alloc (.cells by14 5)) w.heap.size = some by14) := Lib.hid (rowAt_new _ _ _)
  go_enter Try.func12, Try.ntmps12
  go_wp2_with fail
  refine (parse14_c w.heap.size _ HB).mono ?_
  rintro e V ⟨g2, cap2, g, cap, rfl, ho, hb⟩
  have HO := Lib.hid ho
  have HE := Lib.hid (((Below.refl w.heap.size w).alloc (Nat.le_refl _) (.cells by14 5)).trans (hb.mono (by simp)))
  have hg2 := ho.g2.2
  have hg := ho.g.2
  have c0 := ho.c
  have m0 : V.cell? ⟨g2, 0, none⟩ = some (.slice none 0 0) := HO.out.m 0 _ rfl
  have m1 : V.cell? ⟨g2, 1, none⟩ = some (.int .i64 0) := HO.out.m 1 _ rfl
  have m2 : V.cell? ⟨g2, 2, none⟩ = some (.slice none 0 0) := HO.out.m 2 _ rfl
  have m3 : V.cell? ⟨g2, 3, none⟩ = some (.int .i64 0) := HO.out.m 3 _ rfl
  have m4 : V.cell? ⟨g2, 4, none⟩ = some (.slice (some ⟨g, 0, none⟩) 1 cap) := HO.out.m 4 _ rfl
  clear ho hb
  have hcv : (convert 29 9 (.slice (some ⟨g, 0, none⟩) 1 cap)).run Try.prog (V.alloc (.cells #[.slice none 0 0, .slice none 0 0, .slice (some ⟨g2, 0, none⟩) 1 cap2] 26)) = .ok (.string ⟨#[28]⟩) (V.alloc (.cells #[.slice none 0 0, .slice none 0 0, .slice (some ⟨g2, 0, none⟩) 1 cap2] 26)) :=
    run_convert_bytes_back _ 29 9 5 ⟨g, 0, none⟩ cap [28] Try.underlying29 Try.underlying5 Try.underlying9 (fun j hj => by
      have : j = 0 := by simp at hj; omega
      subst this
      exact (OutP.alloc HO.out _).c)
  go_wp2
  go_ret
  exact ⟨rfl, HE.out.alloc HE.out.size _⟩
end Go.Proofs.Ytpiafgmncfibmaa
