import Derived.Test.YtpiafgmncfibmaaPr
import Derived.Test.YtpiafgmncfibmaaRows
import Derived.Defers
import Derived.Recover
import Derived.WalkKit
import Derived.ProofKit
import Derived.OpenShut
import Derived.Deep.QuietTactic
import Derived.BigQuiet
import Derived.Outline
import Derived.WalkSmall
import Derived.WalkLawsBesides
import Derived.WalkSpells
import Derived.BigGuardPart
import Derived.RegionTactic
import Derived.Deep.RegionHeld3
import Derived.Lib.Hide
import Derived.Deep.MidRow
import Derived.Below
import Derived.Deep.RegionWith
import Derived.Deep.OwnRows
import Derived.Deep.AppendLies
namespace Go.Proofs.Ytpiafgmncfibmaa
open Go.ChangeShapes Go.WideShapes Go.ChangeAt Go.RowKit
set_option linter.unusedVariables false

theorem rec_idle (p : Addr) (w : World) :
    CallsD Try.prog 81 #[.pointer (some p)] .returning w fun e u' w' => e = .returned (.tuple #[]) ∧ u' = .returning ∧ w' = w := by
  refine callsD_of_wpS Try.func81 rfl fun c₀ cs hu => ?_
  apply wpS_seq
  apply wpS_region
  simp [wpOpsS, go_sem, recoverD, hu, Try.ntmps81, Exit.thenS]
  apply wpS_seq
  apply wpS_region
  simp [wpOpsS, go_sem, Exit.thenS]
  refine wpS_cond (t := false) (by simp [Act.eval, Array.replicate]) ?_
  simp only [Bool.false_eq_true, if_false]
  refine wpS_of_wp (wp_skip ?_)
  cases c₀
  simp_all [bodyPostS, results, Try.results81]
structure RS (w V : World) (R g2 g cap : Nat) (X Z : Array Value) : Prop where
  x : rowAt V w.heap.size = some X
  y : rowAt V (w.heap.size + 1) = some Z
  o : OutP w V g2 g cap
  l2 : w.heap.size + 2 ≤ g2
  l1 : w.heap.size + 2 ≤ g
  gr : w.grownBy V (some R)
theorem RS.setx {w V : World} {R g2 g cap : Nat} {X X' Z : Array Value} (h : RS w V R g2 g cap X Z) (j : Nat) (v : Value) (hX : X.setIfInBounds j v = X') : RS w (V.setCell ⟨w.heap.size, j, none⟩ v) R g2 g cap X' Z :=
  have h2 := h.l2
  have h1 := h.l1
  ⟨hX ▸ rowAt_set h.x j v, rowAt_grown h.y (grown_set V _ v) (by show w.heap.size + 1 ≠ w.heap.size; omega), h.o.set _ _ (by show w.heap.size ≠ g2; omega) (by show w.heap.size ≠ g; omega), h2, h1, grown_trans h.gr (grown_set V _ v) (.inr (Nat.le_refl _))⟩
theorem RS.sety {w V : World} {R g2 g cap : Nat} {X Z Z' : Array Value} (h : RS w V R g2 g cap X Z) (j : Nat) (v : Value) (hZ : Z.setIfInBounds j v = Z') : RS w (V.setCell ⟨w.heap.size + 1, j, none⟩ v) R g2 g cap X Z' :=
  have h2 := h.l2
  have h1 := h.l1
  ⟨rowAt_grown h.x (grown_set V _ v) (by show w.heap.size ≠ w.heap.size + 1; omega), hZ ▸ rowAt_set h.y j v, h.o.set _ _ (by show w.heap.size + 1 ≠ g2; omega) (by show w.heap.size + 1 ≠ g; omega), h2, h1, grown_trans h.gr (grown_set V _ v) (.inr (Nat.le_succ _))⟩
def ReadR (R B : Nat) (w : World) (e : Ending) (w' : World) : Prop := ∃ g2 cap2 g cap, e = .returned (.tuple #[.agg #[.slice none 0 0, .slice none 0 0, .slice (some ⟨g2, 0, none⟩) 1 cap2], .agg #[.int .i64 0, .int .i64 0]]) ∧ OutP w w' g2 g cap ∧ w.grownBy w' (some R)
set_option maxRecDepth 100000 in
theorem read_c (R B : Nat) (w : World) (HP0 : Hid (PS w R B 0)) : Calls Try.prog 45 #[.pointer (some ⟨R, 0, none⟩)] w (ReadR R B w) := by
  have hmf : ∀ (fn : Fn) (first cap : Array Value) (w : World), (Instr.makeFunc fn first cap).run Try.prog w = .ok (.func fn first cap) w := fun _ _ _ _ => rfl
  have hR := rowAt_lt HP0.out.1
  have hB := rowAt_lt HP0.out.2.1
  go_enter_defers Try.func45, Try.ntmps45
  go_wp2_with fail
  refine (program_c R B _ (Lib.hid ((HP0.out.alloc _).alloc _))).mono ?_
  rintro e V ⟨g2, cap2, g, cap, rfl, ho, hg⟩
  have HF : Hid (RS w V R g2 g cap z3 #[.int .i64 0, .int .i64 0]) := Lib.hid ⟨rowAt_grown (rowAt_past (rowAt_new w z3 26) _) hg (by omega), rowAt_grown (by have := rowAt_new (w.alloc (.cells z3 26)) #[.int .i64 0, .int .i64 0] 90; rw [show (w.alloc (.cells z3 26)).heap.size = w.heap.size + 1 by simp] at this; exact this) hg (by omega), ⟨ho.m, ho.c, ⟨by have := ho.g2.1; simp at this; omega, ho.g2.2⟩, ⟨by have := ho.g.1; simp at this; omega, ho.g.2⟩⟩, (by have := ho.g2.1; simp at this; omega), (by have := ho.g.1; simp at this; omega), grown_trans (grown_trans (grown_alloc w _ _) (grown_alloc _ _ (some R)) (.inl rfl)) hg (.inl rfl)⟩
  clear ho hg HP0
  have x0 : V.cell? ⟨w.heap.size, 0, none⟩ = some (.slice none 0 0) := rowAt_cell HF.out.x 0
  have z0 : V.frozen? ⟨w.heap.size, 0, none⟩ = false := rowAt_frz HF.out.x 0
  have x1 : V.cell? ⟨w.heap.size, 1, none⟩ = some (.slice none 0 0) := rowAt_cell HF.out.x 1
  have z1 : V.frozen? ⟨w.heap.size, 1, none⟩ = false := rowAt_frz HF.out.x 1
  have x2 : V.cell? ⟨w.heap.size, 2, none⟩ = some (.slice none 0 0) := rowAt_cell HF.out.x 2
  have z2 : V.frozen? ⟨w.heap.size, 2, none⟩ = false := rowAt_frz HF.out.x 2
  have y0 : V.cell? ⟨w.heap.size + 1, 0, none⟩ = some (.int .i64 0) := rowAt_cell HF.out.y 0
  have v0 : V.frozen? ⟨w.heap.size + 1, 0, none⟩ = false := rowAt_frz HF.out.y 0
  have y1 : V.cell? ⟨w.heap.size + 1, 1, none⟩ = some (.int .i64 0) := rowAt_cell HF.out.y 1
  have v1 : V.frozen? ⟨w.heap.size + 1, 1, none⟩ = false := rowAt_frz HF.out.y 1
  go_wp2
  clear x0 x1 x2 z0 z1 z2 y0 y1 v0 v1
  replace HF : Hid (RS w (V.setCell ⟨w.heap.size, 0, none⟩ (.slice none 0 0)) R g2 g cap #[.slice none 0 0, .slice none 0 0, .slice none 0 0] #[.int .i64 0, .int .i64 0]) := Lib.hid (HF.out.setx 0 _ rfl)
  generalize V.setCell ⟨w.heap.size, 0, none⟩ (.slice none 0 0) = e0 at HF ⊢
  replace HF : Hid (RS w (e0.setCell ⟨w.heap.size, 1, none⟩ (.slice none 0 0)) R g2 g cap #[.slice none 0 0, .slice none 0 0, .slice none 0 0] #[.int .i64 0, .int .i64 0]) := Lib.hid (HF.out.setx 1 _ rfl)
  generalize e0.setCell ⟨w.heap.size, 1, none⟩ (.slice none 0 0) = e1 at HF ⊢
  replace HF : Hid (RS w (e1.setCell ⟨w.heap.size, 2, none⟩ (.slice (some ⟨g2, 0, none⟩) 1 cap2)) R g2 g cap #[.slice none 0 0, .slice none 0 0, .slice (some ⟨g2, 0, none⟩) 1 cap2] #[.int .i64 0, .int .i64 0]) := Lib.hid (HF.out.setx 2 _ rfl)
  generalize e1.setCell ⟨w.heap.size, 2, none⟩ (.slice (some ⟨g2, 0, none⟩) 1 cap2) = e2 at HF ⊢
  replace HF : Hid (RS w (e2.setCell ⟨w.heap.size + 1, 0, none⟩ (.int .i64 0)) R g2 g cap #[.slice none 0 0, .slice none 0 0, .slice (some ⟨g2, 0, none⟩) 1 cap2] #[.int .i64 0, .int .i64 0]) := Lib.hid (HF.out.sety 0 _ rfl)
  generalize e2.setCell ⟨w.heap.size + 1, 0, none⟩ (.int .i64 0) = f0 at HF ⊢
  replace HF : Hid (RS w (f0.setCell ⟨w.heap.size + 1, 1, none⟩ (.int .i64 0)) R g2 g cap #[.slice none 0 0, .slice none 0 0, .slice (some ⟨g2, 0, none⟩) 1 cap2] #[.int .i64 0, .int .i64 0]) := Lib.hid (HF.out.sety 1 _ rfl)
  generalize f0.setCell ⟨w.heap.size + 1, 1, none⟩ (.int .i64 0) = f1 at HF ⊢
  have x0 : f1.cell? ⟨w.heap.size, 0, none⟩ = some (.slice none 0 0) := rowAt_cell HF.out.x 0
  have x1 : f1.cell? ⟨w.heap.size, 1, none⟩ = some (.slice none 0 0) := rowAt_cell HF.out.x 1
  have x2 : f1.cell? ⟨w.heap.size, 2, none⟩ = some (.slice (some ⟨g2, 0, none⟩) 1 cap2) := rowAt_cell HF.out.x 2
  have y0 : f1.cell? ⟨w.heap.size + 1, 0, none⟩ = some (.int .i64 0) := rowAt_cell HF.out.y 0
  have y1 : f1.cell? ⟨w.heap.size + 1, 1, none⟩ = some (.int .i64 0) := rowAt_cell HF.out.y 1
  have HE : Hid (ReadR R B w (.returned (.tuple #[.agg #[.slice none 0 0, .slice none 0 0, .slice (some ⟨g2, 0, none⟩) 1 cap2], .agg #[.int .i64 0, .int .i64 0]])) f1) := Lib.hid ⟨g2, cap2, g, cap, rfl, HF.out.o, HF.out.gr⟩
  refine leaves_cons (f := 81) (args := #[.pointer (some ⟨w.heap.size + 1, 0, none⟩)]) (by simp) (by simp [go_sem]) ?_
  refine (rec_idle ⟨w.heap.size + 1, 0, none⟩ _).mono ?_
  rintro e u' w'' ⟨rfl, rfl, rfl⟩
  simp [Leaves, settle, results, Try.results45, go_sem, x0, x1, x2, y0, y1]
  exact HE.out
end Go.Proofs.Ytpiafgmncfibmaa
