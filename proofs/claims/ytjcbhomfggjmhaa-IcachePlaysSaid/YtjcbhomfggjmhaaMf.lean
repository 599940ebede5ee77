import Derived.Test.YtjcbhomfggjmhaaMd
namespace Go.Proofs.Ytjcbhomfggjmhaa.Mm
open Go.ChangeShapes Go.WideShapes Go.ChangeAt Go.RowKit
set_option linter.unusedVariables false
section
variable {w : World} {FP : Nat → Prop} {p : Nat} {M : Me} {v : Value} {B C : Nat → Nat}
set_option maxRecDepth 100000 in
set_option maxHeartbeats 4000000 in
theorem write_m (h : MeC 64 67 w FP p M v B C) {x k o u : Nat} (hs : Hs M x 0 k o) (h8 : ¬ x % 8 = 0 ∨ M.W k = false) :
    Calls Try.prog 15 #[.pointer (some ⟨p, 0, none⟩), .int .u64 x, .int .u64 u] w fun e w' => e = .returned (.int .i64 8) ∧ ∃ q, w' = w.drewN q := by
  obtain ⟨ab, cap, hv⟩ := Hs.form h hs
  have HFI := Lib.hid (find_hit h hs hv)
  have hcm := h.cv
  obtain ⟨f1, f2, f3, f4, f5⟩ := h.area hv k hs.1
  subst hv
  by_cases hd8 : x % 8 = 0
  · have hW : M.W k = false := by
      rcases h8 with h8 | h8
      · exact absurd hd8 h8
      · exact h8
    rw [hW] at f3
    have hd : (x : Int) % 8 = 0 := by omega
    clear h hs h8 hW f1 f2 f4 f5 hd8
    go_enter Try.func15, Try.ntmps15
    go_wp2_with (go_at_call 53; refine HFI.out.mono ?_; rintro e w' ⟨rfl, q, rfl⟩)
    go_ret
    exact ⟨rfl, _, rfl⟩
  · have hd : ¬ (x : Int) % 8 = 0 := by omega
    clear h hs h8 f1 f2 f3 f4 f5 hd8
    go_enter Try.func15, Try.ntmps15
    go_wp2_with (go_at_call 53; refine HFI.out.mono ?_; rintro e w' ⟨rfl, q, rfl⟩)
    go_ret
    exact ⟨rfl, _, rfl⟩
set_option maxRecDepth 100000 in
set_option maxHeartbeats 4000000 in
theorem write_n (h : MeC 64 67 w FP p M v B C) {x u : Nat} (hx : x < 18446744073709551616) (hno : ∀ k o, ¬ Hs M x 0 k o) :
    Calls Try.prog 15 #[.pointer (some ⟨p, 0, none⟩), .int .u64 x, .int .u64 u] w fun e w' => e = .returned (.int .i64 8) ∧ ∃ q, w' = w.drewN q := by
  have HFI := Lib.hid (find_miss h hx hno)
  have hcm := h.cv
  obtain ⟨a, cap, rfl, _⟩ := own_form h.ars
  clear h
  go_enter Try.func15, Try.ntmps15
  go_wp2_with (go_at_call 53; refine HFI.out.mono ?_; rintro e w' ⟨rfl, q, rfl⟩)
  go_ret
  exact ⟨rfl, _, rfl⟩
theorem set4a (w : World) (B : Nat) (y0 y1 y2 y3 x0 x1 x2 x3 : Value) (q0 : w.cell? ⟨B, 0, none⟩ = some y0) (q1 : w.cell? ⟨B, 1, none⟩ = some y1) (q2 : w.cell? ⟨B, 2, none⟩ = some y2) (q3 : w.cell? ⟨B, 3, none⟩ = some y3) :
    ((((w.setCell ⟨B, 0, none⟩ x0).setCell ⟨B, 1, none⟩ x1).setCell ⟨B, 2, none⟩ x2).setCell ⟨B, 3, none⟩ x3).cell? ⟨B, 0, none⟩ = some x0 ∧
    ((((w.setCell ⟨B, 0, none⟩ x0).setCell ⟨B, 1, none⟩ x1).setCell ⟨B, 2, none⟩ x2).setCell ⟨B, 3, none⟩ x3).cell? ⟨B, 1, none⟩ = some x1 ∧
    ((((w.setCell ⟨B, 0, none⟩ x0).setCell ⟨B, 1, none⟩ x1).setCell ⟨B, 2, none⟩ x2).setCell ⟨B, 3, none⟩ x3).cell? ⟨B, 2, none⟩ = some x2 ∧
    ((((w.setCell ⟨B, 0, none⟩ x0).setCell ⟨B, 1, none⟩ x1).setCell ⟨B, 2, none⟩ x2).setCell ⟨B, 3, none⟩ x3).cell? ⟨B, 3, none⟩ = some x3 := by
  have ne : ∀ i j : Nat, i ≠ j → (⟨B, i, none⟩ : Addr) ≠ ⟨B, j, none⟩ := fun i j h g => h (by injection g)
  have a1 : (w.setCell ⟨B, 0, none⟩ x0).cell? ⟨B, 1, none⟩ = some y1 := (World.cell?_setCell_other _ _ _ _ (ne _ _ (by decide))).trans q1
  have a2 : ((w.setCell ⟨B, 0, none⟩ x0).setCell ⟨B, 1, none⟩ x1).cell? ⟨B, 2, none⟩ = some y2 := (World.cell?_setCell_other _ _ _ _ (ne _ _ (by decide))).trans ((World.cell?_setCell_other _ _ _ _ (ne _ _ (by decide))).trans q2)
  have a3 : (((w.setCell ⟨B, 0, none⟩ x0).setCell ⟨B, 1, none⟩ x1).setCell ⟨B, 2, none⟩ x2).cell? ⟨B, 3, none⟩ = some y3 := (World.cell?_setCell_other _ _ _ _ (ne _ _ (by decide))).trans ((World.cell?_setCell_other _ _ _ _ (ne _ _ (by decide))).trans ((World.cell?_setCell_other _ _ _ _ (ne _ _ (by decide))).trans q3))
  refine ⟨?_, ?_, ?_, ?_⟩
  · exact (World.cell?_setCell_other _ _ _ _ (ne _ _ (by decide))).trans ((World.cell?_setCell_other _ _ _ _ (ne _ _ (by decide))).trans ((World.cell?_setCell_other _ _ _ _ (ne _ _ (by decide))).trans (World.cell?_setCell_same _ _ _ q0)))
  · exact (World.cell?_setCell_other _ _ _ _ (ne _ _ (by decide))).trans ((World.cell?_setCell_other _ _ _ _ (ne _ _ (by decide))).trans (World.cell?_setCell_same _ _ _ a1))
  · exact (World.cell?_setCell_other _ _ _ _ (ne _ _ (by decide))).trans (World.cell?_setCell_same _ _ _ a2)
  · exact World.cell?_setCell_same _ _ _ a3
/-- A region as a value. -/
def Me.reg (M : Me) (k : Nat) : Value := .agg #[.int .u64 (M.A k : Nat), .int .u64 (M.S k : Nat), .bool (M.W k), .bool (M.X k)]
end
end Go.Proofs.Ytjcbhomfggjmhaa.Mm
