import Derived.Test.YtnbpgoacooddjaaMd
namespace Go.Proofs.Ytnbpgoacooddjaa.Mm
open Go.ChangeShapes Go.WideShapes Go.ChangeAt Go.RowKit
set_option linter.unusedVariables false
section
variable {w : World} {FP : Nat → Prop} {p : Nat} {M : Me} {v : Value} {B C : Nat → Nat}
set_option maxRecDepth 100000 in
set_option maxHeartbeats 4000000 in
theorem write_m (h : MeC 184 187 w FP p M v B C) {x k o u : Nat} (hs : Hs M x 0 k o) (h8 : ¬ x % 8 = 0 ∨ M.W k = false) :
    Calls Try.prog 51 #[.pointer (some ⟨p, 0, none⟩), .int .u64 x, .int .u64 u] w fun e w' => e = .returned (.int .i64 8) ∧ ∃ q, w' = w.drewN q := by
  obtain ⟨ab, cap, hv⟩ := Hs.form h hs
  have HFI := Lib.hid (find_hit h hs hv)
  have hcm := h.cv
  obtain ⟨f1, f2, f3, f4, f5⟩ := h.area hv k hs.1
  subst hv
  by_cases hd8 : x % 8 = 0
  · have hW : M.W k = false := by
      rcases h8 with h8 | h8
      · exact absurd hd8 h8
      · exact h8
    rw [hW] at f3
    have hd : (x : Int) % 8 = 0 := by omega
    clear h hs h8 hW f1 f2 f4 f5 hd8
    go_enter Try.func51, Try.ntmps51
    go_wp2_with (go_at_call 132; refine HFI.out.mono ?_; rintro e w' ⟨rfl, q, rfl⟩)
    go_ret
    exact ⟨rfl, _, rfl⟩
  · have hd : ¬ (x : Int) % 8 = 0 := by omega
    clear h hs h8 f1 f2 f3 f4 f5 hd8
    go_enter Try.func51, Try.ntmps51
    go_wp2_with (go_at_call 132; refine HFI.out.mono ?_; rintro e w' ⟨rfl, q, rfl⟩)
    go_ret
    exact ⟨rfl, _, rfl⟩
set_option maxRecDepth 100000 in
set_option maxHeartbeats 4000000 in
theorem write_n (h : MeC 184 187 w FP p M v B C) {x u : Nat} (hx : x < 18446744073709551616) (hno : ∀ k o, ¬ Hs M x 0 k o) :
    Calls Try.prog 51 #[.pointer (some ⟨p, 0, none⟩), .int .u64 x, .int .u64 u] w fun e w' => e = .returned (.int .i64 8) ∧ ∃ q, w' = w.drewN q := by
  have HFI := Lib.hid (find_miss h hx hno)
  have hcm := h.cv
  obtain ⟨a, cap, rfl, _⟩ := own_form h.ars
  clear h
  go_enter Try.func51, Try.ntmps51
  go_wp2_with (go_at_call 132; refine HFI.out.mono ?_; rintro e w' ⟨rfl, q, rfl⟩)
  go_ret
  exact ⟨rfl, _, rfl⟩
theorem set4a (w : World) (B : Nat) (y0 y1 y2 y3 x0 x1 x2 x3 : Value) (q0 : w.cell? ⟨B, 0, none⟩ = some y0) (q1 : w.cell? ⟨B, 1, none⟩ = some y1) (q2 : w.cell? ⟨B, 2, none⟩ = some y2) (q3 : w.cell? ⟨B, 3, none⟩ = some y3) :
    ((((w.setCell ⟨B, 0, none⟩ x0).setCell ⟨B, 1, none⟩ x1).setCell ⟨B, 2, none⟩ x2).setCell ⟨B, 3, none⟩ x3).cell? ⟨B, 0, none⟩ = some x0 ∧
    ((((w.setCell ⟨B, 0, none⟩ x0).setCell ⟨B, 1, none⟩ x1).setCell ⟨B, 2, none⟩ x2).setCell ⟨B, 3, none⟩ x3).cell? ⟨B, 1, none⟩ = some x1 ∧
    ((((w.setCell ⟨B, 0, none⟩ x0).setCell ⟨B, 1, none⟩ x1).setCell ⟨B, 2, none⟩ x2).setCell ⟨B, 3, none⟩ x3).cell? ⟨B, 2, none⟩ = some x2 ∧
    ((((w.setCell ⟨B, 0, none⟩ x0).setCell ⟨B, 1, none⟩ x1).setCell ⟨B, 2, none⟩ x2).setCell ⟨B, 3, none⟩ x3).cell? ⟨B, 3, none⟩ = some x3 := by
  have ne : ∀ i j : Nat, i ≠ j → (⟨B, i, none⟩ : Addr) ≠ ⟨B, j, none⟩ := fun i j h g => h (by injection g)
  have a1 : (w.setCell ⟨B, 0, none⟩ x0).cell? ⟨B, 1, none⟩ = some y1 := (World.cell?_setCell_other _ _ _ _ (ne _ _ (by decide))).trans q1
  have a2 : ((w.setCell ⟨B, 0, none⟩ x0).setCell ⟨B, 1, none⟩ x1).cell? ⟨B, 2, none⟩ = some y2 := (World.cell?_setCell_other _ _ _ _ (ne _ _ (by decide))).trans ((World.cell?_setCell_other _ _ _ _ (ne _ _ (by decide))).trans q2)
  have a3 : (((w.setCell ⟨B, 0, none⟩ x0).setCell ⟨B, 1, none⟩ x1).setCell ⟨B, 2, none⟩ x2).cell? ⟨B, 3, none⟩ = some y3 := (World.cell?_setCell_other _ _ _ _ (ne _ _ (by decide))).trans ((World.cell?_setCell_other _ _ _ _ (ne _ _ (by decide))).trans ((World.cell?_setCell_other _ _ _ _ (ne _ _ (by decide))).trans q3))
  refine ⟨?_, ?_, ?_, ?_⟩
  · exact (World.cell?_setCell_other _ _ _ _ (ne _ _ (by decide))).trans ((World.cell?_setCell_other _ _ _ _ (ne _ _ (by decide))).trans ((World.cell?_setCell_other _ _ _ _ (ne _ _ (by decide))).trans (World.cell?_setCell_same _ _ _ q0)))
  · exact (World.cell?_setCell_other _ _ _ _ (ne _ _ (by decide))).trans ((World.cell?_setCell_other _ _ _ _ (ne _ _ (by decide))).trans (World.cell?_setCell_same _ _ _ a1))
  · exact (World.cell?_setCell_other _ _ _ _ (ne _ _ (by decide))).trans (World.cell?_setCell_same _ _ _ a2)
  · exact World.cell?_setCell_same _ _ _ a3
/-- A region as a value. -/
def Me.reg (M : Me) (k : Nat) : Value := .agg #[.int .u64 (M.A k : Nat), .int .u64 (M.S k : Nat), .bool (M.W k), .bool (M.X k)]
set_option maxRecDepth 100000 in
set_option maxHeartbeats 4000000 in
theorem at_y (h : MeC 184 187 w FP p M v B C) {x k o : Nat} (hs : Hs M x 0 k o) :
    Calls Try.prog 145 #[.pointer (some ⟨p, 0, none⟩), .int .u64 x] w fun e w' => e = .returned (.tuple #[M.reg k, .bool true]) ∧ Below w.heap.size w w' := by
  obtain ⟨ab, cap, hv⟩ := Hs.form h hs
  have HB : Hid (Below w.heap.size w (w.alloc (.cells #[.int .u64 0, .int .u64 0, .bool false, .bool false] 113))) := Lib.hid ((Below.refl _ _).alloc (Nat.le_refl _) _)
  have h2 := h.past HB.out
  have hab : ab < w.heap.size := h.fl ab (h.fv ab (by subst hv; rfl))
  have hs0 : ab ≠ w.heap.size := by omega
  have hp0 : p ≠ w.heap.size := by have := h.fl p h.fp; omega
  have HFI := Lib.hid (find_hit h2 hs hv)
  have hcm := h2.cv
  obtain ⟨f1, f2, f3, f4, f5⟩ := h2.area hv k hs.1
  have q : ∀ o, (w.alloc (.cells #[.int .u64 0, .int .u64 0, .bool false, .bool false] 113)).cell? ⟨w.heap.size, o, none⟩ = (#[Value.int .u64 0, .int .u64 0, .bool false, .bool false])[o]? := fun o => World.cell?_alloc_at _ _ _ _ rfl
  have q0 := q 0
  have q1 := q 1
  have q2 := q 2
  have q3 := q 3
  have z : ∀ o, (w.alloc (.cells #[.int .u64 0, .int .u64 0, .bool false, .bool false] 113)).frozen? ⟨w.heap.size, o, none⟩ = false := fun o => World.frozen?_alloc_at _ _ _ _ rfl
  have z0 := z 0
  have z1 := z 1
  have z2 := z 2
  have z3 := z 3
  subst hv
  clear q z f5 h h2 hs
  unfold Me.reg
  go_enter Try.func145, Try.ntmps145
  go_wp2_with fail
  generalize w.alloc (.cells #[.int .u64 0, .int .u64 0, .bool false, .bool false] 113) = w1 at *
  refine HFI.out.mono ?_
  rintro e w' ⟨rfl, q, rfl⟩
  go_wp2
  obtain ⟨t0, t1, t2, t3⟩ := set4a (w1.drewN q) w.heap.size _ _ _ _ (.int .u64 (M.A k : Nat)) (.int .u64 (M.S k : Nat)) (.bool (M.W k)) (.bool (M.X k)) q0 q1 q2 q3
  refine bodyPost_ret (v := .tuple #[.agg #[.int .u64 (M.A k : Nat), .int .u64 (M.S k : Nat), .bool (M.W k), .bool (M.X k)], .bool true]) (by simp [results, Try.results145, go_sem, t0, t1, t2, t3]) rfl ⟨rfl, ?_⟩
  exact ((((below_drewN HB.out _).setCell (Nat.le_refl _) _).setCell (Nat.le_refl _) _).setCell (Nat.le_refl _) _).setCell (Nat.le_refl _) _
set_option maxRecDepth 100000 in
set_option maxHeartbeats 4000000 in
theorem at_n (h : MeC 184 187 w FP p M v B C) {x : Nat} (hx : x < 18446744073709551616) (hno : ∀ k o, ¬ Hs M x 0 k o) :
    Calls Try.prog 145 #[.pointer (some ⟨p, 0, none⟩), .int .u64 x] w fun e w' => e = .returned (.tuple #[.agg #[.int .u64 0, .int .u64 0, .bool false, .bool false], .bool false]) ∧ Below w.heap.size w w' := by
  have HB : Hid (Below w.heap.size w (w.alloc (.cells #[.int .u64 0, .int .u64 0, .bool false, .bool false] 113))) := Lib.hid ((Below.refl _ _).alloc (Nat.le_refl _) _)
  have h2 := h.past HB.out
  have hp0 : p ≠ w.heap.size := by have := h.fl p h.fp; omega
  have HFI := Lib.hid (find_miss h2 hx hno)
  have hcm := h2.cv
  have q : ∀ o, (w.alloc (.cells #[.int .u64 0, .int .u64 0, .bool false, .bool false] 113)).cell? ⟨w.heap.size, o, none⟩ = (#[Value.int .u64 0, .int .u64 0, .bool false, .bool false])[o]? := fun o => World.cell?_alloc_at _ _ _ _ rfl
  have q0 := q 0
  have q1 := q 1
  have q2 := q 2
  have q3 := q 3
  have z : ∀ o, (w.alloc (.cells #[.int .u64 0, .int .u64 0, .bool false, .bool false] 113)).frozen? ⟨w.heap.size, o, none⟩ = false := fun o => World.frozen?_alloc_at _ _ _ _ rfl
  have z0 := z 0
  have z1 := z 1
  have z2 := z 2
  have z3 := z 3
  obtain ⟨a, cap, rfl, _⟩ := own_form h.ars
  clear q z h h2
  go_enter Try.func145, Try.ntmps145
  go_wp2_with fail
  generalize w.alloc (.cells #[.int .u64 0, .int .u64 0, .bool false, .bool false] 113) = w1 at *
  refine HFI.out.mono ?_
  rintro e w' ⟨rfl, q, rfl⟩
  go_wp2
  obtain ⟨t0, t1, t2, t3⟩ := set4a (w1.drewN q) w.heap.size _ _ _ _ (.int .u64 0) (.int .u64 0) (.bool false) (.bool false) q0 q1 q2 q3
  refine bodyPost_ret (v := .tuple #[.agg #[.int .u64 0, .int .u64 0, .bool false, .bool false], .bool false]) (by simp [results, Try.results145, go_sem, t0, t1, t2, t3]) rfl ⟨rfl, ?_⟩
  exact ((((below_drewN HB.out _).setCell (Nat.le_refl _) _).setCell (Nat.le_refl _) _).setCell (Nat.le_refl _) _).setCell (Nat.le_refl _) _
end
end Go.Proofs.Ytnbpgoacooddjaa.Mm
