import Derived.Test.YtnmgafaebggeiaaRk
import Derived.Test.YtnmgafaebggeiaaOa
import Derived.WalkKit
import Derived.ProofKit
import Derived.OpenShut
import Derived.Deep.QuietTactic
import Derived.BigQuiet
import Derived.Outline
import Derived.WalkSmall
import Derived.WalkLawsBesides
import Derived.WalkSpells
import Derived.BigGuardPart
import Derived.RegionTactic
import Derived.Deep.RegionHeld3
import Derived.Lib.Hide
import Derived.Deep.MidRow
import Derived.Below
import Derived.Deep.RegionWith
import Derived.Deep.OwnRows
import Derived.Deep.AppendLies
namespace Go.Proofs.Ytnmgafaebggeiaa
open Go.ChangeShapes Go.WideShapes Go.ChangeAt Go.RowKit
set_option linter.unusedVariables false
theorem mx_p {a b : Int} {p : Bool} (h : decide (a < b) = p) : max a b = if p then b else a := by
  cases p
  · have := of_decide_eq_false h; simp; omega
  · have := of_decide_eq_true h; simp; omega
set_option maxRecDepth 100000 in
set_option maxHeartbeats 8000000 in
theorem rjoin_c (a0 a1 a2 a3 b0 b1 b2 b3 : Int) (w : World) :
    Calls Try.prog 9 #[.agg #[.int .i64 a0, .int .i64 a1, .int .i64 a2, .int .i64 a3], .agg #[.int .i64 b0, .int .i64 b1, .int .i64 b2, .int .i64 b3]] w fun e w' => e = .returned (ck (max a0 b0) (max a1 b1) (max a2 b2) (max a3 b3)) ∧ Below w.heap.size w w' := by
  obtain ⟨p0, hp0⟩ : ∃ p, decide (a0 < b0) = p := ⟨_, rfl⟩
  obtain ⟨p1, hp1⟩ : ∃ p, decide (a1 < b1) = p := ⟨_, rfl⟩
  obtain ⟨p2, hp2⟩ : ∃ p, decide (a2 < b2) = p := ⟨_, rfl⟩
  obtain ⟨p3, hp3⟩ : ∃ p, decide (a3 < b3) = p := ⟨_, rfl⟩
  rw [mx_p hp0, mx_p hp1, mx_p hp2, mx_p hp3]
  have HA0 : Hid (rowAt (((w.alloc (.cells #[.int .i64 a0, .int .i64 a1, .int .i64 a2, .int .i64 a3] 25)).alloc (.cells #[.int .i64 b0, .int .i64 b1, .int .i64 b2, .int .i64 b3] 25)).alloc (.cells #[.int .i64 0, .int .i64 0, .int .i64 0, .int .i64 0] 25)) w.heap.size = some #[.int .i64 a0, .int .i64 a1, .int .i64 a2, .int .i64 a3]) := Lib.hid (rowAt_past (rowAt_past (rowAt_new w #[.int .i64 a0, .int .i64 a1, .int .i64 a2, .int .i64 a3] 25) _) _)
  have HB0 : Hid (rowAt (((w.alloc (.cells #[.int .i64 a0, .int .i64 a1, .int .i64 a2, .int .i64 a3] 25)).alloc (.cells #[.int .i64 b0, .int .i64 b1, .int .i64 b2, .int .i64 b3] 25)).alloc (.cells #[.int .i64 0, .int .i64 0, .int .i64 0, .int .i64 0] 25)) (w.heap.size + 1) = some #[.int .i64 b0, .int .i64 b1, .int .i64 b2, .int .i64 b3]) := Lib.hid (by have := rowAt_past (rowAt_new (w.alloc (.cells #[.int .i64 a0, .int .i64 a1, .int .i64 a2, .int .i64 a3] 25)) #[.int .i64 b0, .int .i64 b1, .int .i64 b2, .int .i64 b3] 25) (.cells #[.int .i64 0, .int .i64 0, .int .i64 0, .int .i64 0] 25); simpa using this)
  have HZ0 : Hid (rowAt (((w.alloc (.cells #[.int .i64 a0, .int .i64 a1, .int .i64 a2, .int .i64 a3] 25)).alloc (.cells #[.int .i64 b0, .int .i64 b1, .int .i64 b2, .int .i64 b3] 25)).alloc (.cells #[.int .i64 0, .int .i64 0, .int .i64 0, .int .i64 0] 25)) (w.heap.size + 1 + 1) = some #[.int .i64 0, .int .i64 0, .int .i64 0, .int .i64 0]) := Lib.hid (by have := rowAt_new ((w.alloc (.cells #[.int .i64 a0, .int .i64 a1, .int .i64 a2, .int .i64 a3] 25)).alloc (.cells #[.int .i64 b0, .int .i64 b1, .int .i64 b2, .int .i64 b3] 25)) #[.int .i64 0, .int .i64 0, .int .i64 0, .int .i64 0] 25; simpa using this)
  have HL0 : Hid (Below w.heap.size w (((w.alloc (.cells #[.int .i64 a0, .int .i64 a1, .int .i64 a2, .int .i64 a3] 25)).alloc (.cells #[.int .i64 b0, .int .i64 b1, .int .i64 b2, .int .i64 b3] 25)).alloc (.cells #[.int .i64 0, .int .i64 0, .int .i64 0, .int .i64 0] 25))) := Lib.hid ((((Below.refl _ _).alloc (Nat.le_refl _) _).alloc (by simp) _).alloc (by simp; omega) _)
  go_enter Try.func9, Try.ntmps9
  go_wp2
  generalize (((w.alloc (.cells #[.int .i64 a0, .int .i64 a1, .int .i64 a2, .int .i64 a3] 25)).alloc (.cells #[.int .i64 b0, .int .i64 b1, .int .i64 b2, .int .i64 b3] 25)).alloc (.cells #[.int .i64 0, .int .i64 0, .int .i64 0, .int .i64 0] 25)) = W at HA0 HB0 HZ0 HL0 ⊢
  obtain ⟨b, hb⟩ : ∃ b, b = w.heap.size := ⟨_, rfl⟩
  rw [← hb] at HA0 HB0 HZ0 ⊢
  have HN := Lib.hid hb
  clear hb
  refine wp_loop_rounds 5 ?_
  rw [rounds_succ]
  have x0 : W.cell? ⟨b, 0, none⟩ = some (.int .i64 a0) := rowAt_cell HA0.out 0
  have y0 : W.cell? ⟨b + 1, 0, none⟩ = some (.int .i64 b0) := rowAt_cell HB0.out 0
  have x1 : W.cell? ⟨b, 1, none⟩ = some (.int .i64 a1) := rowAt_cell HA0.out 1
  have y1 : W.cell? ⟨b + 1, 1, none⟩ = some (.int .i64 b1) := rowAt_cell HB0.out 1
  have x2 : W.cell? ⟨b, 2, none⟩ = some (.int .i64 a2) := rowAt_cell HA0.out 2
  have y2 : W.cell? ⟨b + 1, 2, none⟩ = some (.int .i64 b2) := rowAt_cell HB0.out 2
  have x3 : W.cell? ⟨b, 3, none⟩ = some (.int .i64 a3) := rowAt_cell HA0.out 3
  have y3 : W.cell? ⟨b + 1, 3, none⟩ = some (.int .i64 b3) := rowAt_cell HB0.out 3
  have fz : W.frozen? ⟨b, 0, none⟩ = false := rowAt_frz HA0.out 0
  go_wp2
  go_quiet (fail)
  cases p0
  · go_wp2
    have HA1 : Hid (rowAt (W.drewN nq) b = some #[.int .i64 a0, .int .i64 a1, .int .i64 a2, .int .i64 a3]) := HA0
    have HB1 : Hid (rowAt (W.drewN nq) (b + 1) = some #[.int .i64 b0, .int .i64 b1, .int .i64 b2, .int .i64 b3]) := HB0
    have HZ1 : Hid (rowAt (W.drewN nq) (b + 1 + 1) = some #[.int .i64 0, .int .i64 0, .int .i64 0, .int .i64 0]) := HZ0
    have HL1 : Hid (Below w.heap.size w (W.drewN nq)) := Lib.hid (below_drewN HL0.out nq)
    generalize (W.drewN nq) = V at HA1 HB1 HZ1 HL1 ⊢
    clear HA0 HB0 HZ0 HL0 x0 x1 x2 x3 y0 y1 y2 y3 fz
    have HA0 := HA1
    have HB0 := HB1
    have HZ0 := HZ1
    have HL0 := HL1
    clear HA1 HB1 HZ1 HL1
    obtain ⟨W, hW⟩ : ∃ W, W = V := ⟨_, rfl⟩
    rw [← hW] at HA0 HB0 HZ0 HL0 ⊢
    clear hW
    rw [rounds_succ]
    have x0 : W.cell? ⟨b, 0, none⟩ = some (.int .i64 a0) := rowAt_cell HA0.out 0
    have y0 : W.cell? ⟨b + 1, 0, none⟩ = some (.int .i64 b0) := rowAt_cell HB0.out 0
    have x1 : W.cell? ⟨b, 1, none⟩ = some (.int .i64 a1) := rowAt_cell HA0.out 1
    have y1 : W.cell? ⟨b + 1, 1, none⟩ = some (.int .i64 b1) := rowAt_cell HB0.out 1
    have x2 : W.cell? ⟨b, 2, none⟩ = some (.int .i64 a2) := rowAt_cell HA0.out 2
    have y2 : W.cell? ⟨b + 1, 2, none⟩ = some (.int .i64 b2) := rowAt_cell HB0.out 2
    have x3 : W.cell? ⟨b, 3, none⟩ = some (.int .i64 a3) := rowAt_cell HA0.out 3
    have y3 : W.cell? ⟨b + 1, 3, none⟩ = some (.int .i64 b3) := rowAt_cell HB0.out 3
    have fz : W.frozen? ⟨b, 1, none⟩ = false := rowAt_frz HA0.out 1
    go_wp2
    go_quiet (fail)
    cases p1
    · go_wp2
      have HA1 : Hid (rowAt (W.drewN nq) b = some #[.int .i64 a0, .int .i64 a1, .int .i64 a2, .int .i64 a3]) := HA0
      have HB1 : Hid (rowAt (W.drewN nq) (b + 1) = some #[.int .i64 b0, .int .i64 b1, .int .i64 b2, .int .i64 b3]) := HB0
      have HZ1 : Hid (rowAt (W.drewN nq) (b + 1 + 1) = some #[.int .i64 0, .int .i64 0, .int .i64 0, .int .i64 0]) := HZ0
      have HL1 : Hid (Below w.heap.size w (W.drewN nq)) := Lib.hid (below_drewN HL0.out nq)
      generalize (W.drewN nq) = V at HA1 HB1 HZ1 HL1 ⊢
      clear HA0 HB0 HZ0 HL0 x0 x1 x2 x3 y0 y1 y2 y3 fz
      have HA0 := HA1
      have HB0 := HB1
      have HZ0 := HZ1
      have HL0 := HL1
      clear HA1 HB1 HZ1 HL1
      obtain ⟨W, hW⟩ : ∃ W, W = V := ⟨_, rfl⟩
      rw [← hW] at HA0 HB0 HZ0 HL0 ⊢
      clear hW
      rw [rounds_succ]
      have x0 : W.cell? ⟨b, 0, none⟩ = some (.int .i64 a0) := rowAt_cell HA0.out 0
      have y0 : W.cell? ⟨b + 1, 0, none⟩ = some (.int .i64 b0) := rowAt_cell HB0.out 0
      have x1 : W.cell? ⟨b, 1, none⟩ = some (.int .i64 a1) := rowAt_cell HA0.out 1
      have y1 : W.cell? ⟨b + 1, 1, none⟩ = some (.int .i64 b1) := rowAt_cell HB0.out 1
      have x2 : W.cell? ⟨b, 2, none⟩ = some (.int .i64 a2) := rowAt_cell HA0.out 2
      have y2 : W.cell? ⟨b + 1, 2, none⟩ = some (.int .i64 b2) := rowAt_cell HB0.out 2
      have x3 : W.cell? ⟨b, 3, none⟩ = some (.int .i64 a3) := rowAt_cell HA0.out 3
      have y3 : W.cell? ⟨b + 1, 3, none⟩ = some (.int .i64 b3) := rowAt_cell HB0.out 3
      have fz : W.frozen? ⟨b, 2, none⟩ = false := rowAt_frz HA0.out 2
      go_wp2
      go_quiet (fail)
      cases p2
      · go_wp2
        have HA1 : Hid (rowAt (W.drewN nq) b = some #[.int .i64 a0, .int .i64 a1, .int .i64 a2, .int .i64 a3]) := HA0
        have HB1 : Hid (rowAt (W.drewN nq) (b + 1) = some #[.int .i64 b0, .int .i64 b1, .int .i64 b2, .int .i64 b3]) := HB0
        have HZ1 : Hid (rowAt (W.drewN nq) (b + 1 + 1) = some #[.int .i64 0, .int .i64 0, .int .i64 0, .int .i64 0]) := HZ0
        have HL1 : Hid (Below w.heap.size w (W.drewN nq)) := Lib.hid (below_drewN HL0.out nq)
        generalize (W.drewN nq) = V at HA1 HB1 HZ1 HL1 ⊢
        clear HA0 HB0 HZ0 HL0 x0 x1 x2 x3 y0 y1 y2 y3 fz
        have HA0 := HA1
        have HB0 := HB1
        have HZ0 := HZ1
        have HL0 := HL1
        clear HA1 HB1 HZ1 HL1
        obtain ⟨W, hW⟩ : ∃ W, W = V := ⟨_, rfl⟩
        rw [← hW] at HA0 HB0 HZ0 HL0 ⊢
        clear hW
        rw [rounds_succ]
        have x0 : W.cell? ⟨b, 0, none⟩ = some (.int .i64 a0) := rowAt_cell HA0.out 0
        have y0 : W.cell? ⟨b + 1, 0, none⟩ = some (.int .i64 b0) := rowAt_cell HB0.out 0
        have x1 : W.cell? ⟨b, 1, none⟩ = some (.int .i64 a1) := rowAt_cell HA0.out 1
        have y1 : W.cell? ⟨b + 1, 1, none⟩ = some (.int .i64 b1) := rowAt_cell HB0.out 1
        have x2 : W.cell? ⟨b, 2, none⟩ = some (.int .i64 a2) := rowAt_cell HA0.out 2
        have y2 : W.cell? ⟨b + 1, 2, none⟩ = some (.int .i64 b2) := rowAt_cell HB0.out 2
        have x3 : W.cell? ⟨b, 3, none⟩ = some (.int .i64 a3) := rowAt_cell HA0.out 3
        have y3 : W.cell? ⟨b + 1, 3, none⟩ = some (.int .i64 b3) := rowAt_cell HB0.out 3
        have fz : W.frozen? ⟨b, 3, none⟩ = false := rowAt_frz HA0.out 3
        go_wp2
        go_quiet (fail)
        cases p3
        · go_wp2
          have HA1 : Hid (rowAt (W.drewN nq) b = some #[.int .i64 a0, .int .i64 a1, .int .i64 a2, .int .i64 a3]) := HA0
          have HB1 : Hid (rowAt (W.drewN nq) (b + 1) = some #[.int .i64 b0, .int .i64 b1, .int .i64 b2, .int .i64 b3]) := HB0
          have HZ1 : Hid (rowAt (W.drewN nq) (b + 1 + 1) = some #[.int .i64 0, .int .i64 0, .int .i64 0, .int .i64 0]) := HZ0
          have HL1 : Hid (Below w.heap.size w (W.drewN nq)) := Lib.hid (below_drewN HL0.out nq)
          generalize (W.drewN nq) = V at HA1 HB1 HZ1 HL1 ⊢
          clear HA0 HB0 HZ0 HL0 x0 x1 x2 x3 y0 y1 y2 y3 fz
          have HA0 := HA1
          have HB0 := HB1
          have HZ0 := HZ1
          have HL0 := HL1
          clear HA1 HB1 HZ1 HL1
          obtain ⟨W, hW⟩ : ∃ W, W = V := ⟨_, rfl⟩
          rw [← hW] at HA0 HB0 HZ0 HL0 ⊢
          clear hW
          rw [rounds_succ]
          have x0 : W.cell? ⟨b, 0, none⟩ = some (.int .i64 a0) := rowAt_cell HA0.out 0
          have y0 : W.cell? ⟨b + 1, 0, none⟩ = some (.int .i64 b0) := rowAt_cell HB0.out 0
          have x1 : W.cell? ⟨b, 1, none⟩ = some (.int .i64 a1) := rowAt_cell HA0.out 1
          have y1 : W.cell? ⟨b + 1, 1, none⟩ = some (.int .i64 b1) := rowAt_cell HB0.out 1
          have x2 : W.cell? ⟨b, 2, none⟩ = some (.int .i64 a2) := rowAt_cell HA0.out 2
          have y2 : W.cell? ⟨b + 1, 2, none⟩ = some (.int .i64 b2) := rowAt_cell HB0.out 2
          have x3 : W.cell? ⟨b, 3, none⟩ = some (.int .i64 a3) := rowAt_cell HA0.out 3
          have y3 : W.cell? ⟨b + 1, 3, none⟩ = some (.int .i64 b3) := rowAt_cell HB0.out 3
          have z0 : W.cell? ⟨b + 1 + 1, 0, none⟩ = some (.int .i64 0) := rowAt_cell HZ0.out 0
          have g0 : W.frozen? ⟨b + 1 + 1, 0, none⟩ = false := rowAt_frz HZ0.out 0
          have z1 : W.cell? ⟨b + 1 + 1, 1, none⟩ = some (.int .i64 0) := rowAt_cell HZ0.out 1
          have g1 : W.frozen? ⟨b + 1 + 1, 1, none⟩ = false := rowAt_frz HZ0.out 1
          have z2 : W.cell? ⟨b + 1 + 1, 2, none⟩ = some (.int .i64 0) := rowAt_cell HZ0.out 2
          have g2 : W.frozen? ⟨b + 1 + 1, 2, none⟩ = false := rowAt_frz HZ0.out 2
          have z3 : W.cell? ⟨b + 1 + 1, 3, none⟩ = some (.int .i64 0) := rowAt_cell HZ0.out 3
          have g3 : W.frozen? ⟨b + 1 + 1, 3, none⟩ = false := rowAt_frz HZ0.out 3
          go_wp2
          exact bodyPost_ret (v := ck a0 a1 a2 a3) (by simp [results, Try.results9, go_sem, ck, z0, z1, z2, z3]) rfl ⟨rfl, ((((HL0.out.setCell (p := ⟨b + 1 + 1, 0, none⟩) (by rw [← HN.out]; show b ≤ b + 1 + 1; omega) _).setCell (p := ⟨b + 1 + 1, 1, none⟩) (by rw [← HN.out]; show b ≤ b + 1 + 1; omega) _).setCell (p := ⟨b + 1 + 1, 2, none⟩) (by rw [← HN.out]; show b ≤ b + 1 + 1; omega) _).setCell (p := ⟨b + 1 + 1, 3, none⟩) (by rw [← HN.out]; show b ≤ b + 1 + 1; omega) _)⟩
        · go_wp2
          have HA1 : Hid (rowAt ((W.drewN nq).setCell ⟨b, 3, none⟩ (.int .i64 b3)) b = some #[.int .i64 a0, .int .i64 a1, .int .i64 a2, .int .i64 b3]) := Lib.hid (rowAt_set (w := W.drewN nq) HA0.out 3 (.int .i64 b3))
          have HB1 : Hid (rowAt ((W.drewN nq).setCell ⟨b, 3, none⟩ (.int .i64 b3)) (b + 1) = some #[.int .i64 b0, .int .i64 b1, .int .i64 b2, .int .i64 b3]) := Lib.hid (rowAt_set_far (w := W.drewN nq) HB0.out (by omega) _ _)
          have HZ1 : Hid (rowAt ((W.drewN nq).setCell ⟨b, 3, none⟩ (.int .i64 b3)) (b + 1 + 1) = some #[.int .i64 0, .int .i64 0, .int .i64 0, .int .i64 0]) := Lib.hid (rowAt_set_far (w := W.drewN nq) HZ0.out (by omega) _ _)
          have HL1 : Hid (Below w.heap.size w ((W.drewN nq).setCell ⟨b, 3, none⟩ (.int .i64 b3))) := Lib.hid ((below_drewN HL0.out nq).setCell (p := ⟨b, 3, none⟩) (by rw [← HN.out]; exact Nat.le_refl _) _)
          generalize ((W.drewN nq).setCell ⟨b, 3, none⟩ (.int .i64 b3)) = V at HA1 HB1 HZ1 HL1 ⊢
          clear HA0 HB0 HZ0 HL0 x0 x1 x2 x3 y0 y1 y2 y3 fz
          have HA0 := HA1
          have HB0 := HB1
          have HZ0 := HZ1
          have HL0 := HL1
          clear HA1 HB1 HZ1 HL1
          obtain ⟨W, hW⟩ : ∃ W, W = V := ⟨_, rfl⟩
          rw [← hW] at HA0 HB0 HZ0 HL0 ⊢
          clear hW
          rw [rounds_succ]
          have x0 : W.cell? ⟨b, 0, none⟩ = some (.int .i64 a0) := rowAt_cell HA0.out 0
          have y0 : W.cell? ⟨b + 1, 0, none⟩ = some (.int .i64 b0) := rowAt_cell HB0.out 0
          have x1 : W.cell? ⟨b, 1, none⟩ = some (.int .i64 a1) := rowAt_cell HA0.out 1
          have y1 : W.cell? ⟨b + 1, 1, none⟩ = some (.int .i64 b1) := rowAt_cell HB0.out 1
          have x2 : W.cell? ⟨b, 2, none⟩ = some (.int .i64 a2) := rowAt_cell HA0.out 2
          have y2 : W.cell? ⟨b + 1, 2, none⟩ = some (.int .i64 b2) := rowAt_cell HB0.out 2
          have x3 : W.cell? ⟨b, 3, none⟩ = some (.int .i64 b3) := rowAt_cell HA0.out 3
          have y3 : W.cell? ⟨b + 1, 3, none⟩ = some (.int .i64 b3) := rowAt_cell HB0.out 3
          have z0 : W.cell? ⟨b + 1 + 1, 0, none⟩ = some (.int .i64 0) := rowAt_cell HZ0.out 0
          have g0 : W.frozen? ⟨b + 1 + 1, 0, none⟩ = false := rowAt_frz HZ0.out 0
          have z1 : W.cell? ⟨b + 1 + 1, 1, none⟩ = some (.int .i64 0) := rowAt_cell HZ0.out 1
          have g1 : W.frozen? ⟨b + 1 + 1, 1, none⟩ = false := rowAt_frz HZ0.out 1
          have z2 : W.cell? ⟨b + 1 + 1, 2, none⟩ = some (.int .i64 0) := rowAt_cell HZ0.out 2
          have g2 : W.frozen? ⟨b + 1 + 1, 2, none⟩ = false := rowAt_frz HZ0.out 2
          have z3 : W.cell? ⟨b + 1 + 1, 3, none⟩ = some (.int .i64 0) := rowAt_cell HZ0.out 3
          have g3 : W.frozen? ⟨b + 1 + 1, 3, none⟩ = false := rowAt_frz HZ0.out 3
          go_wp2
          exact bodyPost_ret (v := ck a0 a1 a2 b3) (by simp [results, Try.results9, go_sem, ck, z0, z1, z2, z3]) rfl ⟨rfl, ((((HL0.out.setCell (p := ⟨b + 1 + 1, 0, none⟩) (by rw [← HN.out]; show b ≤ b + 1 + 1; omega) _).setCell (p := ⟨b + 1 + 1, 1, none⟩) (by rw [← HN.out]; show b ≤ b + 1 + 1; omega) _).setCell (p := ⟨b + 1 + 1, 2, none⟩) (by rw [← HN.out]; show b ≤ b + 1 + 1; omega) _).setCell (p := ⟨b + 1 + 1, 3, none⟩) (by rw [← HN.out]; show b ≤ b + 1 + 1; omega) _)⟩
      · go_wp2
        have HA1 : Hid (rowAt ((W.drewN nq).setCell ⟨b, 2, none⟩ (.int .i64 b2)) b = some #[.int .i64 a0, .int .i64 a1, .int .i64 b2, .int .i64 a3]) := Lib.hid (rowAt_set (w := W.drewN nq) HA0.out 2 (.int .i64 b2))
        have HB1 : Hid (rowAt ((W.drewN nq).setCell ⟨b, 2, none⟩ (.int .i64 b2)) (b + 1) = some #[.int .i64 b0, .int .i64 b1, .int .i64 b2, .int .i64 b3]) := Lib.hid (rowAt_set_far (w := W.drewN nq) HB0.out (by omega) _ _)
        have HZ1 : Hid (rowAt ((W.drewN nq).setCell ⟨b, 2, none⟩ (.int .i64 b2)) (b + 1 + 1) = some #[.int .i64 0, .int .i64 0, .int .i64 0, .int .i64 0]) := Lib.hid (rowAt_set_far (w := W.drewN nq) HZ0.out (by omega) _ _)
        have HL1 : Hid (Below w.heap.size w ((W.drewN nq).setCell ⟨b, 2, none⟩ (.int .i64 b2))) := Lib.hid ((below_drewN HL0.out nq).setCell (p := ⟨b, 2, none⟩) (by rw [← HN.out]; exact Nat.le_refl _) _)
        generalize ((W.drewN nq).setCell ⟨b, 2, none⟩ (.int .i64 b2)) = V at HA1 HB1 HZ1 HL1 ⊢
        clear HA0 HB0 HZ0 HL0 x0 x1 x2 x3 y0 y1 y2 y3 fz
        have HA0 := HA1
        have HB0 := HB1
        have HZ0 := HZ1
        have HL0 := HL1
        clear HA1 HB1 HZ1 HL1
        obtain ⟨W, hW⟩ : ∃ W, W = V := ⟨_, rfl⟩
        rw [← hW] at HA0 HB0 HZ0 HL0 ⊢
        clear hW
        rw [rounds_succ]
        have x0 : W.cell? ⟨b, 0, none⟩ = some (.int .i64 a0) := rowAt_cell HA0.out 0
        have y0 : W.cell? ⟨b + 1, 0, none⟩ = some (.int .i64 b0) := rowAt_cell HB0.out 0
        have x1 : W.cell? ⟨b, 1, none⟩ = some (.int .i64 a1) := rowAt_cell HA0.out 1
        have y1 : W.cell? ⟨b + 1, 1, none⟩ = some (.int .i64 b1) := rowAt_cell HB0.out 1
        have x2 : W.cell? ⟨b, 2, none⟩ = some (.int .i64 b2) := rowAt_cell HA0.out 2
        have y2 : W.cell? ⟨b + 1, 2, none⟩ = some (.int .i64 b2) := rowAt_cell HB0.out 2
        have x3 : W.cell? ⟨b, 3, none⟩ = some (.int .i64 a3) := rowAt_cell HA0.out 3
        have y3 : W.cell? ⟨b + 1, 3, none⟩ = some (.int .i64 b3) := rowAt_cell HB0.out 3
        have fz : W.frozen? ⟨b, 3, none⟩ = false := rowAt_frz HA0.out 3
        go_wp2
        go_quiet (fail)
        cases p3
        · go_wp2
          have HA1 : Hid (rowAt (W.drewN nq) b = some #[.int .i64 a0, .int .i64 a1, .int .i64 b2, .int .i64 a3]) := HA0
          have HB1 : Hid (rowAt (W.drewN nq) (b + 1) = some #[.int .i64 b0, .int .i64 b1, .int .i64 b2, .int .i64 b3]) := HB0
          have HZ1 : Hid (rowAt (W.drewN nq) (b + 1 + 1) = some #[.int .i64 0, .int .i64 0, .int .i64 0, .int .i64 0]) := HZ0
          have HL1 : Hid (Below w.heap.size w (W.drewN nq)) := Lib.hid (below_drewN HL0.out nq)
          generalize (W.drewN nq) = V at HA1 HB1 HZ1 HL1 ⊢
          clear HA0 HB0 HZ0 HL0 x0 x1 x2 x3 y0 y1 y2 y3 fz
          have HA0 := HA1
          have HB0 := HB1
          have HZ0 := HZ1
          have HL0 := HL1
          clear HA1 HB1 HZ1 HL1
          obtain ⟨W, hW⟩ : ∃ W, W = V := ⟨_, rfl⟩
          rw [← hW] at HA0 HB0 HZ0 HL0 ⊢
          clear hW
          rw [rounds_succ]
          have x0 : W.cell? ⟨b, 0, none⟩ = some (.int .i64 a0) := rowAt_cell HA0.out 0
          have y0 : W.cell? ⟨b + 1, 0, none⟩ = some (.int .i64 b0) := rowAt_cell HB0.out 0
          have x1 : W.cell? ⟨b, 1, none⟩ = some (.int .i64 a1) := rowAt_cell HA0.out 1
          have y1 : W.cell? ⟨b + 1, 1, none⟩ = some (.int .i64 b1) := rowAt_cell HB0.out 1
          have x2 : W.cell? ⟨b, 2, none⟩ = some (.int .i64 b2) := rowAt_cell HA0.out 2
          have y2 : W.cell? ⟨b + 1, 2, none⟩ = some (.int .i64 b2) := rowAt_cell HB0.out 2
          have x3 : W.cell? ⟨b, 3, none⟩ = some (.int .i64 a3) := rowAt_cell HA0.out 3
          have y3 : W.cell? ⟨b + 1, 3, none⟩ = some (.int .i64 b3) := rowAt_cell HB0.out 3
          have z0 : W.cell? ⟨b + 1 + 1, 0, none⟩ = some (.int .i64 0) := rowAt_cell HZ0.out 0
          have g0 : W.frozen? ⟨b + 1 + 1, 0, none⟩ = false := rowAt_frz HZ0.out 0
          have z1 : W.cell? ⟨b + 1 + 1, 1, none⟩ = some (.int .i64 0) := rowAt_cell HZ0.out 1
          have g1 : W.frozen? ⟨b + 1 + 1, 1, none⟩ = false := rowAt_frz HZ0.out 1
          have z2 : W.cell? ⟨b + 1 + 1, 2, none⟩ = some (.int .i64 0) := rowAt_cell HZ0.out 2
          have g2 : W.frozen? ⟨b + 1 + 1, 2, none⟩ = false := rowAt_frz HZ0.out 2
          have z3 : W.cell? ⟨b + 1 + 1, 3, none⟩ = some (.int .i64 0) := rowAt_cell HZ0.out 3
          have g3 : W.frozen? ⟨b + 1 + 1, 3, none⟩ = false := rowAt_frz HZ0.out 3
          go_wp2
          exact bodyPost_ret (v := ck a0 a1 b2 a3) (by simp [results, Try.results9, go_sem, ck, z0, z1, z2, z3]) rfl ⟨rfl, ((((HL0.out.setCell (p := ⟨b + 1 + 1, 0, none⟩) (by rw [← HN.out]; show b ≤ b + 1 + 1; omega) _).setCell (p := ⟨b + 1 + 1, 1, none⟩) (by rw [← HN.out]; show b ≤ b + 1 + 1; omega) _).setCell (p := ⟨b + 1 + 1, 2, none⟩) (by rw [← HN.out]; show b ≤ b + 1 + 1; omega) _).setCell (p := ⟨b + 1 + 1, 3, none⟩) (by rw [← HN.out]; show b ≤ b + 1 + 1; omega) _)⟩
        · go_wp2
          have HA1 : Hid (rowAt ((W.drewN nq).setCell ⟨b, 3, none⟩ (.int .i64 b3)) b = some #[.int .i64 a0, .int .i64 a1, .int .i64 b2, .int .i64 b3]) := Lib.hid (rowAt_set (w := W.drewN nq) HA0.out 3 (.int .i64 b3))
          have HB1 : Hid (rowAt ((W.drewN nq).setCell ⟨b, 3, none⟩ (.int .i64 b3)) (b + 1) = some #[.int .i64 b0, .int .i64 b1, .int .i64 b2, .int .i64 b3]) := Lib.hid (rowAt_set_far (w := W.drewN nq) HB0.out (by omega) _ _)
          have HZ1 : Hid (rowAt ((W.drewN nq).setCell ⟨b, 3, none⟩ (.int .i64 b3)) (b + 1 + 1) = some #[.int .i64 0, .int .i64 0, .int .i64 0, .int .i64 0]) := Lib.hid (rowAt_set_far (w := W.drewN nq) HZ0.out (by omega) _ _)
          have HL1 : Hid (Below w.heap.size w ((W.drewN nq).setCell ⟨b, 3, none⟩ (.int .i64 b3))) := Lib.hid ((below_drewN HL0.out nq).setCell (p := ⟨b, 3, none⟩) (by rw [← HN.out]; exact Nat.le_refl _) _)
          generalize ((W.drewN nq).setCell ⟨b, 3, none⟩ (.int .i64 b3)) = V at HA1 HB1 HZ1 HL1 ⊢
          clear HA0 HB0 HZ0 HL0 x0 x1 x2 x3 y0 y1 y2 y3 fz
          have HA0 := HA1
          have HB0 := HB1
          have HZ0 := HZ1
          have HL0 := HL1
          clear HA1 HB1 HZ1 HL1
          obtain ⟨W, hW⟩ : ∃ W, W = V := ⟨_, rfl⟩
          rw [← hW] at HA0 HB0 HZ0 HL0 ⊢
          clear hW
          rw [rounds_succ]
          have x0 : W.cell? ⟨b, 0, none⟩ = some (.int .i64 a0) := rowAt_cell HA0.out 0
          have y0 : W.cell? ⟨b + 1, 0, none⟩ = some (.int .i64 b0) := rowAt_cell HB0.out 0
          have x1 : W.cell? ⟨b, 1, none⟩ = some (.int .i64 a1) := rowAt_cell HA0.out 1
          have y1 : W.cell? ⟨b + 1, 1, none⟩ = some (.int .i64 b1) := rowAt_cell HB0.out 1
          have x2 : W.cell? ⟨b, 2, none⟩ = some (.int .i64 b2) := rowAt_cell HA0.out 2
          have y2 : W.cell? ⟨b + 1, 2, none⟩ = some (.int .i64 b2) := rowAt_cell HB0.out 2
          have x3 : W.cell? ⟨b, 3, none⟩ = some (.int .i64 b3) := rowAt_cell HA0.out 3
          have y3 : W.cell? ⟨b + 1, 3, none⟩ = some (.int .i64 b3) := rowAt_cell HB0.out 3
          have z0 : W.cell? ⟨b + 1 + 1, 0, none⟩ = some (.int .i64 0) := rowAt_cell HZ0.out 0
          have g0 : W.frozen? ⟨b + 1 + 1, 0, none⟩ = false := rowAt_frz HZ0.out 0
          have z1 : W.cell? ⟨b + 1 + 1, 1, none⟩ = some (.int .i64 0) := rowAt_cell HZ0.out 1
          have g1 : W.frozen? ⟨b + 1 + 1, 1, none⟩ = false := rowAt_frz HZ0.out 1
          have z2 : W.cell? ⟨b + 1 + 1, 2, none⟩ = some (.int .i64 0) := rowAt_cell HZ0.out 2
          have g2 : W.frozen? ⟨b + 1 + 1, 2, none⟩ = false := rowAt_frz HZ0.out 2
          have z3 : W.cell? ⟨b + 1 + 1, 3, none⟩ = some (.int .i64 0) := rowAt_cell HZ0.out 3
          have g3 : W.frozen? ⟨b + 1 + 1, 3, none⟩ = false := rowAt_frz HZ0.out 3
          go_wp2
          exact bodyPost_ret (v := ck a0 a1 b2 b3) (by simp [results, Try.results9, go_sem, ck, z0, z1, z2, z3]) rfl ⟨rfl, ((((HL0.out.setCell (p := ⟨b + 1 + 1, 0, none⟩) (by rw [← HN.out]; show b ≤ b + 1 + 1; omega) _).setCell (p := ⟨b + 1 + 1, 1, none⟩) (by rw [← HN.out]; show b ≤ b + 1 + 1; omega) _).setCell (p := ⟨b + 1 + 1, 2, none⟩) (by rw [← HN.out]; show b ≤ b + 1 + 1; omega) _).setCell (p := ⟨b + 1 + 1, 3, none⟩) (by rw [← HN.out]; show b ≤ b + 1 + 1; omega) _)⟩
    · go_wp2
      have HA1 : Hid (rowAt ((W.drewN nq).setCell ⟨b, 1, none⟩ (.int .i64 b1)) b = some #[.int .i64 a0, .int .i64 b1, .int .i64 a2, .int .i64 a3]) := Lib.hid (rowAt_set (w := W.drewN nq) HA0.out 1 (.int .i64 b1))
      have HB1 : Hid (rowAt ((W.drewN nq).setCell ⟨b, 1, none⟩ (.int .i64 b1)) (b + 1) = some #[.int .i64 b0, .int .i64 b1, .int .i64 b2, .int .i64 b3]) := Lib.hid (rowAt_set_far (w := W.drewN nq) HB0.out (by omega) _ _)
      have HZ1 : Hid (rowAt ((W.drewN nq).setCell ⟨b, 1, none⟩ (.int .i64 b1)) (b + 1 + 1) = some #[.int .i64 0, .int .i64 0, .int .i64 0, .int .i64 0]) := Lib.hid (rowAt_set_far (w := W.drewN nq) HZ0.out (by omega) _ _)
      have HL1 : Hid (Below w.heap.size w ((W.drewN nq).setCell ⟨b, 1, none⟩ (.int .i64 b1))) := Lib.hid ((below_drewN HL0.out nq).setCell (p := ⟨b, 1, none⟩) (by rw [← HN.out]; exact Nat.le_refl _) _)
      generalize ((W.drewN nq).setCell ⟨b, 1, none⟩ (.int .i64 b1)) = V at HA1 HB1 HZ1 HL1 ⊢
      clear HA0 HB0 HZ0 HL0 x0 x1 x2 x3 y0 y1 y2 y3 fz
      have HA0 := HA1
      have HB0 := HB1
      have HZ0 := HZ1
      have HL0 := HL1
      clear HA1 HB1 HZ1 HL1
      obtain ⟨W, hW⟩ : ∃ W, W = V := ⟨_, rfl⟩
      rw [← hW] at HA0 HB0 HZ0 HL0 ⊢
      clear hW
      rw [rounds_succ]
      have x0 : W.cell? ⟨b, 0, none⟩ = some (.int .i64 a0) := rowAt_cell HA0.out 0
      have y0 : W.cell? ⟨b + 1, 0, none⟩ = some (.int .i64 b0) := rowAt_cell HB0.out 0
      have x1 : W.cell? ⟨b, 1, none⟩ = some (.int .i64 b1) := rowAt_cell HA0.out 1
      have y1 : W.cell? ⟨b + 1, 1, none⟩ = some (.int .i64 b1) := rowAt_cell HB0.out 1
      have x2 : W.cell? ⟨b, 2, none⟩ = some (.int .i64 a2) := rowAt_cell HA0.out 2
      have y2 : W.cell? ⟨b + 1, 2, none⟩ = some (.int .i64 b2) := rowAt_cell HB0.out 2
      have x3 : W.cell? ⟨b, 3, none⟩ = some (.int .i64 a3) := rowAt_cell HA0.out 3
      have y3 : W.cell? ⟨b + 1, 3, none⟩ = some (.int .i64 b3) := rowAt_cell HB0.out 3
      have fz : W.frozen? ⟨b, 2, none⟩ = false := rowAt_frz HA0.out 2
      go_wp2
      go_quiet (fail)
      cases p2
      · go_wp2
        have HA1 : Hid (rowAt (W.drewN nq) b = some #[.int .i64 a0, .int .i64 b1, .int .i64 a2, .int .i64 a3]) := HA0
        have HB1 : Hid (rowAt (W.drewN nq) (b + 1) = some #[.int .i64 b0, .int .i64 b1, .int .i64 b2, .int .i64 b3]) := HB0
        have HZ1 : Hid (rowAt (W.drewN nq) (b + 1 + 1) = some #[.int .i64 0, .int .i64 0, .int .i64 0, .int .i64 0]) := HZ0
        have HL1 : Hid (Below w.heap.size w (W.drewN nq)) := Lib.hid (below_drewN HL0.out nq)
        generalize (W.drewN nq) = V at HA1 HB1 HZ1 HL1 ⊢
        clear HA0 HB0 HZ0 HL0 x0 x1 x2 x3 y0 y1 y2 y3 fz
        have HA0 := HA1
        have HB0 := HB1
        have HZ0 := HZ1
        have HL0 := HL1
        clear HA1 HB1 HZ1 HL1
        obtain ⟨W, hW⟩ : ∃ W, W = V := ⟨_, rfl⟩
        rw [← hW] at HA0 HB0 HZ0 HL0 ⊢
        clear hW
        rw [rounds_succ]
        have x0 : W.cell? ⟨b, 0, none⟩ = some (.int .i64 a0) := rowAt_cell HA0.out 0
        have y0 : W.cell? ⟨b + 1, 0, none⟩ = some (.int .i64 b0) := rowAt_cell HB0.out 0
        have x1 : W.cell? ⟨b, 1, none⟩ = some (.int .i64 b1) := rowAt_cell HA0.out 1
        have y1 : W.cell? ⟨b + 1, 1, none⟩ = some (.int .i64 b1) := rowAt_cell HB0.out 1
        have x2 : W.cell? ⟨b, 2, none⟩ = some (.int .i64 a2) := rowAt_cell HA0.out 2
        have y2 : W.cell? ⟨b + 1, 2, none⟩ = some (.int .i64 b2) := rowAt_cell HB0.out 2
        have x3 : W.cell? ⟨b, 3, none⟩ = some (.int .i64 a3) := rowAt_cell HA0.out 3
        have y3 : W.cell? ⟨b + 1, 3, none⟩ = some (.int .i64 b3) := rowAt_cell HB0.out 3
        have fz : W.frozen? ⟨b, 3, none⟩ = false := rowAt_frz HA0.out 3
        go_wp2
        go_quiet (fail)
        cases p3
        · go_wp2
          have HA1 : Hid (rowAt (W.drewN nq) b = some #[.int .i64 a0, .int .i64 b1, .int .i64 a2, .int .i64 a3]) := HA0
          have HB1 : Hid (rowAt (W.drewN nq) (b + 1) = some #[.int .i64 b0, .int .i64 b1, .int .i64 b2, .int .i64 b3]) := HB0
          have HZ1 : Hid (rowAt (W.drewN nq) (b + 1 + 1) = some #[.int .i64 0, .int .i64 0, .int .i64 0, .int .i64 0]) := HZ0
          have HL1 : Hid (Below w.heap.size w (W.drewN nq)) := Lib.hid (below_drewN HL0.out nq)
          generalize (W.drewN nq) = V at HA1 HB1 HZ1 HL1 ⊢
          clear HA0 HB0 HZ0 HL0 x0 x1 x2 x3 y0 y1 y2 y3 fz
          have HA0 := HA1
          have HB0 := HB1
          have HZ0 := HZ1
          have HL0 := HL1
          clear HA1 HB1 HZ1 HL1
          obtain ⟨W, hW⟩ : ∃ W, W = V := ⟨_, rfl⟩
          rw [← hW] at HA0 HB0 HZ0 HL0 ⊢
          clear hW
          rw [rounds_succ]
          have x0 : W.cell? ⟨b, 0, none⟩ = some (.int .i64 a0) := rowAt_cell HA0.out 0
          have y0 : W.cell? ⟨b + 1, 0, none⟩ = some (.int .i64 b0) := rowAt_cell HB0.out 0
          have x1 : W.cell? ⟨b, 1, none⟩ = some (.int .i64 b1) := rowAt_cell HA0.out 1
          have y1 : W.cell? ⟨b + 1, 1, none⟩ = some (.int .i64 b1) := rowAt_cell HB0.out 1
          have x2 : W.cell? ⟨b, 2, none⟩ = some (.int .i64 a2) := rowAt_cell HA0.out 2
          have y2 : W.cell? ⟨b + 1, 2, none⟩ = some (.int .i64 b2) := rowAt_cell HB0.out 2
          have x3 : W.cell? ⟨b, 3, none⟩ = some (.int .i64 a3) := rowAt_cell HA0.out 3
          have y3 : W.cell? ⟨b + 1, 3, none⟩ = some (.int .i64 b3) := rowAt_cell HB0.out 3
          have z0 : W.cell? ⟨b + 1 + 1, 0, none⟩ = some (.int .i64 0) := rowAt_cell HZ0.out 0
          have g0 : W.frozen? ⟨b + 1 + 1, 0, none⟩ = false := rowAt_frz HZ0.out 0
          have z1 : W.cell? ⟨b + 1 + 1, 1, none⟩ = some (.int .i64 0) := rowAt_cell HZ0.out 1
          have g1 : W.frozen? ⟨b + 1 + 1, 1, none⟩ = false := rowAt_frz HZ0.out 1
          have z2 : W.cell? ⟨b + 1 + 1, 2, none⟩ = some (.int .i64 0) := rowAt_cell HZ0.out 2
          have g2 : W.frozen? ⟨b + 1 + 1, 2, none⟩ = false := rowAt_frz HZ0.out 2
          have z3 : W.cell? ⟨b + 1 + 1, 3, none⟩ = some (.int .i64 0) := rowAt_cell HZ0.out 3
          have g3 : W.frozen? ⟨b + 1 + 1, 3, none⟩ = false := rowAt_frz HZ0.out 3
          go_wp2
          exact bodyPost_ret (v := ck a0 b1 a2 a3) (by simp [results, Try.results9, go_sem, ck, z0, z1, z2, z3]) rfl ⟨rfl, ((((HL0.out.setCell (p := ⟨b + 1 + 1, 0, none⟩) (by rw [← HN.out]; show b ≤ b + 1 + 1; omega) _).setCell (p := ⟨b + 1 + 1, 1, none⟩) (by rw [← HN.out]; show b ≤ b + 1 + 1; omega) _).setCell (p := ⟨b + 1 + 1, 2, none⟩) (by rw [← HN.out]; show b ≤ b + 1 + 1; omega) _).setCell (p := ⟨b + 1 + 1, 3, none⟩) (by rw [← HN.out]; show b ≤ b + 1 + 1; omega) _)⟩
        · go_wp2
          have HA1 : Hid (rowAt ((W.drewN nq).setCell ⟨b, 3, none⟩ (.int .i64 b3)) b = some #[.int .i64 a0, .int .i64 b1, .int .i64 a2, .int .i64 b3]) := Lib.hid (rowAt_set (w := W.drewN nq) HA0.out 3 (.int .i64 b3))
          have HB1 : Hid (rowAt ((W.drewN nq).setCell ⟨b, 3, none⟩ (.int .i64 b3)) (b + 1) = some #[.int .i64 b0, .int .i64 b1, .int .i64 b2, .int .i64 b3]) := Lib.hid (rowAt_set_far (w := W.drewN nq) HB0.out (by omega) _ _)
          have HZ1 : Hid (rowAt ((W.drewN nq).setCell ⟨b, 3, none⟩ (.int .i64 b3)) (b + 1 + 1) = some #[.int .i64 0, .int .i64 0, .int .i64 0, .int .i64 0]) := Lib.hid (rowAt_set_far (w := W.drewN nq) HZ0.out (by omega) _ _)
          have HL1 : Hid (Below w.heap.size w ((W.drewN nq).setCell ⟨b, 3, none⟩ (.int .i64 b3))) := Lib.hid ((below_drewN HL0.out nq).setCell (p := ⟨b, 3, none⟩) (by rw [← HN.out]; exact Nat.le_refl _) _)
          generalize ((W.drewN nq).setCell ⟨b, 3, none⟩ (.int .i64 b3)) = V at HA1 HB1 HZ1 HL1 ⊢
          clear HA0 HB0 HZ0 HL0 x0 x1 x2 x3 y0 y1 y2 y3 fz
          have HA0 := HA1
          have HB0 := HB1
          have HZ0 := HZ1
          have HL0 := HL1
          clear HA1 HB1 HZ1 HL1
          obtain ⟨W, hW⟩ : ∃ W, W = V := ⟨_, rfl⟩
          rw [← hW] at HA0 HB0 HZ0 HL0 ⊢
          clear hW
          rw [rounds_succ]
          have x0 : W.cell? ⟨b, 0, none⟩ = some (.int .i64 a0) := rowAt_cell HA0.out 0
          have y0 : W.cell? ⟨b + 1, 0, none⟩ = some (.int .i64 b0) := rowAt_cell HB0.out 0
          have x1 : W.cell? ⟨b, 1, none⟩ = some (.int .i64 b1) := rowAt_cell HA0.out 1
          have y1 : W.cell? ⟨b + 1, 1, none⟩ = some (.int .i64 b1) := rowAt_cell HB0.out 1
          have x2 : W.cell? ⟨b, 2, none⟩ = some (.int .i64 a2) := rowAt_cell HA0.out 2
          have y2 : W.cell? ⟨b + 1, 2, none⟩ = some (.int .i64 b2) := rowAt_cell HB0.out 2
          have x3 : W.cell? ⟨b, 3, none⟩ = some (.int .i64 b3) := rowAt_cell HA0.out 3
          have y3 : W.cell? ⟨b + 1, 3, none⟩ = some (.int .i64 b3) := rowAt_cell HB0.out 3
          have z0 : W.cell? ⟨b + 1 + 1, 0, none⟩ = some (.int .i64 0) := rowAt_cell HZ0.out 0
          have g0 : W.frozen? ⟨b + 1 + 1, 0, none⟩ = false := rowAt_frz HZ0.out 0
          have z1 : W.cell? ⟨b + 1 + 1, 1, none⟩ = some (.int .i64 0) := rowAt_cell HZ0.out 1
          have g1 : W.frozen? ⟨b + 1 + 1, 1, none⟩ = false := rowAt_frz HZ0.out 1
          have z2 : W.cell? ⟨b + 1 + 1, 2, none⟩ = some (.int .i64 0) := rowAt_cell HZ0.out 2
          have g2 : W.frozen? ⟨b + 1 + 1, 2, none⟩ = false := rowAt_frz HZ0.out 2
          have z3 : W.cell? ⟨b + 1 + 1, 3, none⟩ = some (.int .i64 0) := rowAt_cell HZ0.out 3
          have g3 : W.frozen? ⟨b + 1 + 1, 3, none⟩ = false := rowAt_frz HZ0.out 3
          go_wp2
          exact bodyPost_ret (v := ck a0 b1 a2 b3) (by simp [results, Try.results9, go_sem, ck, z0, z1, z2, z3]) rfl ⟨rfl, ((((HL0.out.setCell (p := ⟨b + 1 + 1, 0, none⟩) (by rw [← HN.out]; show b ≤ b + 1 + 1; omega) _).setCell (p := ⟨b + 1 + 1, 1, none⟩) (by rw [← HN.out]; show b ≤ b + 1 + 1; omega) _).setCell (p := ⟨b + 1 + 1, 2, none⟩) (by rw [← HN.out]; show b ≤ b + 1 + 1; omega) _).setCell (p := ⟨b + 1 + 1, 3, none⟩) (by rw [← HN.out]; show b ≤ b + 1 + 1; omega) _)⟩
      · go_wp2
        have HA1 : Hid (rowAt ((W.drewN nq).setCell ⟨b, 2, none⟩ (.int .i64 b2)) b = some #[.int .i64 a0, .int .i64 b1, .int .i64 b2, .int .i64 a3]) := Lib.hid (rowAt_set (w := W.drewN nq) HA0.out 2 (.int .i64 b2))
        have HB1 : Hid (rowAt ((W.drewN nq).setCell ⟨b, 2, none⟩ (.int .i64 b2)) (b + 1) = some #[.int .i64 b0, .int .i64 b1, .int .i64 b2, .int .i64 b3]) := Lib.hid (rowAt_set_far (w := W.drewN nq) HB0.out (by omega) _ _)
        have HZ1 : Hid (rowAt ((W.drewN nq).setCell ⟨b, 2, none⟩ (.int .i64 b2)) (b + 1 + 1) = some #[.int .i64 0, .int .i64 0, .int .i64 0, .int .i64 0]) := Lib.hid (rowAt_set_far (w := W.drewN nq) HZ0.out (by omega) _ _)
        have HL1 : Hid (Below w.heap.size w ((W.drewN nq).setCell ⟨b, 2, none⟩ (.int .i64 b2))) := Lib.hid ((below_drewN HL0.out nq).setCell (p := ⟨b, 2, none⟩) (by rw [← HN.out]; exact Nat.le_refl _) _)
        generalize ((W.drewN nq).setCell ⟨b, 2, none⟩ (.int .i64 b2)) = V at HA1 HB1 HZ1 HL1 ⊢
        clear HA0 HB0 HZ0 HL0 x0 x1 x2 x3 y0 y1 y2 y3 fz
        have HA0 := HA1
        have HB0 := HB1
        have HZ0 := HZ1
        have HL0 := HL1
        clear HA1 HB1 HZ1 HL1
        obtain ⟨W, hW⟩ : ∃ W, W = V := ⟨_, rfl⟩
        rw [← hW] at HA0 HB0 HZ0 HL0 ⊢
        clear hW
        rw [rounds_succ]
        have x0 : W.cell? ⟨b, 0, none⟩ = some (.int .i64 a0) := rowAt_cell HA0.out 0
        have y0 : W.cell? ⟨b + 1, 0, none⟩ = some (.int .i64 b0) := rowAt_cell HB0.out 0
        have x1 : W.cell? ⟨b, 1, none⟩ = some (.int .i64 b1) := rowAt_cell HA0.out 1
        have y1 : W.cell? ⟨b + 1, 1, none⟩ = some (.int .i64 b1) := rowAt_cell HB0.out 1
        have x2 : W.cell? ⟨b, 2, none⟩ = some (.int .i64 b2) := rowAt_cell HA0.out 2
        have y2 : W.cell? ⟨b + 1, 2, none⟩ = some (.int .i64 b2) := rowAt_cell HB0.out 2
        have x3 : W.cell? ⟨b, 3, none⟩ = some (.int .i64 a3) := rowAt_cell HA0.out 3
        have y3 : W.cell? ⟨b + 1, 3, none⟩ = some (.int .i64 b3) := rowAt_cell HB0.out 3
        have fz : W.frozen? ⟨b, 3, none⟩ = false := rowAt_frz HA0.out 3
        go_wp2
        go_quiet (fail)
        cases p3
        · go_wp2
          have HA1 : Hid (rowAt (W.drewN nq) b = some #[.int .i64 a0, .int .i64 b1, .int .i64 b2, .int .i64 a3]) := HA0
          have HB1 : Hid (rowAt (W.drewN nq) (b + 1) = some #[.int .i64 b0, .int .i64 b1, .int .i64 b2, .int .i64 b3]) := HB0
          have HZ1 : Hid (rowAt (W.drewN nq) (b + 1 + 1) = some #[.int .i64 0, .int .i64 0, .int .i64 0, .int .i64 0]) := HZ0
          have HL1 : Hid (Below w.heap.size w (W.drewN nq)) := Lib.hid (below_drewN HL0.out nq)
          generalize (W.drewN nq) = V at HA1 HB1 HZ1 HL1 ⊢
          clear HA0 HB0 HZ0 HL0 x0 x1 x2 x3 y0 y1 y2 y3 fz
          have HA0 := HA1
          have HB0 := HB1
          have HZ0 := HZ1
          have HL0 := HL1
          clear HA1 HB1 HZ1 HL1
          obtain ⟨W, hW⟩ : ∃ W, W = V := ⟨_, rfl⟩
          rw [← hW] at HA0 HB0 HZ0 HL0 ⊢
          clear hW
          rw [rounds_succ]
          have x0 : W.cell? ⟨b, 0, none⟩ = some (.int .i64 a0) := rowAt_cell HA0.out 0
          have y0 : W.cell? ⟨b + 1, 0, none⟩ = some (.int .i64 b0) := rowAt_cell HB0.out 0
          have x1 : W.cell? ⟨b, 1, none⟩ = some (.int .i64 b1) := rowAt_cell HA0.out 1
          have y1 : W.cell? ⟨b + 1, 1, none⟩ = some (.int .i64 b1) := rowAt_cell HB0.out 1
          have x2 : W.cell? ⟨b, 2, none⟩ = some (.int .i64 b2) := rowAt_cell HA0.out 2
          have y2 : W.cell? ⟨b + 1, 2, none⟩ = some (.int .i64 b2) := rowAt_cell HB0.out 2
          have x3 : W.cell? ⟨b, 3, none⟩ = some (.int .i64 a3) := rowAt_cell HA0.out 3
          have y3 : W.cell? ⟨b + 1, 3, none⟩ = some (.int .i64 b3) := rowAt_cell HB0.out 3
          have z0 : W.cell? ⟨b + 1 + 1, 0, none⟩ = some (.int .i64 0) := rowAt_cell HZ0.out 0
          have g0 : W.frozen? ⟨b + 1 + 1, 0, none⟩ = false := rowAt_frz HZ0.out 0
          have z1 : W.cell? ⟨b + 1 + 1, 1, none⟩ = some (.int .i64 0) := rowAt_cell HZ0.out 1
          have g1 : W.frozen? ⟨b + 1 + 1, 1, none⟩ = false := rowAt_frz HZ0.out 1
          have z2 : W.cell? ⟨b + 1 + 1, 2, none⟩ = some (.int .i64 0) := rowAt_cell HZ0.out 2
          have g2 : W.frozen? ⟨b + 1 + 1, 2, none⟩ = false := rowAt_frz HZ0.out 2
          have z3 : W.cell? ⟨b + 1 + 1, 3, none⟩ = some (.int .i64 0) := rowAt_cell HZ0.out 3
          have g3 : W.frozen? ⟨b + 1 + 1, 3, none⟩ = false := rowAt_frz HZ0.out 3
          go_wp2
          exact bodyPost_ret (v := ck a0 b1 b2 a3) (by simp [results, Try.results9, go_sem, ck, z0, z1, z2, z3]) rfl ⟨rfl, ((((HL0.out.setCell (p := ⟨b + 1 + 1, 0, none⟩) (by rw [← HN.out]; show b ≤ b + 1 + 1; omega) _).setCell (p := ⟨b + 1 + 1, 1, none⟩) (by rw [← HN.out]; show b ≤ b + 1 + 1; omega) _).setCell (p := ⟨b + 1 + 1, 2, none⟩) (by rw [← HN.out]; show b ≤ b + 1 + 1; omega) _).setCell (p := ⟨b + 1 + 1, 3, none⟩) (by rw [← HN.out]; show b ≤ b + 1 + 1; omega) _)⟩
        · go_wp2
          have HA1 : Hid (rowAt ((W.drewN nq).setCell ⟨b, 3, none⟩ (.int .i64 b3)) b = some #[.int .i64 a0, .int .i64 b1, .int .i64 b2, .int .i64 b3]) := Lib.hid (rowAt_set (w := W.drewN nq) HA0.out 3 (.int .i64 b3))
          have HB1 : Hid (rowAt ((W.drewN nq).setCell ⟨b, 3, none⟩ (.int .i64 b3)) (b + 1) = some #[.int .i64 b0, .int .i64 b1, .int .i64 b2, .int .i64 b3]) := Lib.hid (rowAt_set_far (w := W.drewN nq) HB0.out (by omega) _ _)
          have HZ1 : Hid (rowAt ((W.drewN nq).setCell ⟨b, 3, none⟩ (.int .i64 b3)) (b + 1 + 1) = some #[.int .i64 0, .int .i64 0, .int .i64 0, .int .i64 0]) := Lib.hid (rowAt_set_far (w := W.drewN nq) HZ0.out (by omega) _ _)
          have HL1 : Hid (Below w.heap.size w ((W.drewN nq).setCell ⟨b, 3, none⟩ (.int .i64 b3))) := Lib.hid ((below_drewN HL0.out nq).setCell (p := ⟨b, 3, none⟩) (by rw [← HN.out]; exact Nat.le_refl _) _)
          generalize ((W.drewN nq).setCell ⟨b, 3, none⟩ (.int .i64 b3)) = V at HA1 HB1 HZ1 HL1 ⊢
          clear HA0 HB0 HZ0 HL0 x0 x1 x2 x3 y0 y1 y2 y3 fz
          have HA0 := HA1
          have HB0 := HB1
          have HZ0 := HZ1
          have HL0 := HL1
          clear HA1 HB1 HZ1 HL1
          obtain ⟨W, hW⟩ : ∃ W, W = V := ⟨_, rfl⟩
          rw [← hW] at HA0 HB0 HZ0 HL0 ⊢
          clear hW
          rw [rounds_succ]
          have x0 : W.cell? ⟨b, 0, none⟩ = some (.int .i64 a0) := rowAt_cell HA0.out 0
          have y0 : W.cell? ⟨b + 1, 0, none⟩ = some (.int .i64 b0) := rowAt_cell HB0.out 0
          have x1 : W.cell? ⟨b, 1, none⟩ = some (.int .i64 b1) := rowAt_cell HA0.out 1
          have y1 : W.cell? ⟨b + 1, 1, none⟩ = some (.int .i64 b1) := rowAt_cell HB0.out 1
          have x2 : W.cell? ⟨b, 2, none⟩ = some (.int .i64 b2) := rowAt_cell HA0.out 2
          have y2 : W.cell? ⟨b + 1, 2, none⟩ = some (.int .i64 b2) := rowAt_cell HB0.out 2
          have x3 : W.cell? ⟨b, 3, none⟩ = some (.int .i64 b3) := rowAt_cell HA0.out 3
          have y3 : W.cell? ⟨b + 1, 3, none⟩ = some (.int .i64 b3) := rowAt_cell HB0.out 3
          have z0 : W.cell? ⟨b + 1 + 1, 0, none⟩ = some (.int .i64 0) := rowAt_cell HZ0.out 0
          have g0 : W.frozen? ⟨b + 1 + 1, 0, none⟩ = false := rowAt_frz HZ0.out 0
          have z1 : W.cell? ⟨b + 1 + 1, 1, none⟩ = some (.int .i64 0) := rowAt_cell HZ0.out 1
          have g1 : W.frozen? ⟨b + 1 + 1, 1, none⟩ = false := rowAt_frz HZ0.out 1
          have z2 : W.cell? ⟨b + 1 + 1, 2, none⟩ = some (.int .i64 0) := rowAt_cell HZ0.out 2
          have g2 : W.frozen? ⟨b + 1 + 1, 2, none⟩ = false := rowAt_frz HZ0.out 2
          have z3 : W.cell? ⟨b + 1 + 1, 3, none⟩ = some (.int .i64 0) := rowAt_cell HZ0.out 3
          have g3 : W.frozen? ⟨b + 1 + 1, 3, none⟩ = false := rowAt_frz HZ0.out 3
          go_wp2
          exact bodyPost_ret (v := ck a0 b1 b2 b3) (by simp [results, Try.results9, go_sem, ck, z0, z1, z2, z3]) rfl ⟨rfl, ((((HL0.out.setCell (p := ⟨b + 1 + 1, 0, none⟩) (by rw [← HN.out]; show b ≤ b + 1 + 1; omega) _).setCell (p := ⟨b + 1 + 1, 1, none⟩) (by rw [← HN.out]; show b ≤ b + 1 + 1; omega) _).setCell (p := ⟨b + 1 + 1, 2, none⟩) (by rw [← HN.out]; show b ≤ b + 1 + 1; omega) _).setCell (p := ⟨b + 1 + 1, 3, none⟩) (by rw [← HN.out]; show b ≤ b + 1 + 1; omega) _)⟩
  · go_wp2
    have HA1 : Hid (rowAt ((W.drewN nq).setCell ⟨b, 0, none⟩ (.int .i64 b0)) b = some #[.int .i64 b0, .int .i64 a1, .int .i64 a2, .int .i64 a3]) := Lib.hid (rowAt_set (w := W.drewN nq) HA0.out 0 (.int .i64 b0))
    have HB1 : Hid (rowAt ((W.drewN nq).setCell ⟨b, 0, none⟩ (.int .i64 b0)) (b + 1) = some #[.int .i64 b0, .int .i64 b1, .int .i64 b2, .int .i64 b3]) := Lib.hid (rowAt_set_far (w := W.drewN nq) HB0.out (by omega) _ _)
    have HZ1 : Hid (rowAt ((W.drewN nq).setCell ⟨b, 0, none⟩ (.int .i64 b0)) (b + 1 + 1) = some #[.int .i64 0, .int .i64 0, .int .i64 0, .int .i64 0]) := Lib.hid (rowAt_set_far (w := W.drewN nq) HZ0.out (by omega) _ _)
    have HL1 : Hid (Below w.heap.size w ((W.drewN nq).setCell ⟨b, 0, none⟩ (.int .i64 b0))) := Lib.hid ((below_drewN HL0.out nq).setCell (p := ⟨b, 0, none⟩) (by rw [← HN.out]; exact Nat.le_refl _) _)
    generalize ((W.drewN nq).setCell ⟨b, 0, none⟩ (.int .i64 b0)) = V at HA1 HB1 HZ1 HL1 ⊢
    clear HA0 HB0 HZ0 HL0 x0 x1 x2 x3 y0 y1 y2 y3 fz
    have HA0 := HA1
    have HB0 := HB1
    have HZ0 := HZ1
    have HL0 := HL1
    clear HA1 HB1 HZ1 HL1
    obtain ⟨W, hW⟩ : ∃ W, W = V := ⟨_, rfl⟩
    rw [← hW] at HA0 HB0 HZ0 HL0 ⊢
    clear hW
    rw [rounds_succ]
    have x0 : W.cell? ⟨b, 0, none⟩ = some (.int .i64 b0) := rowAt_cell HA0.out 0
    have y0 : W.cell? ⟨b + 1, 0, none⟩ = some (.int .i64 b0) := rowAt_cell HB0.out 0
    have x1 : W.cell? ⟨b, 1, none⟩ = some (.int .i64 a1) := rowAt_cell HA0.out 1
    have y1 : W.cell? ⟨b + 1, 1, none⟩ = some (.int .i64 b1) := rowAt_cell HB0.out 1
    have x2 : W.cell? ⟨b, 2, none⟩ = some (.int .i64 a2) := rowAt_cell HA0.out 2
    have y2 : W.cell? ⟨b + 1, 2, none⟩ = some (.int .i64 b2) := rowAt_cell HB0.out 2
    have x3 : W.cell? ⟨b, 3, none⟩ = some (.int .i64 a3) := rowAt_cell HA0.out 3
    have y3 : W.cell? ⟨b + 1, 3, none⟩ = some (.int .i64 b3) := rowAt_cell HB0.out 3
    have fz : W.frozen? ⟨b, 1, none⟩ = false := rowAt_frz HA0.out 1
    go_wp2
    go_quiet (fail)
    cases p1
    · go_wp2
      have HA1 : Hid (rowAt (W.drewN nq) b = some #[.int .i64 b0, .int .i64 a1, .int .i64 a2, .int .i64 a3]) := HA0
      have HB1 : Hid (rowAt (W.drewN nq) (b + 1) = some #[.int .i64 b0, .int .i64 b1, .int .i64 b2, .int .i64 b3]) := HB0
      have HZ1 : Hid (rowAt (W.drewN nq) (b + 1 + 1) = some #[.int .i64 0, .int .i64 0, .int .i64 0, .int .i64 0]) := HZ0
      have HL1 : Hid (Below w.heap.size w (W.drewN nq)) := Lib.hid (below_drewN HL0.out nq)
      generalize (W.drewN nq) = V at HA1 HB1 HZ1 HL1 ⊢
      clear HA0 HB0 HZ0 HL0 x0 x1 x2 x3 y0 y1 y2 y3 fz
      have HA0 := HA1
      have HB0 := HB1
      have HZ0 := HZ1
      have HL0 := HL1
      clear HA1 HB1 HZ1 HL1
      obtain ⟨W, hW⟩ : ∃ W, W = V := ⟨_, rfl⟩
      rw [← hW] at HA0 HB0 HZ0 HL0 ⊢
      clear hW
      rw [rounds_succ]
      have x0 : W.cell? ⟨b, 0, none⟩ = some (.int .i64 b0) := rowAt_cell HA0.out 0
      have y0 : W.cell? ⟨b + 1, 0, none⟩ = some (.int .i64 b0) := rowAt_cell HB0.out 0
      have x1 : W.cell? ⟨b, 1, none⟩ = some (.int .i64 a1) := rowAt_cell HA0.out 1
      have y1 : W.cell? ⟨b + 1, 1, none⟩ = some (.int .i64 b1) := rowAt_cell HB0.out 1
      have x2 : W.cell? ⟨b, 2, none⟩ = some (.int .i64 a2) := rowAt_cell HA0.out 2
      have y2 : W.cell? ⟨b + 1, 2, none⟩ = some (.int .i64 b2) := rowAt_cell HB0.out 2
      have x3 : W.cell? ⟨b, 3, none⟩ = some (.int .i64 a3) := rowAt_cell HA0.out 3
      have y3 : W.cell? ⟨b + 1, 3, none⟩ = some (.int .i64 b3) := rowAt_cell HB0.out 3
      have fz : W.frozen? ⟨b, 2, none⟩ = false := rowAt_frz HA0.out 2
      go_wp2
      go_quiet (fail)
      cases p2
      · go_wp2
        have HA1 : Hid (rowAt (W.drewN nq) b = some #[.int .i64 b0, .int .i64 a1, .int .i64 a2, .int .i64 a3]) := HA0
        have HB1 : Hid (rowAt (W.drewN nq) (b + 1) = some #[.int .i64 b0, .int .i64 b1, .int .i64 b2, .int .i64 b3]) := HB0
        have HZ1 : Hid (rowAt (W.drewN nq) (b + 1 + 1) = some #[.int .i64 0, .int .i64 0, .int .i64 0, .int .i64 0]) := HZ0
        have HL1 : Hid (Below w.heap.size w (W.drewN nq)) := Lib.hid (below_drewN HL0.out nq)
        generalize (W.drewN nq) = V at HA1 HB1 HZ1 HL1 ⊢
        clear HA0 HB0 HZ0 HL0 x0 x1 x2 x3 y0 y1 y2 y3 fz
        have HA0 := HA1
        have HB0 := HB1
        have HZ0 := HZ1
        have HL0 := HL1
        clear HA1 HB1 HZ1 HL1
        obtain ⟨W, hW⟩ : ∃ W, W = V := ⟨_, rfl⟩
        rw [← hW] at HA0 HB0 HZ0 HL0 ⊢
        clear hW
        rw [rounds_succ]
        have x0 : W.cell? ⟨b, 0, none⟩ = some (.int .i64 b0) := rowAt_cell HA0.out 0
        have y0 : W.cell? ⟨b + 1, 0, none⟩ = some (.int .i64 b0) := rowAt_cell HB0.out 0
        have x1 : W.cell? ⟨b, 1, none⟩ = some (.int .i64 a1) := rowAt_cell HA0.out 1
        have y1 : W.cell? ⟨b + 1, 1, none⟩ = some (.int .i64 b1) := rowAt_cell HB0.out 1
        have x2 : W.cell? ⟨b, 2, none⟩ = some (.int .i64 a2) := rowAt_cell HA0.out 2
        have y2 : W.cell? ⟨b + 1, 2, none⟩ = some (.int .i64 b2) := rowAt_cell HB0.out 2
        have x3 : W.cell? ⟨b, 3, none⟩ = some (.int .i64 a3) := rowAt_cell HA0.out 3
        have y3 : W.cell? ⟨b + 1, 3, none⟩ = some (.int .i64 b3) := rowAt_cell HB0.out 3
        have fz : W.frozen? ⟨b, 3, none⟩ = false := rowAt_frz HA0.out 3
        go_wp2
        go_quiet (fail)
        cases p3
        · go_wp2
          have HA1 : Hid (rowAt (W.drewN nq) b = some #[.int .i64 b0, .int .i64 a1, .int .i64 a2, .int .i64 a3]) := HA0
          have HB1 : Hid (rowAt (W.drewN nq) (b + 1) = some #[.int .i64 b0, .int .i64 b1, .int .i64 b2, .int .i64 b3]) := HB0
          have HZ1 : Hid (rowAt (W.drewN nq) (b + 1 + 1) = some #[.int .i64 0, .int .i64 0, .int .i64 0, .int .i64 0]) := HZ0
          have HL1 : Hid (Below w.heap.size w (W.drewN nq)) := Lib.hid (below_drewN HL0.out nq)
          generalize (W.drewN nq) = V at HA1 HB1 HZ1 HL1 ⊢
          clear HA0 HB0 HZ0 HL0 x0 x1 x2 x3 y0 y1 y2 y3 fz
          have HA0 := HA1
          have HB0 := HB1
          have HZ0 := HZ1
          have HL0 := HL1
          clear HA1 HB1 HZ1 HL1
          obtain ⟨W, hW⟩ : ∃ W, W = V := ⟨_, rfl⟩
          rw [← hW] at HA0 HB0 HZ0 HL0 ⊢
          clear hW
          rw [rounds_succ]
          have x0 : W.cell? ⟨b, 0, none⟩ = some (.int .i64 b0) := rowAt_cell HA0.out 0
          have y0 : W.cell? ⟨b + 1, 0, none⟩ = some (.int .i64 b0) := rowAt_cell HB0.out 0
          have x1 : W.cell? ⟨b, 1, none⟩ = some (.int .i64 a1) := rowAt_cell HA0.out 1
          have y1 : W.cell? ⟨b + 1, 1, none⟩ = some (.int .i64 b1) := rowAt_cell HB0.out 1
          have x2 : W.cell? ⟨b, 2, none⟩ = some (.int .i64 a2) := rowAt_cell HA0.out 2
          have y2 : W.cell? ⟨b + 1, 2, none⟩ = some (.int .i64 b2) := rowAt_cell HB0.out 2
          have x3 : W.cell? ⟨b, 3, none⟩ = some (.int .i64 a3) := rowAt_cell HA0.out 3
          have y3 : W.cell? ⟨b + 1, 3, none⟩ = some (.int .i64 b3) := rowAt_cell HB0.out 3
          have z0 : W.cell? ⟨b + 1 + 1, 0, none⟩ = some (.int .i64 0) := rowAt_cell HZ0.out 0
          have g0 : W.frozen? ⟨b + 1 + 1, 0, none⟩ = false := rowAt_frz HZ0.out 0
          have z1 : W.cell? ⟨b + 1 + 1, 1, none⟩ = some (.int .i64 0) := rowAt_cell HZ0.out 1
          have g1 : W.frozen? ⟨b + 1 + 1, 1, none⟩ = false := rowAt_frz HZ0.out 1
          have z2 : W.cell? ⟨b + 1 + 1, 2, none⟩ = some (.int .i64 0) := rowAt_cell HZ0.out 2
          have g2 : W.frozen? ⟨b + 1 + 1, 2, none⟩ = false := rowAt_frz HZ0.out 2
          have z3 : W.cell? ⟨b + 1 + 1, 3, none⟩ = some (.int .i64 0) := rowAt_cell HZ0.out 3
          have g3 : W.frozen? ⟨b + 1 + 1, 3, none⟩ = false := rowAt_frz HZ0.out 3
          go_wp2
          exact bodyPost_ret (v := ck b0 a1 a2 a3) (by simp [results, Try.results9, go_sem, ck, z0, z1, z2, z3]) rfl ⟨rfl, ((((HL0.out.setCell (p := ⟨b + 1 + 1, 0, none⟩) (by rw [← HN.out]; show b ≤ b + 1 + 1; omega) _).setCell (p := ⟨b + 1 + 1, 1, none⟩) (by rw [← HN.out]; show b ≤ b + 1 + 1; omega) _).setCell (p := ⟨b + 1 + 1, 2, none⟩) (by rw [← HN.out]; show b ≤ b + 1 + 1; omega) _).setCell (p := ⟨b + 1 + 1, 3, none⟩) (by rw [← HN.out]; show b ≤ b + 1 + 1; omega) _)⟩
        · go_wp2
          have HA1 : Hid (rowAt ((W.drewN nq).setCell ⟨b, 3, none⟩ (.int .i64 b3)) b = some #[.int .i64 b0, .int .i64 a1, .int .i64 a2, .int .i64 b3]) := Lib.hid (rowAt_set (w := W.drewN nq) HA0.out 3 (.int .i64 b3))
          have HB1 : Hid (rowAt ((W.drewN nq).setCell ⟨b, 3, none⟩ (.int .i64 b3)) (b + 1) = some #[.int .i64 b0, .int .i64 b1, .int .i64 b2, .int .i64 b3]) := Lib.hid (rowAt_set_far (w := W.drewN nq) HB0.out (by omega) _ _)
          have HZ1 : Hid (rowAt ((W.drewN nq).setCell ⟨b, 3, none⟩ (.int .i64 b3)) (b + 1 + 1) = some #[.int .i64 0, .int .i64 0, .int .i64 0, .int .i64 0]) := Lib.hid (rowAt_set_far (w := W.drewN nq) HZ0.out (by omega) _ _)
          have HL1 : Hid (Below w.heap.size w ((W.drewN nq).setCell ⟨b, 3, none⟩ (.int .i64 b3))) := Lib.hid ((below_drewN HL0.out nq).setCell (p := ⟨b, 3, none⟩) (by rw [← HN.out]; exact Nat.le_refl _) _)
          generalize ((W.drewN nq).setCell ⟨b, 3, none⟩ (.int .i64 b3)) = V at HA1 HB1 HZ1 HL1 ⊢
          clear HA0 HB0 HZ0 HL0 x0 x1 x2 x3 y0 y1 y2 y3 fz
          have HA0 := HA1
          have HB0 := HB1
          have HZ0 := HZ1
          have HL0 := HL1
          clear HA1 HB1 HZ1 HL1
          obtain ⟨W, hW⟩ : ∃ W, W = V := ⟨_, rfl⟩
          rw [← hW] at HA0 HB0 HZ0 HL0 ⊢
          clear hW
          rw [rounds_succ]
          have x0 : W.cell? ⟨b, 0, none⟩ = some (.int .i64 b0) := rowAt_cell HA0.out 0
          have y0 : W.cell? ⟨b + 1, 0, none⟩ = some (.int .i64 b0) := rowAt_cell HB0.out 0
          have x1 : W.cell? ⟨b, 1, none⟩ = some (.int .i64 a1) := rowAt_cell HA0.out 1
          have y1 : W.cell? ⟨b + 1, 1, none⟩ = some (.int .i64 b1) := rowAt_cell HB0.out 1
          have x2 : W.cell? ⟨b, 2, none⟩ = some (.int .i64 a2) := rowAt_cell HA0.out 2
          have y2 : W.cell? ⟨b + 1, 2, none⟩ = some (.int .i64 b2) := rowAt_cell HB0.out 2
          have x3 : W.cell? ⟨b, 3, none⟩ = some (.int .i64 b3) := rowAt_cell HA0.out 3
          have y3 : W.cell? ⟨b + 1, 3, none⟩ = some (.int .i64 b3) := rowAt_cell HB0.out 3
          have z0 : W.cell? ⟨b + 1 + 1, 0, none⟩ = some (.int .i64 0) := rowAt_cell HZ0.out 0
          have g0 : W.frozen? ⟨b + 1 + 1, 0, none⟩ = false := rowAt_frz HZ0.out 0
          have z1 : W.cell? ⟨b + 1 + 1, 1, none⟩ = some (.int .i64 0) := rowAt_cell HZ0.out 1
          have g1 : W.frozen? ⟨b + 1 + 1, 1, none⟩ = false := rowAt_frz HZ0.out 1
          have z2 : W.cell? ⟨b + 1 + 1, 2, none⟩ = some (.int .i64 0) := rowAt_cell HZ0.out 2
          have g2 : W.frozen? ⟨b + 1 + 1, 2, none⟩ = false := rowAt_frz HZ0.out 2
          have z3 : W.cell? ⟨b + 1 + 1, 3, none⟩ = some (.int .i64 0) := rowAt_cell HZ0.out 3
          have g3 : W.frozen? ⟨b + 1 + 1, 3, none⟩ = false := rowAt_frz HZ0.out 3
          go_wp2
          exact bodyPost_ret (v := ck b0 a1 a2 b3) (by simp [results, Try.results9, go_sem, ck, z0, z1, z2, z3]) rfl ⟨rfl, ((((HL0.out.setCell (p := ⟨b + 1 + 1, 0, none⟩) (by rw [← HN.out]; show b ≤ b + 1 + 1; omega) _).setCell (p := ⟨b + 1 + 1, 1, none⟩) (by rw [← HN.out]; show b ≤ b + 1 + 1; omega) _).setCell (p := ⟨b + 1 + 1, 2, none⟩) (by rw [← HN.out]; show b ≤ b + 1 + 1; omega) _).setCell (p := ⟨b + 1 + 1, 3, none⟩) (by rw [← HN.out]; show b ≤ b + 1 + 1; omega) _)⟩
      · go_wp2
        have HA1 : Hid (rowAt ((W.drewN nq).setCell ⟨b, 2, none⟩ (.int .i64 b2)) b = some #[.int .i64 b0, .int .i64 a1, .int .i64 b2, .int .i64 a3]) := Lib.hid (rowAt_set (w := W.drewN nq) HA0.out 2 (.int .i64 b2))
        have HB1 : Hid (rowAt ((W.drewN nq).setCell ⟨b, 2, none⟩ (.int .i64 b2)) (b + 1) = some #[.int .i64 b0, .int .i64 b1, .int .i64 b2, .int .i64 b3]) := Lib.hid (rowAt_set_far (w := W.drewN nq) HB0.out (by omega) _ _)
        have HZ1 : Hid (rowAt ((W.drewN nq).setCell ⟨b, 2, none⟩ (.int .i64 b2)) (b + 1 + 1) = some #[.int .i64 0, .int .i64 0, .int .i64 0, .int .i64 0]) := Lib.hid (rowAt_set_far (w := W.drewN nq) HZ0.out (by omega) _ _)
        have HL1 : Hid (Below w.heap.size w ((W.drewN nq).setCell ⟨b, 2, none⟩ (.int .i64 b2))) := Lib.hid ((below_drewN HL0.out nq).setCell (p := ⟨b, 2, none⟩) (by rw [← HN.out]; exact Nat.le_refl _) _)
        generalize ((W.drewN nq).setCell ⟨b, 2, none⟩ (.int .i64 b2)) = V at HA1 HB1 HZ1 HL1 ⊢
        clear HA0 HB0 HZ0 HL0 x0 x1 x2 x3 y0 y1 y2 y3 fz
        have HA0 := HA1
        have HB0 := HB1
        have HZ0 := HZ1
        have HL0 := HL1
        clear HA1 HB1 HZ1 HL1
        obtain ⟨W, hW⟩ : ∃ W, W = V := ⟨_, rfl⟩
        rw [← hW] at HA0 HB0 HZ0 HL0 ⊢
        clear hW
        rw [rounds_succ]
        have x0 : W.cell? ⟨b, 0, none⟩ = some (.int .i64 b0) := rowAt_cell HA0.out 0
        have y0 : W.cell? ⟨b + 1, 0, none⟩ = some (.int .i64 b0) := rowAt_cell HB0.out 0
        have x1 : W.cell? ⟨b, 1, none⟩ = some (.int .i64 a1) := rowAt_cell HA0.out 1
        have y1 : W.cell? ⟨b + 1, 1, none⟩ = some (.int .i64 b1) := rowAt_cell HB0.out 1
        have x2 : W.cell? ⟨b, 2, none⟩ = some (.int .i64 b2) := rowAt_cell HA0.out 2
        have y2 : W.cell? ⟨b + 1, 2, none⟩ = some (.int .i64 b2) := rowAt_cell HB0.out 2
        have x3 : W.cell? ⟨b, 3, none⟩ = some (.int .i64 a3) := rowAt_cell HA0.out 3
        have y3 : W.cell? ⟨b + 1, 3, none⟩ = some (.int .i64 b3) := rowAt_cell HB0.out 3
        have fz : W.frozen? ⟨b, 3, none⟩ = false := rowAt_frz HA0.out 3
        go_wp2
        go_quiet (fail)
        cases p3
        · go_wp2
          have HA1 : Hid (rowAt (W.drewN nq) b = some #[.int .i64 b0, .int .i64 a1, .int .i64 b2, .int .i64 a3]) := HA0
          have HB1 : Hid (rowAt (W.drewN nq) (b + 1) = some #[.int .i64 b0, .int .i64 b1, .int .i64 b2, .int .i64 b3]) := HB0
          have HZ1 : Hid (rowAt (W.drewN nq) (b + 1 + 1) = some #[.int .i64 0, .int .i64 0, .int .i64 0, .int .i64 0]) := HZ0
          have HL1 : Hid (Below w.heap.size w (W.drewN nq)) := Lib.hid (below_drewN HL0.out nq)
          generalize (W.drewN nq) = V at HA1 HB1 HZ1 HL1 ⊢
          clear HA0 HB0 HZ0 HL0 x0 x1 x2 x3 y0 y1 y2 y3 fz
          have HA0 := HA1
          have HB0 := HB1
          have HZ0 := HZ1
          have HL0 := HL1
          clear HA1 HB1 HZ1 HL1
          obtain ⟨W, hW⟩ : ∃ W, W = V := ⟨_, rfl⟩
          rw [← hW] at HA0 HB0 HZ0 HL0 ⊢
          clear hW
          rw [rounds_succ]
          have x0 : W.cell? ⟨b, 0, none⟩ = some (.int .i64 b0) := rowAt_cell HA0.out 0
          have y0 : W.cell? ⟨b + 1, 0, none⟩ = some (.int .i64 b0) := rowAt_cell HB0.out 0
          have x1 : W.cell? ⟨b, 1, none⟩ = some (.int .i64 a1) := rowAt_cell HA0.out 1
          have y1 : W.cell? ⟨b + 1, 1, none⟩ = some (.int .i64 b1) := rowAt_cell HB0.out 1
          have x2 : W.cell? ⟨b, 2, none⟩ = some (.int .i64 b2) := rowAt_cell HA0.out 2
          have y2 : W.cell? ⟨b + 1, 2, none⟩ = some (.int .i64 b2) := rowAt_cell HB0.out 2
          have x3 : W.cell? ⟨b, 3, none⟩ = some (.int .i64 a3) := rowAt_cell HA0.out 3
          have y3 : W.cell? ⟨b + 1, 3, none⟩ = some (.int .i64 b3) := rowAt_cell HB0.out 3
          have z0 : W.cell? ⟨b + 1 + 1, 0, none⟩ = some (.int .i64 0) := rowAt_cell HZ0.out 0
          have g0 : W.frozen? ⟨b + 1 + 1, 0, none⟩ = false := rowAt_frz HZ0.out 0
          have z1 : W.cell? ⟨b + 1 + 1, 1, none⟩ = some (.int .i64 0) := rowAt_cell HZ0.out 1
          have g1 : W.frozen? ⟨b + 1 + 1, 1, none⟩ = false := rowAt_frz HZ0.out 1
          have z2 : W.cell? ⟨b + 1 + 1, 2, none⟩ = some (.int .i64 0) := rowAt_cell HZ0.out 2
          have g2 : W.frozen? ⟨b + 1 + 1, 2, none⟩ = false := rowAt_frz HZ0.out 2
          have z3 : W.cell? ⟨b + 1 + 1, 3, none⟩ = some (.int .i64 0) := rowAt_cell HZ0.out 3
          have g3 : W.frozen? ⟨b + 1 + 1, 3, none⟩ = false := rowAt_frz HZ0.out 3
          go_wp2
          exact bodyPost_ret (v := ck b0 a1 b2 a3) (by simp [results, Try.results9, go_sem, ck, z0, z1, z2, z3]) rfl ⟨rfl, ((((HL0.out.setCell (p := ⟨b + 1 + 1, 0, none⟩) (by rw [← HN.out]; show b ≤ b + 1 + 1; omega) _).setCell (p := ⟨b + 1 + 1, 1, none⟩) (by rw [← HN.out]; show b ≤ b + 1 + 1; omega) _).setCell (p := ⟨b + 1 + 1, 2, none⟩) (by rw [← HN.out]; show b ≤ b + 1 + 1; omega) _).setCell (p := ⟨b + 1 + 1, 3, none⟩) (by rw [← HN.out]; show b ≤ b + 1 + 1; omega) _)⟩
        · go_wp2
          have HA1 : Hid (rowAt ((W.drewN nq).setCell ⟨b, 3, none⟩ (.int .i64 b3)) b = some #[.int .i64 b0, .int .i64 a1, .int .i64 b2, .int .i64 b3]) := Lib.hid (rowAt_set (w := W.drewN nq) HA0.out 3 (.int .i64 b3))
          have HB1 : Hid (rowAt ((W.drewN nq).setCell ⟨b, 3, none⟩ (.int .i64 b3)) (b + 1) = some #[.int .i64 b0, .int .i64 b1, .int .i64 b2, .int .i64 b3]) := Lib.hid (rowAt_set_far (w := W.drewN nq) HB0.out (by omega) _ _)
          have HZ1 : Hid (rowAt ((W.drewN nq).setCell ⟨b, 3, none⟩ (.int .i64 b3)) (b + 1 + 1) = some #[.int .i64 0, .int .i64 0, .int .i64 0, .int .i64 0]) := Lib.hid (rowAt_set_far (w := W.drewN nq) HZ0.out (by omega) _ _)
          have HL1 : Hid (Below w.heap.size w ((W.drewN nq).setCell ⟨b, 3, none⟩ (.int .i64 b3))) := Lib.hid ((below_drewN HL0.out nq).setCell (p := ⟨b, 3, none⟩) (by rw [← HN.out]; exact Nat.le_refl _) _)
          generalize ((W.drewN nq).setCell ⟨b, 3, none⟩ (.int .i64 b3)) = V at HA1 HB1 HZ1 HL1 ⊢
          clear HA0 HB0 HZ0 HL0 x0 x1 x2 x3 y0 y1 y2 y3 fz
          have HA0 := HA1
          have HB0 := HB1
          have HZ0 := HZ1
          have HL0 := HL1
          clear HA1 HB1 HZ1 HL1
          obtain ⟨W, hW⟩ : ∃ W, W = V := ⟨_, rfl⟩
          rw [← hW] at HA0 HB0 HZ0 HL0 ⊢
          clear hW
          rw [rounds_succ]
          have x0 : W.cell? ⟨b, 0, none⟩ = some (.int .i64 b0) := rowAt_cell HA0.out 0
          have y0 : W.cell? ⟨b + 1, 0, none⟩ = some (.int .i64 b0) := rowAt_cell HB0.out 0
          have x1 : W.cell? ⟨b, 1, none⟩ = some (.int .i64 a1) := rowAt_cell HA0.out 1
          have y1 : W.cell? ⟨b + 1, 1, none⟩ = some (.int .i64 b1) := rowAt_cell HB0.out 1
          have x2 : W.cell? ⟨b, 2, none⟩ = some (.int .i64 b2) := rowAt_cell HA0.out 2
          have y2 : W.cell? ⟨b + 1, 2, none⟩ = some (.int .i64 b2) := rowAt_cell HB0.out 2
          have x3 : W.cell? ⟨b, 3, none⟩ = some (.int .i64 b3) := rowAt_cell HA0.out 3
          have y3 : W.cell? ⟨b + 1, 3, none⟩ = some (.int .i64 b3) := rowAt_cell HB0.out 3
          have z0 : W.cell? ⟨b + 1 + 1, 0, none⟩ = some (.int .i64 0) := rowAt_cell HZ0.out 0
          have g0 : W.frozen? ⟨b + 1 + 1, 0, none⟩ = false := rowAt_frz HZ0.out 0
          have z1 : W.cell? ⟨b + 1 + 1, 1, none⟩ = some (.int .i64 0) := rowAt_cell HZ0.out 1
          have g1 : W.frozen? ⟨b + 1 + 1, 1, none⟩ = false := rowAt_frz HZ0.out 1
          have z2 : W.cell? ⟨b + 1 + 1, 2, none⟩ = some (.int .i64 0) := rowAt_cell HZ0.out 2
          have g2 : W.frozen? ⟨b + 1 + 1, 2, none⟩ = false := rowAt_frz HZ0.out 2
          have z3 : W.cell? ⟨b + 1 + 1, 3, none⟩ = some (.int .i64 0) := rowAt_cell HZ0.out 3
          have g3 : W.frozen? ⟨b + 1 + 1, 3, none⟩ = false := rowAt_frz HZ0.out 3
          go_wp2
          exact bodyPost_ret (v := ck b0 a1 b2 b3) (by simp [results, Try.results9, go_sem, ck, z0, z1, z2, z3]) rfl ⟨rfl, ((((HL0.out.setCell (p := ⟨b + 1 + 1, 0, none⟩) (by rw [← HN.out]; show b ≤ b + 1 + 1; omega) _).setCell (p := ⟨b + 1 + 1, 1, none⟩) (by rw [← HN.out]; show b ≤ b + 1 + 1; omega) _).setCell (p := ⟨b + 1 + 1, 2, none⟩) (by rw [← HN.out]; show b ≤ b + 1 + 1; omega) _).setCell (p := ⟨b + 1 + 1, 3, none⟩) (by rw [← HN.out]; show b ≤ b + 1 + 1; omega) _)⟩
    · go_wp2
      have HA1 : Hid (rowAt ((W.drewN nq).setCell ⟨b, 1, none⟩ (.int .i64 b1)) b = some #[.int .i64 b0, .int .i64 b1, .int .i64 a2, .int .i64 a3]) := Lib.hid (rowAt_set (w := W.drewN nq) HA0.out 1 (.int .i64 b1))
      have HB1 : Hid (rowAt ((W.drewN nq).setCell ⟨b, 1, none⟩ (.int .i64 b1)) (b + 1) = some #[.int .i64 b0, .int .i64 b1, .int .i64 b2, .int .i64 b3]) := Lib.hid (rowAt_set_far (w := W.drewN nq) HB0.out (by omega) _ _)
      have HZ1 : Hid (rowAt ((W.drewN nq).setCell ⟨b, 1, none⟩ (.int .i64 b1)) (b + 1 + 1) = some #[.int .i64 0, .int .i64 0, .int .i64 0, .int .i64 0]) := Lib.hid (rowAt_set_far (w := W.drewN nq) HZ0.out (by omega) _ _)
      have HL1 : Hid (Below w.heap.size w ((W.drewN nq).setCell ⟨b, 1, none⟩ (.int .i64 b1))) := Lib.hid ((below_drewN HL0.out nq).setCell (p := ⟨b, 1, none⟩) (by rw [← HN.out]; exact Nat.le_refl _) _)
      generalize ((W.drewN nq).setCell ⟨b, 1, none⟩ (.int .i64 b1)) = V at HA1 HB1 HZ1 HL1 ⊢
      clear HA0 HB0 HZ0 HL0 x0 x1 x2 x3 y0 y1 y2 y3 fz
      have HA0 := HA1
      have HB0 := HB1
      have HZ0 := HZ1
      have HL0 := HL1
      clear HA1 HB1 HZ1 HL1
      obtain ⟨W, hW⟩ : ∃ W, W = V := ⟨_, rfl⟩
      rw [← hW] at HA0 HB0 HZ0 HL0 ⊢
      clear hW
      rw [rounds_succ]
      have x0 : W.cell? ⟨b, 0, none⟩ = some (.int .i64 b0) := rowAt_cell HA0.out 0
      have y0 : W.cell? ⟨b + 1, 0, none⟩ = some (.int .i64 b0) := rowAt_cell HB0.out 0
      have x1 : W.cell? ⟨b, 1, none⟩ = some (.int .i64 b1) := rowAt_cell HA0.out 1
      have y1 : W.cell? ⟨b + 1, 1, none⟩ = some (.int .i64 b1) := rowAt_cell HB0.out 1
      have x2 : W.cell? ⟨b, 2, none⟩ = some (.int .i64 a2) := rowAt_cell HA0.out 2
      have y2 : W.cell? ⟨b + 1, 2, none⟩ = some (.int .i64 b2) := rowAt_cell HB0.out 2
      have x3 : W.cell? ⟨b, 3, none⟩ = some (.int .i64 a3) := rowAt_cell HA0.out 3
      have y3 : W.cell? ⟨b + 1, 3, none⟩ = some (.int .i64 b3) := rowAt_cell HB0.out 3
      have fz : W.frozen? ⟨b, 2, none⟩ = false := rowAt_frz HA0.out 2
      go_wp2
      go_quiet (fail)
      cases p2
      · go_wp2
        have HA1 : Hid (rowAt (W.drewN nq) b = some #[.int .i64 b0, .int .i64 b1, .int .i64 a2, .int .i64 a3]) := HA0
        have HB1 : Hid (rowAt (W.drewN nq) (b + 1) = some #[.int .i64 b0, .int .i64 b1, .int .i64 b2, .int .i64 b3]) := HB0
        have HZ1 : Hid (rowAt (W.drewN nq) (b + 1 + 1) = some #[.int .i64 0, .int .i64 0, .int .i64 0, .int .i64 0]) := HZ0
        have HL1 : Hid (Below w.heap.size w (W.drewN nq)) := Lib.hid (below_drewN HL0.out nq)
        generalize (W.drewN nq) = V at HA1 HB1 HZ1 HL1 ⊢
        clear HA0 HB0 HZ0 HL0 x0 x1 x2 x3 y0 y1 y2 y3 fz
        have HA0 := HA1
        have HB0 := HB1
        have HZ0 := HZ1
        have HL0 := HL1
        clear HA1 HB1 HZ1 HL1
        obtain ⟨W, hW⟩ : ∃ W, W = V := ⟨_, rfl⟩
        rw [← hW] at HA0 HB0 HZ0 HL0 ⊢
        clear hW
        rw [rounds_succ]
        have x0 : W.cell? ⟨b, 0, none⟩ = some (.int .i64 b0) := rowAt_cell HA0.out 0
        have y0 : W.cell? ⟨b + 1, 0, none⟩ = some (.int .i64 b0) := rowAt_cell HB0.out 0
        have x1 : W.cell? ⟨b, 1, none⟩ = some (.int .i64 b1) := rowAt_cell HA0.out 1
        have y1 : W.cell? ⟨b + 1, 1, none⟩ = some (.int .i64 b1) := rowAt_cell HB0.out 1
        have x2 : W.cell? ⟨b, 2, none⟩ = some (.int .i64 a2) := rowAt_cell HA0.out 2
        have y2 : W.cell? ⟨b + 1, 2, none⟩ = some (.int .i64 b2) := rowAt_cell HB0.out 2
        have x3 : W.cell? ⟨b, 3, none⟩ = some (.int .i64 a3) := rowAt_cell HA0.out 3
        have y3 : W.cell? ⟨b + 1, 3, none⟩ = some (.int .i64 b3) := rowAt_cell HB0.out 3
        have fz : W.frozen? ⟨b, 3, none⟩ = false := rowAt_frz HA0.out 3
        go_wp2
        go_quiet (fail)
        cases p3
        · go_wp2
          have HA1 : Hid (rowAt (W.drewN nq) b = some #[.int .i64 b0, .int .i64 b1, .int .i64 a2, .int .i64 a3]) := HA0
          have HB1 : Hid (rowAt (W.drewN nq) (b + 1) = some #[.int .i64 b0, .int .i64 b1, .int .i64 b2, .int .i64 b3]) := HB0
          have HZ1 : Hid (rowAt (W.drewN nq) (b + 1 + 1) = some #[.int .i64 0, .int .i64 0, .int .i64 0, .int .i64 0]) := HZ0
          have HL1 : Hid (Below w.heap.size w (W.drewN nq)) := Lib.hid (below_drewN HL0.out nq)
          generalize (W.drewN nq) = V at HA1 HB1 HZ1 HL1 ⊢
          clear HA0 HB0 HZ0 HL0 x0 x1 x2 x3 y0 y1 y2 y3 fz
          have HA0 := HA1
          have HB0 := HB1
          have HZ0 := HZ1
          have HL0 := HL1
          clear HA1 HB1 HZ1 HL1
          obtain ⟨W, hW⟩ : ∃ W, W = V := ⟨_, rfl⟩
          rw [← hW] at HA0 HB0 HZ0 HL0 ⊢
          clear hW
          rw [rounds_succ]
          have x0 : W.cell? ⟨b, 0, none⟩ = some (.int .i64 b0) := rowAt_cell HA0.out 0
          have y0 : W.cell? ⟨b + 1, 0, none⟩ = some (.int .i64 b0) := rowAt_cell HB0.out 0
          have x1 : W.cell? ⟨b, 1, none⟩ = some (.int .i64 b1) := rowAt_cell HA0.out 1
          have y1 : W.cell? ⟨b + 1, 1, none⟩ = some (.int .i64 b1) := rowAt_cell HB0.out 1
          have x2 : W.cell? ⟨b, 2, none⟩ = some (.int .i64 a2) := rowAt_cell HA0.out 2
          have y2 : W.cell? ⟨b + 1, 2, none⟩ = some (.int .i64 b2) := rowAt_cell HB0.out 2
          have x3 : W.cell? ⟨b, 3, none⟩ = some (.int .i64 a3) := rowAt_cell HA0.out 3
          have y3 : W.cell? ⟨b + 1, 3, none⟩ = some (.int .i64 b3) := rowAt_cell HB0.out 3
          have z0 : W.cell? ⟨b + 1 + 1, 0, none⟩ = some (.int .i64 0) := rowAt_cell HZ0.out 0
          have g0 : W.frozen? ⟨b + 1 + 1, 0, none⟩ = false := rowAt_frz HZ0.out 0
          have z1 : W.cell? ⟨b + 1 + 1, 1, none⟩ = some (.int .i64 0) := rowAt_cell HZ0.out 1
          have g1 : W.frozen? ⟨b + 1 + 1, 1, none⟩ = false := rowAt_frz HZ0.out 1
          have z2 : W.cell? ⟨b + 1 + 1, 2, none⟩ = some (.int .i64 0) := rowAt_cell HZ0.out 2
          have g2 : W.frozen? ⟨b + 1 + 1, 2, none⟩ = false := rowAt_frz HZ0.out 2
          have z3 : W.cell? ⟨b + 1 + 1, 3, none⟩ = some (.int .i64 0) := rowAt_cell HZ0.out 3
          have g3 : W.frozen? ⟨b + 1 + 1, 3, none⟩ = false := rowAt_frz HZ0.out 3
          go_wp2
          exact bodyPost_ret (v := ck b0 b1 a2 a3) (by simp [results, Try.results9, go_sem, ck, z0, z1, z2, z3]) rfl ⟨rfl, ((((HL0.out.setCell (p := ⟨b + 1 + 1, 0, none⟩) (by rw [← HN.out]; show b ≤ b + 1 + 1; omega) _).setCell (p := ⟨b + 1 + 1, 1, none⟩) (by rw [← HN.out]; show b ≤ b + 1 + 1; omega) _).setCell (p := ⟨b + 1 + 1, 2, none⟩) (by rw [← HN.out]; show b ≤ b + 1 + 1; omega) _).setCell (p := ⟨b + 1 + 1, 3, none⟩) (by rw [← HN.out]; show b ≤ b + 1 + 1; omega) _)⟩
        · go_wp2
          have HA1 : Hid (rowAt ((W.drewN nq).setCell ⟨b, 3, none⟩ (.int .i64 b3)) b = some #[.int .i64 b0, .int .i64 b1, .int .i64 a2, .int .i64 b3]) := Lib.hid (rowAt_set (w := W.drewN nq) HA0.out 3 (.int .i64 b3))
          have HB1 : Hid (rowAt ((W.drewN nq).setCell ⟨b, 3, none⟩ (.int .i64 b3)) (b + 1) = some #[.int .i64 b0, .int .i64 b1, .int .i64 b2, .int .i64 b3]) := Lib.hid (rowAt_set_far (w := W.drewN nq) HB0.out (by omega) _ _)
          have HZ1 : Hid (rowAt ((W.drewN nq).setCell ⟨b, 3, none⟩ (.int .i64 b3)) (b + 1 + 1) = some #[.int .i64 0, .int .i64 0, .int .i64 0, .int .i64 0]) := Lib.hid (rowAt_set_far (w := W.drewN nq) HZ0.out (by omega) _ _)
          have HL1 : Hid (Below w.heap.size w ((W.drewN nq).setCell ⟨b, 3, none⟩ (.int .i64 b3))) := Lib.hid ((below_drewN HL0.out nq).setCell (p := ⟨b, 3, none⟩) (by rw [← HN.out]; exact Nat.le_refl _) _)
          generalize ((W.drewN nq).setCell ⟨b, 3, none⟩ (.int .i64 b3)) = V at HA1 HB1 HZ1 HL1 ⊢
          clear HA0 HB0 HZ0 HL0 x0 x1 x2 x3 y0 y1 y2 y3 fz
          have HA0 := HA1
          have HB0 := HB1
          have HZ0 := HZ1
          have HL0 := HL1
          clear HA1 HB1 HZ1 HL1
          obtain ⟨W, hW⟩ : ∃ W, W = V := ⟨_, rfl⟩
          rw [← hW] at HA0 HB0 HZ0 HL0 ⊢
          clear hW
          rw [rounds_succ]
          have x0 : W.cell? ⟨b, 0, none⟩ = some (.int .i64 b0) := rowAt_cell HA0.out 0
          have y0 : W.cell? ⟨b + 1, 0, none⟩ = some (.int .i64 b0) := rowAt_cell HB0.out 0
          have x1 : W.cell? ⟨b, 1, none⟩ = some (.int .i64 b1) := rowAt_cell HA0.out 1
          have y1 : W.cell? ⟨b + 1, 1, none⟩ = some (.int .i64 b1) := rowAt_cell HB0.out 1
          have x2 : W.cell? ⟨b, 2, none⟩ = some (.int .i64 a2) := rowAt_cell HA0.out 2
          have y2 : W.cell? ⟨b + 1, 2, none⟩ = some (.int .i64 b2) := rowAt_cell HB0.out 2
          have x3 : W.cell? ⟨b, 3, none⟩ = some (.int .i64 b3) := rowAt_cell HA0.out 3
          have y3 : W.cell? ⟨b + 1, 3, none⟩ = some (.int .i64 b3) := rowAt_cell HB0.out 3
          have z0 : W.cell? ⟨b + 1 + 1, 0, none⟩ = some (.int .i64 0) := rowAt_cell HZ0.out 0
          have g0 : W.frozen? ⟨b + 1 + 1, 0, none⟩ = false := rowAt_frz HZ0.out 0
          have z1 : W.cell? ⟨b + 1 + 1, 1, none⟩ = some (.int .i64 0) := rowAt_cell HZ0.out 1
          have g1 : W.frozen? ⟨b + 1 + 1, 1, none⟩ = false := rowAt_frz HZ0.out 1
          have z2 : W.cell? ⟨b + 1 + 1, 2, none⟩ = some (.int .i64 0) := rowAt_cell HZ0.out 2
          have g2 : W.frozen? ⟨b + 1 + 1, 2, none⟩ = false := rowAt_frz HZ0.out 2
          have z3 : W.cell? ⟨b + 1 + 1, 3, none⟩ = some (.int .i64 0) := rowAt_cell HZ0.out 3
          have g3 : W.frozen? ⟨b + 1 + 1, 3, none⟩ = false := rowAt_frz HZ0.out 3
          go_wp2
          exact bodyPost_ret (v := ck b0 b1 a2 b3) (by simp [results, Try.results9, go_sem, ck, z0, z1, z2, z3]) rfl ⟨rfl, ((((HL0.out.setCell (p := ⟨b + 1 + 1, 0, none⟩) (by rw [← HN.out]; show b ≤ b + 1 + 1; omega) _).setCell (p := ⟨b + 1 + 1, 1, none⟩) (by rw [← HN.out]; show b ≤ b + 1 + 1; omega) _).setCell (p := ⟨b + 1 + 1, 2, none⟩) (by rw [← HN.out]; show b ≤ b + 1 + 1; omega) _).setCell (p := ⟨b + 1 + 1, 3, none⟩) (by rw [← HN.out]; show b ≤ b + 1 + 1; omega) _)⟩
      · go_wp2
        have HA1 : Hid (rowAt ((W.drewN nq).setCell ⟨b, 2, none⟩ (.int .i64 b2)) b = some #[.int .i64 b0, .int .i64 b1, .int .i64 b2, .int .i64 a3]) := Lib.hid (rowAt_set (w := W.drewN nq) HA0.out 2 (.int .i64 b2))
        have HB1 : Hid (rowAt ((W.drewN nq).setCell ⟨b, 2, none⟩ (.int .i64 b2)) (b + 1) = some #[.int .i64 b0, .int .i64 b1, .int .i64 b2, .int .i64 b3]) := Lib.hid (rowAt_set_far (w := W.drewN nq) HB0.out (by omega) _ _)
        have HZ1 : Hid (rowAt ((W.drewN nq).setCell ⟨b, 2, none⟩ (.int .i64 b2)) (b + 1 + 1) = some #[.int .i64 0, .int .i64 0, .int .i64 0, .int .i64 0]) := Lib.hid (rowAt_set_far (w := W.drewN nq) HZ0.out (by omega) _ _)
        have HL1 : Hid (Below w.heap.size w ((W.drewN nq).setCell ⟨b, 2, none⟩ (.int .i64 b2))) := Lib.hid ((below_drewN HL0.out nq).setCell (p := ⟨b, 2, none⟩) (by rw [← HN.out]; exact Nat.le_refl _) _)
        generalize ((W.drewN nq).setCell ⟨b, 2, none⟩ (.int .i64 b2)) = V at HA1 HB1 HZ1 HL1 ⊢
        clear HA0 HB0 HZ0 HL0 x0 x1 x2 x3 y0 y1 y2 y3 fz
        have HA0 := HA1
        have HB0 := HB1
        have HZ0 := HZ1
        have HL0 := HL1
        clear HA1 HB1 HZ1 HL1
        obtain ⟨W, hW⟩ : ∃ W, W = V := ⟨_, rfl⟩
        rw [← hW] at HA0 HB0 HZ0 HL0 ⊢
        clear hW
        rw [rounds_succ]
        have x0 : W.cell? ⟨b, 0, none⟩ = some (.int .i64 b0) := rowAt_cell HA0.out 0
        have y0 : W.cell? ⟨b + 1, 0, none⟩ = some (.int .i64 b0) := rowAt_cell HB0.out 0
        have x1 : W.cell? ⟨b, 1, none⟩ = some (.int .i64 b1) := rowAt_cell HA0.out 1
        have y1 : W.cell? ⟨b + 1, 1, none⟩ = some (.int .i64 b1) := rowAt_cell HB0.out 1
        have x2 : W.cell? ⟨b, 2, none⟩ = some (.int .i64 b2) := rowAt_cell HA0.out 2
        have y2 : W.cell? ⟨b + 1, 2, none⟩ = some (.int .i64 b2) := rowAt_cell HB0.out 2
        have x3 : W.cell? ⟨b, 3, none⟩ = some (.int .i64 a3) := rowAt_cell HA0.out 3
        have y3 : W.cell? ⟨b + 1, 3, none⟩ = some (.int .i64 b3) := rowAt_cell HB0.out 3
        have fz : W.frozen? ⟨b, 3, none⟩ = false := rowAt_frz HA0.out 3
        go_wp2
        go_quiet (fail)
        cases p3
        · go_wp2
          have HA1 : Hid (rowAt (W.drewN nq) b = some #[.int .i64 b0, .int .i64 b1, .int .i64 b2, .int .i64 a3]) := HA0
          have HB1 : Hid (rowAt (W.drewN nq) (b + 1) = some #[.int .i64 b0, .int .i64 b1, .int .i64 b2, .int .i64 b3]) := HB0
          have HZ1 : Hid (rowAt (W.drewN nq) (b + 1 + 1) = some #[.int .i64 0, .int .i64 0, .int .i64 0, .int .i64 0]) := HZ0
          have HL1 : Hid (Below w.heap.size w (W.drewN nq)) := Lib.hid (below_drewN HL0.out nq)
          generalize (W.drewN nq) = V at HA1 HB1 HZ1 HL1 ⊢
          clear HA0 HB0 HZ0 HL0 x0 x1 x2 x3 y0 y1 y2 y3 fz
          have HA0 := HA1
          have HB0 := HB1
          have HZ0 := HZ1
          have HL0 := HL1
          clear HA1 HB1 HZ1 HL1
          obtain ⟨W, hW⟩ : ∃ W, W = V := ⟨_, rfl⟩
          rw [← hW] at HA0 HB0 HZ0 HL0 ⊢
          clear hW
          rw [rounds_succ]
          have x0 : W.cell? ⟨b, 0, none⟩ = some (.int .i64 b0) := rowAt_cell HA0.out 0
          have y0 : W.cell? ⟨b + 1, 0, none⟩ = some (.int .i64 b0) := rowAt_cell HB0.out 0
          have x1 : W.cell? ⟨b, 1, none⟩ = some (.int .i64 b1) := rowAt_cell HA0.out 1
          have y1 : W.cell? ⟨b + 1, 1, none⟩ = some (.int .i64 b1) := rowAt_cell HB0.out 1
          have x2 : W.cell? ⟨b, 2, none⟩ = some (.int .i64 b2) := rowAt_cell HA0.out 2
          have y2 : W.cell? ⟨b + 1, 2, none⟩ = some (.int .i64 b2) := rowAt_cell HB0.out 2
          have x3 : W.cell? ⟨b, 3, none⟩ = some (.int .i64 a3) := rowAt_cell HA0.out 3
          have y3 : W.cell? ⟨b + 1, 3, none⟩ = some (.int .i64 b3) := rowAt_cell HB0.out 3
          have z0 : W.cell? ⟨b + 1 + 1, 0, none⟩ = some (.int .i64 0) := rowAt_cell HZ0.out 0
          have g0 : W.frozen? ⟨b + 1 + 1, 0, none⟩ = false := rowAt_frz HZ0.out 0
          have z1 : W.cell? ⟨b + 1 + 1, 1, none⟩ = some (.int .i64 0) := rowAt_cell HZ0.out 1
          have g1 : W.frozen? ⟨b + 1 + 1, 1, none⟩ = false := rowAt_frz HZ0.out 1
          have z2 : W.cell? ⟨b + 1 + 1, 2, none⟩ = some (.int .i64 0) := rowAt_cell HZ0.out 2
          have g2 : W.frozen? ⟨b + 1 + 1, 2, none⟩ = false := rowAt_frz HZ0.out 2
          have z3 : W.cell? ⟨b + 1 + 1, 3, none⟩ = some (.int .i64 0) := rowAt_cell HZ0.out 3
          have g3 : W.frozen? ⟨b + 1 + 1, 3, none⟩ = false := rowAt_frz HZ0.out 3
          go_wp2
          exact bodyPost_ret (v := ck b0 b1 b2 a3) (by simp [results, Try.results9, go_sem, ck, z0, z1, z2, z3]) rfl ⟨rfl, ((((HL0.out.setCell (p := ⟨b + 1 + 1, 0, none⟩) (by rw [← HN.out]; show b ≤ b + 1 + 1; omega) _).setCell (p := ⟨b + 1 + 1, 1, none⟩) (by rw [← HN.out]; show b ≤ b + 1 + 1; omega) _).setCell (p := ⟨b + 1 + 1, 2, none⟩) (by rw [← HN.out]; show b ≤ b + 1 + 1; omega) _).setCell (p := ⟨b + 1 + 1, 3, none⟩) (by rw [← HN.out]; show b ≤ b + 1 + 1; omega) _)⟩
        · go_wp2
          have HA1 : Hid (rowAt ((W.drewN nq).setCell ⟨b, 3, none⟩ (.int .i64 b3)) b = some #[.int .i64 b0, .int .i64 b1, .int .i64 b2, .int .i64 b3]) := Lib.hid (rowAt_set (w := W.drewN nq) HA0.out 3 (.int .i64 b3))
          have HB1 : Hid (rowAt ((W.drewN nq).setCell ⟨b, 3, none⟩ (.int .i64 b3)) (b + 1) = some #[.int .i64 b0, .int .i64 b1, .int .i64 b2, .int .i64 b3]) := Lib.hid (rowAt_set_far (w := W.drewN nq) HB0.out (by omega) _ _)
          have HZ1 : Hid (rowAt ((W.drewN nq).setCell ⟨b, 3, none⟩ (.int .i64 b3)) (b + 1 + 1) = some #[.int .i64 0, .int .i64 0, .int .i64 0, .int .i64 0]) := Lib.hid (rowAt_set_far (w := W.drewN nq) HZ0.out (by omega) _ _)
          have HL1 : Hid (Below w.heap.size w ((W.drewN nq).setCell ⟨b, 3, none⟩ (.int .i64 b3))) := Lib.hid ((below_drewN HL0.out nq).setCell (p := ⟨b, 3, none⟩) (by rw [← HN.out]; exact Nat.le_refl _) _)
          generalize ((W.drewN nq).setCell ⟨b, 3, none⟩ (.int .i64 b3)) = V at HA1 HB1 HZ1 HL1 ⊢
          clear HA0 HB0 HZ0 HL0 x0 x1 x2 x3 y0 y1 y2 y3 fz
          have HA0 := HA1
          have HB0 := HB1
          have HZ0 := HZ1
          have HL0 := HL1
          clear HA1 HB1 HZ1 HL1
          obtain ⟨W, hW⟩ : ∃ W, W = V := ⟨_, rfl⟩
          rw [← hW] at HA0 HB0 HZ0 HL0 ⊢
          clear hW
          rw [rounds_succ]
          have x0 : W.cell? ⟨b, 0, none⟩ = some (.int .i64 b0) := rowAt_cell HA0.out 0
          have y0 : W.cell? ⟨b + 1, 0, none⟩ = some (.int .i64 b0) := rowAt_cell HB0.out 0
          have x1 : W.cell? ⟨b, 1, none⟩ = some (.int .i64 b1) := rowAt_cell HA0.out 1
          have y1 : W.cell? ⟨b + 1, 1, none⟩ = some (.int .i64 b1) := rowAt_cell HB0.out 1
          have x2 : W.cell? ⟨b, 2, none⟩ = some (.int .i64 b2) := rowAt_cell HA0.out 2
          have y2 : W.cell? ⟨b + 1, 2, none⟩ = some (.int .i64 b2) := rowAt_cell HB0.out 2
          have x3 : W.cell? ⟨b, 3, none⟩ = some (.int .i64 b3) := rowAt_cell HA0.out 3
          have y3 : W.cell? ⟨b + 1, 3, none⟩ = some (.int .i64 b3) := rowAt_cell HB0.out 3
          have z0 : W.cell? ⟨b + 1 + 1, 0, none⟩ = some (.int .i64 0) := rowAt_cell HZ0.out 0
          have g0 : W.frozen? ⟨b + 1 + 1, 0, none⟩ = false := rowAt_frz HZ0.out 0
          have z1 : W.cell? ⟨b + 1 + 1, 1, none⟩ = some (.int .i64 0) := rowAt_cell HZ0.out 1
          have g1 : W.frozen? ⟨b + 1 + 1, 1, none⟩ = false := rowAt_frz HZ0.out 1
          have z2 : W.cell? ⟨b + 1 + 1, 2, none⟩ = some (.int .i64 0) := rowAt_cell HZ0.out 2
          have g2 : W.frozen? ⟨b + 1 + 1, 2, none⟩ = false := rowAt_frz HZ0.out 2
          have z3 : W.cell? ⟨b + 1 + 1, 3, none⟩ = some (.int .i64 0) := rowAt_cell HZ0.out 3
          have g3 : W.frozen? ⟨b + 1 + 1, 3, none⟩ = false := rowAt_frz HZ0.out 3
          go_wp2
          exact bodyPost_ret (v := ck b0 b1 b2 b3) (by simp [results, Try.results9, go_sem, ck, z0, z1, z2, z3]) rfl ⟨rfl, ((((HL0.out.setCell (p := ⟨b + 1 + 1, 0, none⟩) (by rw [← HN.out]; show b ≤ b + 1 + 1; omega) _).setCell (p := ⟨b + 1 + 1, 1, none⟩) (by rw [← HN.out]; show b ≤ b + 1 + 1; omega) _).setCell (p := ⟨b + 1 + 1, 2, none⟩) (by rw [← HN.out]; show b ≤ b + 1 + 1; omega) _).setCell (p := ⟨b + 1 + 1, 3, none⟩) (by rw [← HN.out]; show b ≤ b + 1 + 1; omega) _)⟩
end Go.Proofs.Ytnmgafaebggeiaa
