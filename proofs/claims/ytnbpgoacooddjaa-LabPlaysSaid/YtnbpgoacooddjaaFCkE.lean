import Derived.Test.YtnbpgoacooddjaaRows
import Derived.WalkKit
import Derived.ProofKit
import Derived.OpenShut
import Derived.Outline
import Derived.WalkSmall
import Derived.WalkLawsBesides
import Derived.WalkSpells
import Derived.BigGuardPart
import Derived.RegionTactic
import Derived.Lib.Hide
import Derived.Below
import Derived.Deep.RegionWith
import Derived.Deep.RegionHeld3
import Derived.Test.YtnbpgoacooddjaaFIs
import Derived.Test.YtnbpgoacooddjaaFCkP
import Derived.Test.YtnbpgoacooddjaaFCkB
import Derived.Test.YtnbpgoacooddjaaFCkC
import Derived.Test.YtnbpgoacooddjaaFCkD
namespace Go.Proofs.Ytnbpgoacooddjaa.Fr
open Go.ChangeShapes Go.WideShapes Go.ChangeAt Go.RowKit
set_option linter.unusedVariables false
theorem check_0 (d n m a c i : Int) (w : World) : Calls Try.prog 31 #[.agg #[.int .i64 0, .int .i64 d, .int .i64 n, .int .i64 m, .int .i64 a, .int .i64 c, .int .i64 i]] w fun e w' => e = .returned (.int .i64 (er (ok_0 d n m a c i))) ∧ Below w.heap.size w w' := by
  have h : (zs [d, n, m, a, c] && rgs d n m a 31 && wi c 0 15 && (wi i 0 65535)) = ok_0 d n m a c i := by
    rw [Bool.eq_iff_iff]; simp [zs, rgs, wi, ok_0]; try omega
  rw [← h]
  exact check_gen 0 d n m a c i 32 _ _ _ _ w (fun w => isop_y _ w (by decide) (by decide)) fields_0 (only_32 0 d n m a c i) (fun w => regs_any 0 d n m a c i w (by decide) (by decide)) (fun w => cond_any 0 d n m a c i w (by decide)) (imm_0 d n m a c i)
theorem check_1 (d n m a c i : Int) (w : World) : Calls Try.prog 31 #[.agg #[.int .i64 1, .int .i64 d, .int .i64 n, .int .i64 m, .int .i64 a, .int .i64 c, .int .i64 i]] w fun e w' => e = .returned (.int .i64 (er (ok_1 d n m a c i))) ∧ Below w.heap.size w w' := by
  have h : (zs [d, n, m, a, c, i] && rgs d n m a 31 && wi c 0 15 && true) = ok_1 d n m a c i := by
    rw [Bool.eq_iff_iff]; simp [zs, rgs, wi, ok_1]; try omega
  rw [← h]
  exact check_gen 1 d n m a c i 0 _ _ _ _ w (fun w => isop_y _ w (by decide) (by decide)) fields_1 (only_0 1 d n m a c i) (fun w => regs_any 1 d n m a c i w (by decide) (by decide)) (fun w => cond_any 1 d n m a c i w (by decide)) (imm_1 d n m a c i)
theorem check_2 (d n m a c i : Int) (w : World) : Calls Try.prog 31 #[.agg #[.int .i64 2, .int .i64 d, .int .i64 n, .int .i64 m, .int .i64 a, .int .i64 c, .int .i64 i]] w fun e w' => e = .returned (.int .i64 (er (ok_2 d n m a c i))) ∧ Below w.heap.size w w' := by
  have h : (zs [n, a, c] && rgs d n m a 3 && wi c 0 15 && (wi i 0 65535)) = ok_2 d n m a c i := by
    rw [Bool.eq_iff_iff]; simp [zs, rgs, wi, ok_2]; try omega
  rw [← h]
  exact check_gen 2 d n m a c i 37 _ _ _ _ w (fun w => isop_y _ w (by decide) (by decide)) fields_2 (only_37 2 d n m a c i) (fun w => regs_2 d n m a c i w) (fun w => cond_any 2 d n m a c i w (by decide)) (imm_2 d n m a c i)
theorem check_3 (d n m a c i : Int) (w : World) : Calls Try.prog 31 #[.agg #[.int .i64 3, .int .i64 d, .int .i64 n, .int .i64 m, .int .i64 a, .int .i64 c, .int .i64 i]] w fun e w' => e = .returned (.int .i64 (er (ok_3 d n m a c i))) ∧ Below w.heap.size w w' := by
  have h : (zs [n, a, c] && rgs d n m a 3 && wi c 0 15 && (wi i 0 65535)) = ok_3 d n m a c i := by
    rw [Bool.eq_iff_iff]; simp [zs, rgs, wi, ok_3]; try omega
  rw [← h]
  exact check_gen 3 d n m a c i 37 _ _ _ _ w (fun w => isop_y _ w (by decide) (by decide)) fields_3 (only_37 3 d n m a c i) (fun w => regs_3 d n m a c i w) (fun w => cond_any 3 d n m a c i w (by decide)) (imm_3 d n m a c i)
theorem check_4 (d n m a c i : Int) (w : World) : Calls Try.prog 31 #[.agg #[.int .i64 4, .int .i64 d, .int .i64 n, .int .i64 m, .int .i64 a, .int .i64 c, .int .i64 i]] w fun e w' => e = .returned (.int .i64 (er (ok_4 d n m a c i))) ∧ Below w.heap.size w w' := by
  have h : (zs [m, a, c] && rgs d n m a 31 && wi c 0 15 && (wi i 0 4095)) = ok_4 d n m a c i := by
    rw [Bool.eq_iff_iff]; simp [zs, rgs, wi, ok_4]; try omega
  rw [← h]
  exact check_gen 4 d n m a c i 35 _ _ _ _ w (fun w => isop_y _ w (by decide) (by decide)) fields_4 (only_35 4 d n m a c i) (fun w => regs_any 4 d n m a c i w (by decide) (by decide)) (fun w => cond_any 4 d n m a c i w (by decide)) (imm_4 d n m a c i)
theorem check_5 (d n m a c i : Int) (w : World) : Calls Try.prog 31 #[.agg #[.int .i64 5, .int .i64 d, .int .i64 n, .int .i64 m, .int .i64 a, .int .i64 c, .int .i64 i]] w fun e w' => e = .returned (.int .i64 (er (ok_5 d n m a c i))) ∧ Below w.heap.size w w' := by
  have h : (zs [m, a, c] && rgs d n m a 31 && wi c 0 15 && (wi i 0 4095)) = ok_5 d n m a c i := by
    rw [Bool.eq_iff_iff]; simp [zs, rgs, wi, ok_5]; try omega
  rw [← h]
  exact check_gen 5 d n m a c i 35 _ _ _ _ w (fun w => isop_y _ w (by decide) (by decide)) fields_5 (only_35 5 d n m a c i) (fun w => regs_any 5 d n m a c i w (by decide) (by decide)) (fun w => cond_any 5 d n m a c i w (by decide)) (imm_5 d n m a c i)
theorem check_6 (d n m a c i : Int) (w : World) : Calls Try.prog 31 #[.agg #[.int .i64 6, .int .i64 d, .int .i64 n, .int .i64 m, .int .i64 a, .int .i64 c, .int .i64 i]] w fun e w' => e = .returned (.int .i64 (er (ok_6 d n m a c i))) ∧ Below w.heap.size w w' := by
  have h : (zs [m, a, c] && rgs d n m a 31 && wi c 0 15 && (wi i 0 4095)) = ok_6 d n m a c i := by
    rw [Bool.eq_iff_iff]; simp [zs, rgs, wi, ok_6]; try omega
  rw [← h]
  exact check_gen 6 d n m a c i 35 _ _ _ _ w (fun w => isop_y _ w (by decide) (by decide)) fields_6 (only_35 6 d n m a c i) (fun w => regs_any 6 d n m a c i w (by decide) (by decide)) (fun w => cond_any 6 d n m a c i w (by decide)) (imm_6 d n m a c i)
theorem check_7 (d n m a c i : Int) (w : World) : Calls Try.prog 31 #[.agg #[.int .i64 7, .int .i64 d, .int .i64 n, .int .i64 m, .int .i64 a, .int .i64 c, .int .i64 i]] w fun e w' => e = .returned (.int .i64 (er (ok_7 d n m a c i))) ∧ Below w.heap.size w w' := by
  have h : (zs [a, c, i] && rgs d n m a 31 && wi c 0 15 && true) = ok_7 d n m a c i := by
    rw [Bool.eq_iff_iff]; simp [zs, rgs, wi, ok_7]; try omega
  rw [← h]
  exact check_gen 7 d n m a c i 7 _ _ _ _ w (fun w => isop_y _ w (by decide) (by decide)) fields_7 (only_7 7 d n m a c i) (fun w => regs_any 7 d n m a c i w (by decide) (by decide)) (fun w => cond_any 7 d n m a c i w (by decide)) (imm_7 d n m a c i)
theorem check_8 (d n m a c i : Int) (w : World) : Calls Try.prog 31 #[.agg #[.int .i64 8, .int .i64 d, .int .i64 n, .int .i64 m, .int .i64 a, .int .i64 c, .int .i64 i]] w fun e w' => e = .returned (.int .i64 (er (ok_8 d n m a c i))) ∧ Below w.heap.size w w' := by
  have h : (zs [a, c, i] && rgs d n m a 31 && wi c 0 15 && true) = ok_8 d n m a c i := by
    rw [Bool.eq_iff_iff]; simp [zs, rgs, wi, ok_8]; try omega
  rw [← h]
  exact check_gen 8 d n m a c i 7 _ _ _ _ w (fun w => isop_y _ w (by decide) (by decide)) fields_8 (only_7 8 d n m a c i) (fun w => regs_any 8 d n m a c i w (by decide) (by decide)) (fun w => cond_any 8 d n m a c i w (by decide)) (imm_8 d n m a c i)
theorem check_9 (d n m a c i : Int) (w : World) : Calls Try.prog 31 #[.agg #[.int .i64 9, .int .i64 d, .int .i64 n, .int .i64 m, .int .i64 a, .int .i64 c, .int .i64 i]] w fun e w' => e = .returned (.int .i64 (er (ok_9 d n m a c i))) ∧ Below w.heap.size w w' := by
  have h : (zs [a, c, i] && rgs d n m a 31 && wi c 0 15 && true) = ok_9 d n m a c i := by
    rw [Bool.eq_iff_iff]; simp [zs, rgs, wi, ok_9]; try omega
  rw [← h]
  exact check_gen 9 d n m a c i 7 _ _ _ _ w (fun w => isop_y _ w (by decide) (by decide)) fields_9 (only_7 9 d n m a c i) (fun w => regs_any 9 d n m a c i w (by decide) (by decide)) (fun w => cond_any 9 d n m a c i w (by decide)) (imm_9 d n m a c i)
theorem check_10 (d n m a c i : Int) (w : World) : Calls Try.prog 31 #[.agg #[.int .i64 10, .int .i64 d, .int .i64 n, .int .i64 m, .int .i64 a, .int .i64 c, .int .i64 i]] w fun e w' => e = .returned (.int .i64 (er (ok_10 d n m a c i))) ∧ Below w.heap.size w w' := by
  have h : (zs [a, c, i] && rgs d n m a 31 && wi c 0 15 && true) = ok_10 d n m a c i := by
    rw [Bool.eq_iff_iff]; simp [zs, rgs, wi, ok_10]; try omega
  rw [← h]
  exact check_gen 10 d n m a c i 7 _ _ _ _ w (fun w => isop_y _ w (by decide) (by decide)) fields_10 (only_7 10 d n m a c i) (fun w => regs_any 10 d n m a c i w (by decide) (by decide)) (fun w => cond_any 10 d n m a c i w (by decide)) (imm_10 d n m a c i)
theorem check_11 (d n m a c i : Int) (w : World) : Calls Try.prog 31 #[.agg #[.int .i64 11, .int .i64 d, .int .i64 n, .int .i64 m, .int .i64 a, .int .i64 c, .int .i64 i]] w fun e w' => e = .returned (.int .i64 (er (ok_11 d n m a c i))) ∧ Below w.heap.size w w' := by
  have h : (zs [a, c, i] && rgs d n m a 31 && wi c 0 15 && true) = ok_11 d n m a c i := by
    rw [Bool.eq_iff_iff]; simp [zs, rgs, wi, ok_11]; try omega
  rw [← h]
  exact check_gen 11 d n m a c i 7 _ _ _ _ w (fun w => isop_y _ w (by decide) (by decide)) fields_11 (only_7 11 d n m a c i) (fun w => regs_any 11 d n m a c i w (by decide) (by decide)) (fun w => cond_any 11 d n m a c i w (by decide)) (imm_11 d n m a c i)
theorem check_12 (d n m a c i : Int) (w : World) : Calls Try.prog 31 #[.agg #[.int .i64 12, .int .i64 d, .int .i64 n, .int .i64 m, .int .i64 a, .int .i64 c, .int .i64 i]] w fun e w' => e = .returned (.int .i64 (er (ok_12 d n m a c i))) ∧ Below w.heap.size w w' := by
  have h : (zs [a, c, i] && rgs d n m a 31 && wi c 0 15 && true) = ok_12 d n m a c i := by
    rw [Bool.eq_iff_iff]; simp [zs, rgs, wi, ok_12]; try omega
  rw [← h]
  exact check_gen 12 d n m a c i 7 _ _ _ _ w (fun w => isop_y _ w (by decide) (by decide)) fields_12 (only_7 12 d n m a c i) (fun w => regs_any 12 d n m a c i w (by decide) (by decide)) (fun w => cond_any 12 d n m a c i w (by decide)) (imm_12 d n m a c i)
theorem check_13 (d n m a c i : Int) (w : World) : Calls Try.prog 31 #[.agg #[.int .i64 13, .int .i64 d, .int .i64 n, .int .i64 m, .int .i64 a, .int .i64 c, .int .i64 i]] w fun e w' => e = .returned (.int .i64 (er (ok_13 d n m a c i))) ∧ Below w.heap.size w w' := by
  have h : (zs [c, i] && rgs d n m a 31 && wi c 0 15 && true) = ok_13 d n m a c i := by
    rw [Bool.eq_iff_iff]; simp [zs, rgs, wi, ok_13]; try omega
  rw [← h]
  exact check_gen 13 d n m a c i 15 _ _ _ _ w (fun w => isop_y _ w (by decide) (by decide)) fields_13 (only_15 13 d n m a c i) (fun w => regs_any 13 d n m a c i w (by decide) (by decide)) (fun w => cond_any 13 d n m a c i w (by decide)) (imm_13 d n m a c i)
theorem check_14 (d n m a c i : Int) (w : World) : Calls Try.prog 31 #[.agg #[.int .i64 14, .int .i64 d, .int .i64 n, .int .i64 m, .int .i64 a, .int .i64 c, .int .i64 i]] w fun e w' => e = .returned (.int .i64 (er (ok_14 d n m a c i))) ∧ Below w.heap.size w w' := by
  have h : (zs [c, i] && rgs d n m a 31 && wi c 0 15 && true) = ok_14 d n m a c i := by
    rw [Bool.eq_iff_iff]; simp [zs, rgs, wi, ok_14]; try omega
  rw [← h]
  exact check_gen 14 d n m a c i 15 _ _ _ _ w (fun w => isop_y _ w (by decide) (by decide)) fields_14 (only_15 14 d n m a c i) (fun w => regs_any 14 d n m a c i w (by decide) (by decide)) (fun w => cond_any 14 d n m a c i w (by decide)) (imm_14 d n m a c i)
theorem check_15 (d n m a c i : Int) (w : World) : Calls Try.prog 31 #[.agg #[.int .i64 15, .int .i64 d, .int .i64 n, .int .i64 m, .int .i64 a, .int .i64 c, .int .i64 i]] w fun e w' => e = .returned (.int .i64 (er (ok_15 d n m a c i))) ∧ Below w.heap.size w w' := by
  have h : (zs [a, c, i] && rgs d n m a 31 && wi c 0 15 && true) = ok_15 d n m a c i := by
    rw [Bool.eq_iff_iff]; simp [zs, rgs, wi, ok_15]; try omega
  rw [← h]
  exact check_gen 15 d n m a c i 7 _ _ _ _ w (fun w => isop_y _ w (by decide) (by decide)) fields_15 (only_7 15 d n m a c i) (fun w => regs_any 15 d n m a c i w (by decide) (by decide)) (fun w => cond_any 15 d n m a c i w (by decide)) (imm_15 d n m a c i)
theorem check_16 (d n m a c i : Int) (w : World) : Calls Try.prog 31 #[.agg #[.int .i64 16, .int .i64 d, .int .i64 n, .int .i64 m, .int .i64 a, .int .i64 c, .int .i64 i]] w fun e w' => e = .returned (.int .i64 (er (ok_16 d n m a c i))) ∧ Below w.heap.size w w' := by
  have h : (zs [a, c, i] && rgs d n m a 31 && wi c 0 15 && true) = ok_16 d n m a c i := by
    rw [Bool.eq_iff_iff]; simp [zs, rgs, wi, ok_16]; try omega
  rw [← h]
  exact check_gen 16 d n m a c i 7 _ _ _ _ w (fun w => isop_y _ w (by decide) (by decide)) fields_16 (only_7 16 d n m a c i) (fun w => regs_any 16 d n m a c i w (by decide) (by decide)) (fun w => cond_any 16 d n m a c i w (by decide)) (imm_16 d n m a c i)
theorem check_17 (d n m a c i : Int) (w : World) : Calls Try.prog 31 #[.agg #[.int .i64 17, .int .i64 d, .int .i64 n, .int .i64 m, .int .i64 a, .int .i64 c, .int .i64 i]] w fun e w' => e = .returned (.int .i64 (er (ok_17 d n m a c i))) ∧ Below w.heap.size w w' := by
  have h : (zs [a, c, i] && rgs d n m a 31 && wi c 0 15 && true) = ok_17 d n m a c i := by
    rw [Bool.eq_iff_iff]; simp [zs, rgs, wi, ok_17]; try omega
  rw [← h]
  exact check_gen 17 d n m a c i 7 _ _ _ _ w (fun w => isop_y _ w (by decide) (by decide)) fields_17 (only_7 17 d n m a c i) (fun w => regs_any 17 d n m a c i w (by decide) (by decide)) (fun w => cond_any 17 d n m a c i w (by decide)) (imm_17 d n m a c i)
theorem check_18 (d n m a c i : Int) (w : World) : Calls Try.prog 31 #[.agg #[.int .i64 18, .int .i64 d, .int .i64 n, .int .i64 m, .int .i64 a, .int .i64 c, .int .i64 i]] w fun e w' => e = .returned (.int .i64 (er (ok_18 d n m a c i))) ∧ Below w.heap.size w w' := by
  have h : (zs [a, c, i] && rgs d n m a 31 && wi c 0 15 && true) = ok_18 d n m a c i := by
    rw [Bool.eq_iff_iff]; simp [zs, rgs, wi, ok_18]; try omega
  rw [← h]
  exact check_gen 18 d n m a c i 7 _ _ _ _ w (fun w => isop_y _ w (by decide) (by decide)) fields_18 (only_7 18 d n m a c i) (fun w => regs_any 18 d n m a c i w (by decide) (by decide)) (fun w => cond_any 18 d n m a c i w (by decide)) (imm_18 d n m a c i)
theorem check_19 (d n m a c i : Int) (w : World) : Calls Try.prog 31 #[.agg #[.int .i64 19, .int .i64 d, .int .i64 n, .int .i64 m, .int .i64 a, .int .i64 c, .int .i64 i]] w fun e w' => e = .returned (.int .i64 (er (ok_19 d n m a c i))) ∧ Below w.heap.size w w' := by
  have h : (zs [a, i] && rgs d n m a 31 && wi c 0 15 && true) = ok_19 d n m a c i := by
    rw [Bool.eq_iff_iff]; simp [zs, rgs, wi, ok_19]; try omega
  rw [← h]
  exact check_gen 19 d n m a c i 23 _ _ _ _ w (fun w => isop_y _ w (by decide) (by decide)) fields_19 (only_23 19 d n m a c i) (fun w => regs_any 19 d n m a c i w (by decide) (by decide)) (fun w => cond_any 19 d n m a c i w (by decide)) (imm_19 d n m a c i)
theorem check_20 (d n m a c i : Int) (w : World) : Calls Try.prog 31 #[.agg #[.int .i64 20, .int .i64 d, .int .i64 n, .int .i64 m, .int .i64 a, .int .i64 c, .int .i64 i]] w fun e w' => e = .returned (.int .i64 (er (ok_20 d n m a c i))) ∧ Below w.heap.size w w' := by
  have h : (zs [d, n, m, a, c] && rgs d n m a 31 && wi c 0 15 && (wm i (-134217728) 134217724 4)) = ok_20 d n m a c i := by
    rw [Bool.eq_iff_iff]; simp [zs, rgs, wi, wm, ok_20]; try omega
  rw [← h]
  exact check_gen 20 d n m a c i 32 _ _ _ _ w (fun w => isop_y _ w (by decide) (by decide)) fields_20 (only_32 20 d n m a c i) (fun w => regs_any 20 d n m a c i w (by decide) (by decide)) (fun w => cond_any 20 d n m a c i w (by decide)) (imm_20 d n m a c i)
theorem check_21 (d n m a c i : Int) (w : World) : Calls Try.prog 31 #[.agg #[.int .i64 21, .int .i64 d, .int .i64 n, .int .i64 m, .int .i64 a, .int .i64 c, .int .i64 i]] w fun e w' => e = .returned (.int .i64 (er (ok_21 d n m a c i))) ∧ Below w.heap.size w w' := by
  have h : (zs [d, n, m, a] && rgs d n m a 31 && wi c 0 13 && (wm i (-1048576) 1048572 4)) = ok_21 d n m a c i := by
    rw [Bool.eq_iff_iff]; simp [zs, rgs, wi, wm, ok_21]; try omega
  rw [← h]
  exact check_gen 21 d n m a c i 48 _ _ _ _ w (fun w => isop_y _ w (by decide) (by decide)) fields_21 (only_48 21 d n m a c i) (fun w => regs_any 21 d n m a c i w (by decide) (by decide)) (fun w => cond_21 d n m a c i w) (imm_21 d n m a c i)
theorem check_22 (d n m a c i : Int) (w : World) : Calls Try.prog 31 #[.agg #[.int .i64 22, .int .i64 d, .int .i64 n, .int .i64 m, .int .i64 a, .int .i64 c, .int .i64 i]] w fun e w' => e = .returned (.int .i64 (er (ok_22 d n m a c i))) ∧ Below w.heap.size w w' := by
  have h : (zs [n, m, a, c] && rgs d n m a 31 && wi c 0 15 && (wm i (-1048576) 1048572 4)) = ok_22 d n m a c i := by
    rw [Bool.eq_iff_iff]; simp [zs, rgs, wi, wm, ok_22]; try omega
  rw [← h]
  exact check_gen 22 d n m a c i 33 _ _ _ _ w (fun w => isop_y _ w (by decide) (by decide)) fields_22 (only_33 22 d n m a c i) (fun w => regs_any 22 d n m a c i w (by decide) (by decide)) (fun w => cond_any 22 d n m a c i w (by decide)) (imm_22 d n m a c i)
theorem check_23 (d n m a c i : Int) (w : World) : Calls Try.prog 31 #[.agg #[.int .i64 23, .int .i64 d, .int .i64 n, .int .i64 m, .int .i64 a, .int .i64 c, .int .i64 i]] w fun e w' => e = .returned (.int .i64 (er (ok_23 d n m a c i))) ∧ Below w.heap.size w w' := by
  have h : (zs [n, m, a, c] && rgs d n m a 31 && wi c 0 15 && (wm i (-1048576) 1048572 4)) = ok_23 d n m a c i := by
    rw [Bool.eq_iff_iff]; simp [zs, rgs, wi, wm, ok_23]; try omega
  rw [← h]
  exact check_gen 23 d n m a c i 33 _ _ _ _ w (fun w => isop_y _ w (by decide) (by decide)) fields_23 (only_33 23 d n m a c i) (fun w => regs_any 23 d n m a c i w (by decide) (by decide)) (fun w => cond_any 23 d n m a c i w (by decide)) (imm_23 d n m a c i)
theorem check_24 (d n m a c i : Int) (w : World) : Calls Try.prog 31 #[.agg #[.int .i64 24, .int .i64 d, .int .i64 n, .int .i64 m, .int .i64 a, .int .i64 c, .int .i64 i]] w fun e w' => e = .returned (.int .i64 (er (ok_24 d n m a c i))) ∧ Below w.heap.size w w' := by
  have h : (zs [d, n, m, a, c] && rgs d n m a 31 && wi c 0 15 && (wm i (-134217728) 134217724 4)) = ok_24 d n m a c i := by
    rw [Bool.eq_iff_iff]; simp [zs, rgs, wi, wm, ok_24]; try omega
  rw [← h]
  exact check_gen 24 d n m a c i 32 _ _ _ _ w (fun w => isop_y _ w (by decide) (by decide)) fields_24 (only_32 24 d n m a c i) (fun w => regs_any 24 d n m a c i w (by decide) (by decide)) (fun w => cond_any 24 d n m a c i w (by decide)) (imm_24 d n m a c i)
theorem check_25 (d n m a c i : Int) (w : World) : Calls Try.prog 31 #[.agg #[.int .i64 25, .int .i64 d, .int .i64 n, .int .i64 m, .int .i64 a, .int .i64 c, .int .i64 i]] w fun e w' => e = .returned (.int .i64 (er (ok_25 d n m a c i))) ∧ Below w.heap.size w w' := by
  have h : (zs [d, m, a, c, i] && rgs d n m a 31 && wi c 0 15 && true) = ok_25 d n m a c i := by
    rw [Bool.eq_iff_iff]; simp [zs, rgs, wi, ok_25]; try omega
  rw [← h]
  exact check_gen 25 d n m a c i 2 _ _ _ _ w (fun w => isop_y _ w (by decide) (by decide)) fields_25 (only_2 25 d n m a c i) (fun w => regs_any 25 d n m a c i w (by decide) (by decide)) (fun w => cond_any 25 d n m a c i w (by decide)) (imm_25 d n m a c i)
theorem check_26 (d n m a c i : Int) (w : World) : Calls Try.prog 31 #[.agg #[.int .i64 26, .int .i64 d, .int .i64 n, .int .i64 m, .int .i64 a, .int .i64 c, .int .i64 i]] w fun e w' => e = .returned (.int .i64 (er (ok_26 d n m a c i))) ∧ Below w.heap.size w w' := by
  have h : (zs [d, m, a, c, i] && rgs d n m a 31 && wi c 0 15 && true) = ok_26 d n m a c i := by
    rw [Bool.eq_iff_iff]; simp [zs, rgs, wi, ok_26]; try omega
  rw [← h]
  exact check_gen 26 d n m a c i 2 _ _ _ _ w (fun w => isop_y _ w (by decide) (by decide)) fields_26 (only_2 26 d n m a c i) (fun w => regs_any 26 d n m a c i w (by decide) (by decide)) (fun w => cond_any 26 d n m a c i w (by decide)) (imm_26 d n m a c i)
theorem check_27 (d n m a c i : Int) (w : World) : Calls Try.prog 31 #[.agg #[.int .i64 27, .int .i64 d, .int .i64 n, .int .i64 m, .int .i64 a, .int .i64 c, .int .i64 i]] w fun e w' => e = .returned (.int .i64 (er (ok_27 d n m a c i))) ∧ Below w.heap.size w w' := by
  have h : (zs [d, m, a, c, i] && rgs d n m a 31 && wi c 0 15 && true) = ok_27 d n m a c i := by
    rw [Bool.eq_iff_iff]; simp [zs, rgs, wi, ok_27]; try omega
  rw [← h]
  exact check_gen 27 d n m a c i 2 _ _ _ _ w (fun w => isop_y _ w (by decide) (by decide)) fields_27 (only_2 27 d n m a c i) (fun w => regs_any 27 d n m a c i w (by decide) (by decide)) (fun w => cond_any 27 d n m a c i w (by decide)) (imm_27 d n m a c i)
theorem check_28 (d n m a c i : Int) (w : World) : Calls Try.prog 31 #[.agg #[.int .i64 28, .int .i64 d, .int .i64 n, .int .i64 m, .int .i64 a, .int .i64 c, .int .i64 i]] w fun e w' => e = .returned (.int .i64 (er (ok_28 d n m a c i))) ∧ Below w.heap.size w w' := by
  have h : (zs [m, a, c] && rgs d n m a 31 && wi c 0 15 && (wm i 0 32760 8)) = ok_28 d n m a c i := by
    rw [Bool.eq_iff_iff]; simp [zs, rgs, wi, wm, ok_28]; try omega
  rw [← h]
  exact check_gen 28 d n m a c i 35 _ _ _ _ w (fun w => isop_y _ w (by decide) (by decide)) fields_28 (only_35 28 d n m a c i) (fun w => regs_any 28 d n m a c i w (by decide) (by decide)) (fun w => cond_any 28 d n m a c i w (by decide)) (imm_28 d n m a c i)
theorem check_29 (d n m a c i : Int) (w : World) : Calls Try.prog 31 #[.agg #[.int .i64 29, .int .i64 d, .int .i64 n, .int .i64 m, .int .i64 a, .int .i64 c, .int .i64 i]] w fun e w' => e = .returned (.int .i64 (er (ok_29 d n m a c i))) ∧ Below w.heap.size w w' := by
  have h : (zs [m, a, c] && rgs d n m a 31 && wi c 0 15 && (wm i 0 32760 8)) = ok_29 d n m a c i := by
    rw [Bool.eq_iff_iff]; simp [zs, rgs, wi, wm, ok_29]; try omega
  rw [← h]
  exact check_gen 29 d n m a c i 35 _ _ _ _ w (fun w => isop_y _ w (by decide) (by decide)) fields_29 (only_35 29 d n m a c i) (fun w => regs_any 29 d n m a c i w (by decide) (by decide)) (fun w => cond_any 29 d n m a c i w (by decide)) (imm_29 d n m a c i)
theorem check_30 (d n m a c i : Int) (w : World) : Calls Try.prog 31 #[.agg #[.int .i64 30, .int .i64 d, .int .i64 n, .int .i64 m, .int .i64 a, .int .i64 c, .int .i64 i]] w fun e w' => e = .returned (.int .i64 (er (ok_30 d n m a c i))) ∧ Below w.heap.size w w' := by
  have h : (zs [m, a, c] && rgs d n m a 31 && wi c 0 15 && (wi i 0 4095)) = ok_30 d n m a c i := by
    rw [Bool.eq_iff_iff]; simp [zs, rgs, wi, ok_30]; try omega
  rw [← h]
  exact check_gen 30 d n m a c i 35 _ _ _ _ w (fun w => isop_y _ w (by decide) (by decide)) fields_30 (only_35 30 d n m a c i) (fun w => regs_any 30 d n m a c i w (by decide) (by decide)) (fun w => cond_any 30 d n m a c i w (by decide)) (imm_30 d n m a c i)
theorem check_31 (d n m a c i : Int) (w : World) : Calls Try.prog 31 #[.agg #[.int .i64 31, .int .i64 d, .int .i64 n, .int .i64 m, .int .i64 a, .int .i64 c, .int .i64 i]] w fun e w' => e = .returned (.int .i64 (er (ok_31 d n m a c i))) ∧ Below w.heap.size w w' := by
  have h : (zs [a, c, i] && rgs d n m a 31 && wi c 0 15 && true) = ok_31 d n m a c i := by
    rw [Bool.eq_iff_iff]; simp [zs, rgs, wi, ok_31]; try omega
  rw [← h]
  exact check_gen 31 d n m a c i 7 _ _ _ _ w (fun w => isop_y _ w (by decide) (by decide)) fields_31 (only_7 31 d n m a c i) (fun w => regs_any 31 d n m a c i w (by decide) (by decide)) (fun w => cond_any 31 d n m a c i w (by decide)) (imm_31 d n m a c i)
theorem check_32 (d n m a c i : Int) (w : World) : Calls Try.prog 31 #[.agg #[.int .i64 32, .int .i64 d, .int .i64 n, .int .i64 m, .int .i64 a, .int .i64 c, .int .i64 i]] w fun e w' => e = .returned (.int .i64 (er (ok_32 d n m a c i))) ∧ Below w.heap.size w w' := by
  have h : (zs [a, c, i] && rgs d n m a 31 && wi c 0 15 && true) = ok_32 d n m a c i := by
    rw [Bool.eq_iff_iff]; simp [zs, rgs, wi, ok_32]; try omega
  rw [← h]
  exact check_gen 32 d n m a c i 7 _ _ _ _ w (fun w => isop_y _ w (by decide) (by decide)) fields_32 (only_7 32 d n m a c i) (fun w => regs_any 32 d n m a c i w (by decide) (by decide)) (fun w => cond_any 32 d n m a c i w (by decide)) (imm_32 d n m a c i)
theorem check_33 (d n m a c i : Int) (w : World) : Calls Try.prog 31 #[.agg #[.int .i64 33, .int .i64 d, .int .i64 n, .int .i64 m, .int .i64 a, .int .i64 c, .int .i64 i]] w fun e w' => e = .returned (.int .i64 (er (ok_33 d n m a c i))) ∧ Below w.heap.size w w' := by
  have h : (zs [m, a, c, i] && rgs d n m a 31 && wi c 0 15 && true) = ok_33 d n m a c i := by
    rw [Bool.eq_iff_iff]; simp [zs, rgs, wi, ok_33]; try omega
  rw [← h]
  exact check_gen 33 d n m a c i 3 _ _ _ _ w (fun w => isop_y _ w (by decide) (by decide)) fields_33 (only_3 33 d n m a c i) (fun w => regs_any 33 d n m a c i w (by decide) (by decide)) (fun w => cond_any 33 d n m a c i w (by decide)) (imm_33 d n m a c i)
theorem check_34 (d n m a c i : Int) (w : World) : Calls Try.prog 31 #[.agg #[.int .i64 34, .int .i64 d, .int .i64 n, .int .i64 m, .int .i64 a, .int .i64 c, .int .i64 i]] w fun e w' => e = .returned (.int .i64 (er (ok_34 d n m a c i))) ∧ Below w.heap.size w w' := by
  have h : (zs [m, a, c, i] && rgs d n m a 31 && wi c 0 15 && true) = ok_34 d n m a c i := by
    rw [Bool.eq_iff_iff]; simp [zs, rgs, wi, ok_34]; try omega
  rw [← h]
  exact check_gen 34 d n m a c i 3 _ _ _ _ w (fun w => isop_y _ w (by decide) (by decide)) fields_34 (only_3 34 d n m a c i) (fun w => regs_any 34 d n m a c i w (by decide) (by decide)) (fun w => cond_any 34 d n m a c i w (by decide)) (imm_34 d n m a c i)
theorem check_35 (d n m a c i : Int) (w : World) : Calls Try.prog 31 #[.agg #[.int .i64 35, .int .i64 d, .int .i64 n, .int .i64 m, .int .i64 a, .int .i64 c, .int .i64 i]] w fun e w' => e = .returned (.int .i64 (er (ok_35 d n m a c i))) ∧ Below w.heap.size w w' := by
  have h : (zs [m, a, c, i] && rgs d n m a 31 && wi c 0 15 && true) = ok_35 d n m a c i := by
    rw [Bool.eq_iff_iff]; simp [zs, rgs, wi, ok_35]; try omega
  rw [← h]
  exact check_gen 35 d n m a c i 3 _ _ _ _ w (fun w => isop_y _ w (by decide) (by decide)) fields_35 (only_3 35 d n m a c i) (fun w => regs_any 35 d n m a c i w (by decide) (by decide)) (fun w => cond_any 35 d n m a c i w (by decide)) (imm_35 d n m a c i)
theorem check_36 (d n m a c i : Int) (w : World) : Calls Try.prog 31 #[.agg #[.int .i64 36, .int .i64 d, .int .i64 n, .int .i64 m, .int .i64 a, .int .i64 c, .int .i64 i]] w fun e w' => e = .returned (.int .i64 (er (ok_36 d n m a c i))) ∧ Below w.heap.size w w' := by
  have h : (zs [a, c, i] && rgs d n m a 31 && wi c 0 15 && true) = ok_36 d n m a c i := by
    rw [Bool.eq_iff_iff]; simp [zs, rgs, wi, ok_36]; try omega
  rw [← h]
  exact check_gen 36 d n m a c i 7 _ _ _ _ w (fun w => isop_y _ w (by decide) (by decide)) fields_36 (only_7 36 d n m a c i) (fun w => regs_any 36 d n m a c i w (by decide) (by decide)) (fun w => cond_any 36 d n m a c i w (by decide)) (imm_36 d n m a c i)
theorem check_37 (d n m a c i : Int) (w : World) : Calls Try.prog 31 #[.agg #[.int .i64 37, .int .i64 d, .int .i64 n, .int .i64 m, .int .i64 a, .int .i64 c, .int .i64 i]] w fun e w' => e = .returned (.int .i64 (er (ok_37 d n m a c i))) ∧ Below w.heap.size w w' := by
  have h : (zs [d, n, m, a, c] && rgs d n m a 31 && wi c 0 15 && (wi i 0 2)) = ok_37 d n m a c i := by
    rw [Bool.eq_iff_iff]; simp [zs, rgs, wi, ok_37]; try omega
  rw [← h]
  exact check_gen 37 d n m a c i 32 _ _ _ _ w (fun w => isop_y _ w (by decide) (by decide)) fields_37 (only_32 37 d n m a c i) (fun w => regs_any 37 d n m a c i w (by decide) (by decide)) (fun w => cond_any 37 d n m a c i w (by decide)) (imm_37 d n m a c i)
theorem check_38 (d n m a c i : Int) (w : World) : Calls Try.prog 31 #[.agg #[.int .i64 38, .int .i64 d, .int .i64 n, .int .i64 m, .int .i64 a, .int .i64 c, .int .i64 i]] w fun e w' => e = .returned (.int .i64 (er (ok_38 d n m a c i))) ∧ Below w.heap.size w w' := by
  have h : (zs [d, n, m, a, c, i] && rgs d n m a 31 && wi c 0 15 && true) = ok_38 d n m a c i := by
    rw [Bool.eq_iff_iff]; simp [zs, rgs, wi, ok_38]; try omega
  rw [← h]
  exact check_gen 38 d n m a c i 0 _ _ _ _ w (fun w => isop_y _ w (by decide) (by decide)) fields_38 (only_0 38 d n m a c i) (fun w => regs_any 38 d n m a c i w (by decide) (by decide)) (fun w => cond_any 38 d n m a c i w (by decide)) (imm_38 d n m a c i)
theorem check_39 (d n m a c i : Int) (w : World) : Calls Try.prog 31 #[.agg #[.int .i64 39, .int .i64 d, .int .i64 n, .int .i64 m, .int .i64 a, .int .i64 c, .int .i64 i]] w fun e w' => e = .returned (.int .i64 (er (ok_39 d n m a c i))) ∧ Below w.heap.size w w' := by
  have h : (zs [d, n, m, a, c, i] && rgs d n m a 31 && wi c 0 15 && true) = ok_39 d n m a c i := by
    rw [Bool.eq_iff_iff]; simp [zs, rgs, wi, ok_39]; try omega
  rw [← h]
  exact check_gen 39 d n m a c i 0 _ _ _ _ w (fun w => isop_y _ w (by decide) (by decide)) fields_39 (only_0 39 d n m a c i) (fun w => regs_any 39 d n m a c i w (by decide) (by decide)) (fun w => cond_any 39 d n m a c i w (by decide)) (imm_39 d n m a c i)
theorem check_40 (d n m a c i : Int) (w : World) : Calls Try.prog 31 #[.agg #[.int .i64 40, .int .i64 d, .int .i64 n, .int .i64 m, .int .i64 a, .int .i64 c, .int .i64 i]] w fun e w' => e = .returned (.int .i64 (er (ok_40 d n m a c i))) ∧ Below w.heap.size w w' := by
  have h : (zs [d, m, a, c, i] && rgs d n m a 31 && wi c 0 15 && true) = ok_40 d n m a c i := by
    rw [Bool.eq_iff_iff]; simp [zs, rgs, wi, ok_40]; try omega
  rw [← h]
  exact check_gen 40 d n m a c i 2 _ _ _ _ w (fun w => isop_y _ w (by decide) (by decide)) fields_40 (only_2 40 d n m a c i) (fun w => regs_any 40 d n m a c i w (by decide) (by decide)) (fun w => cond_any 40 d n m a c i w (by decide)) (imm_40 d n m a c i)
theorem check_41 (d n m a c i : Int) (w : World) : Calls Try.prog 31 #[.agg #[.int .i64 41, .int .i64 d, .int .i64 n, .int .i64 m, .int .i64 a, .int .i64 c, .int .i64 i]] w fun e w' => e = .returned (.int .i64 (er (ok_41 d n m a c i))) ∧ Below w.heap.size w w' := by
  have h : (zs [d, m, a, c, i] && rgs d n m a 31 && wi c 0 15 && true) = ok_41 d n m a c i := by
    rw [Bool.eq_iff_iff]; simp [zs, rgs, wi, ok_41]; try omega
  rw [← h]
  exact check_gen 41 d n m a c i 2 _ _ _ _ w (fun w => isop_y _ w (by decide) (by decide)) fields_41 (only_2 41 d n m a c i) (fun w => regs_any 41 d n m a c i w (by decide) (by decide)) (fun w => cond_any 41 d n m a c i w (by decide)) (imm_41 d n m a c i)
theorem check_42 (d n m a c i : Int) (w : World) : Calls Try.prog 31 #[.agg #[.int .i64 42, .int .i64 d, .int .i64 n, .int .i64 m, .int .i64 a, .int .i64 c, .int .i64 i]] w fun e w' => e = .returned (.int .i64 (er (ok_42 d n m a c i))) ∧ Below w.heap.size w w' := by
  have h : (zs [d, n, m, a, c] && rgs d n m a 31 && wi c 0 15 && (wi i 0 65535)) = ok_42 d n m a c i := by
    rw [Bool.eq_iff_iff]; simp [zs, rgs, wi, ok_42]; try omega
  rw [← h]
  exact check_gen 42 d n m a c i 32 _ _ _ _ w (fun w => isop_y _ w (by decide) (by decide)) fields_42 (only_32 42 d n m a c i) (fun w => regs_any 42 d n m a c i w (by decide) (by decide)) (fun w => cond_any 42 d n m a c i w (by decide)) (imm_42 d n m a c i)
end Go.Proofs.Ytnbpgoacooddjaa.Fr
