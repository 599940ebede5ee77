import Derived.Test.YtpjfjdncdiemlaaRows
import Derived.WalkKit
import Derived.ProofKit
import Derived.OpenShut
import Derived.Deep.QuietTactic
import Derived.BigQuiet
import Derived.Outline
import Derived.WalkSmall
import Derived.WalkLawsBesides
import Derived.WalkSpells
import Derived.BigGuardPart
import Derived.RegionTactic
import Derived.Deep.RegionHeld3
import Derived.Lib.Hide
import Derived.Deep.MidRow
import Derived.Below
import Derived.Deep.RegionWith
import Derived.Test.YtpjfjdncdiemlaaSmD
namespace Go.Proofs.Ytpjfjdncdiemlaa
open Go.ChangeShapes Go.WideShapes Go.ChangeAt Go.RowKit
set_option linter.unusedVariables false
set_option maxRecDepth 100000 in
set_option maxHeartbeats 2000000 in
theorem isop_6 (w : World) : Calls Try.prog 32 #[.int .i64 6] w fun e w' => e = .returned (.bool true) ∧ w' = w := by
  go_enter Try.func32, Try.ntmps32
  go_wp2
  go_ret
  exact ⟨rfl, rfl⟩
set_option maxRecDepth 100000 in
set_option maxHeartbeats 2000000 in
theorem fields_6 (w : World) : Calls Try.prog 34 #[.int .i64 6] w fun e w' => e = .returned (.int .i64 35) ∧ w' = w := by
  go_enter Try.func34, Try.ntmps34
  go_wp2
  go_ret
  exact ⟨rfl, rfl⟩
set_option maxRecDepth 100000 in
set_option maxHeartbeats 2000000 in
theorem only_subsi (w : World) : Calls Try.prog 33 #[.agg #[.int .i64 6, .int .i64 31, .int .i64 0, .int .i64 0, .int .i64 0, .int .i64 0, .int .i64 5], .int .i64 35] w fun e w' => e = .returned (.bool true) ∧ Below w.heap.size w w' := by
  go_enter Try.func33, Try.ntmps33
  go_wp2
  go_ret
  exact ⟨rfl, (Below.refl _ _).alloc (Nat.le_refl _) _⟩
set_option maxRecDepth 100000 in
set_option maxHeartbeats 2000000 in
theorem regs_subsi (w : World) : Calls Try.prog 35 #[.agg #[.int .i64 6, .int .i64 31, .int .i64 0, .int .i64 0, .int .i64 0, .int .i64 0, .int .i64 5]] w fun e w' => e = .returned (.bool true) ∧ Below w.heap.size w w' := by
  go_enter Try.func35, Try.ntmps35
  go_wp2
  go_ret
  exact ⟨rfl, (Below.refl _ _).alloc (Nat.le_refl _) _⟩
set_option maxRecDepth 100000 in
set_option maxHeartbeats 2000000 in
theorem cond_subsi (w : World) : Calls Try.prog 36 #[.agg #[.int .i64 6, .int .i64 31, .int .i64 0, .int .i64 0, .int .i64 0, .int .i64 0, .int .i64 5]] w fun e w' => e = .returned (.bool true) ∧ Below w.heap.size w w' := by
  go_enter Try.func36, Try.ntmps36
  go_wp2
  go_ret
  exact ⟨rfl, (Below.refl _ _).alloc (Nat.le_refl _) _⟩
set_option maxRecDepth 100000 in
set_option maxHeartbeats 2000000 in
theorem imm_subsi (w : World) : Calls Try.prog 37 #[.agg #[.int .i64 6, .int .i64 31, .int .i64 0, .int .i64 0, .int .i64 0, .int .i64 0, .int .i64 5]] w fun e w' => e = .returned (.bool true) ∧ Below w.heap.size w w' := by
  go_enter Try.func37, Try.ntmps37
  go_wp2
  go_ret
  exact ⟨rfl, (Below.refl _ _).alloc (Nat.le_refl _) _⟩
theorem check_subsi (w : World) : Calls Try.prog 17 #[.agg #[.int .i64 6, .int .i64 31, .int .i64 0, .int .i64 0, .int .i64 0, .int .i64 0, .int .i64 5]] w fun e w' => e = .returned (.int .i64 0) ∧ Below w.heap.size w w' :=
  check_gen 6 31 0 0 0 0 5 35 w isop_6 fields_6 (only_subsi) (regs_subsi) (cond_subsi) (imm_subsi)
set_option maxRecDepth 100000 in
set_option maxHeartbeats 2000000 in
theorem isop_19 (w : World) : Calls Try.prog 32 #[.int .i64 19] w fun e w' => e = .returned (.bool true) ∧ w' = w := by
  go_enter Try.func32, Try.ntmps32
  go_wp2
  go_ret
  exact ⟨rfl, rfl⟩
set_option maxRecDepth 100000 in
set_option maxHeartbeats 2000000 in
theorem fields_19 (w : World) : Calls Try.prog 34 #[.int .i64 19] w fun e w' => e = .returned (.int .i64 23) ∧ w' = w := by
  go_enter Try.func34, Try.ntmps34
  go_wp2
  go_ret
  exact ⟨rfl, rfl⟩
set_option maxRecDepth 100000 in
set_option maxHeartbeats 2000000 in
theorem only_csinc (w : World) : Calls Try.prog 33 #[.agg #[.int .i64 19, .int .i64 0, .int .i64 31, .int .i64 31, .int .i64 0, .int .i64 1, .int .i64 0], .int .i64 23] w fun e w' => e = .returned (.bool true) ∧ Below w.heap.size w w' := by
  go_enter Try.func33, Try.ntmps33
  go_wp2
  go_ret
  exact ⟨rfl, (Below.refl _ _).alloc (Nat.le_refl _) _⟩
set_option maxRecDepth 100000 in
set_option maxHeartbeats 2000000 in
theorem regs_csinc (w : World) : Calls Try.prog 35 #[.agg #[.int .i64 19, .int .i64 0, .int .i64 31, .int .i64 31, .int .i64 0, .int .i64 1, .int .i64 0]] w fun e w' => e = .returned (.bool true) ∧ Below w.heap.size w w' := by
  go_enter Try.func35, Try.ntmps35
  go_wp2
  go_ret
  exact ⟨rfl, (Below.refl _ _).alloc (Nat.le_refl _) _⟩
set_option maxRecDepth 100000 in
set_option maxHeartbeats 2000000 in
theorem cond_csinc (w : World) : Calls Try.prog 36 #[.agg #[.int .i64 19, .int .i64 0, .int .i64 31, .int .i64 31, .int .i64 0, .int .i64 1, .int .i64 0]] w fun e w' => e = .returned (.bool true) ∧ Below w.heap.size w w' := by
  go_enter Try.func36, Try.ntmps36
  go_wp2
  go_ret
  exact ⟨rfl, (Below.refl _ _).alloc (Nat.le_refl _) _⟩
set_option maxRecDepth 100000 in
set_option maxHeartbeats 2000000 in
theorem imm_csinc (w : World) : Calls Try.prog 37 #[.agg #[.int .i64 19, .int .i64 0, .int .i64 31, .int .i64 31, .int .i64 0, .int .i64 1, .int .i64 0]] w fun e w' => e = .returned (.bool true) ∧ Below w.heap.size w w' := by
  go_enter Try.func37, Try.ntmps37
  go_wp2
  go_ret
  exact ⟨rfl, (Below.refl _ _).alloc (Nat.le_refl _) _⟩
theorem check_csinc (w : World) : Calls Try.prog 17 #[.agg #[.int .i64 19, .int .i64 0, .int .i64 31, .int .i64 31, .int .i64 0, .int .i64 1, .int .i64 0]] w fun e w' => e = .returned (.int .i64 0) ∧ Below w.heap.size w w' :=
  check_gen 19 0 31 31 0 1 0 23 w isop_19 fields_19 (only_csinc) (regs_csinc) (cond_csinc) (imm_csinc)
set_option maxRecDepth 100000 in
set_option maxHeartbeats 2000000 in
theorem isop_9 (w : World) : Calls Try.prog 32 #[.int .i64 9] w fun e w' => e = .returned (.bool true) ∧ w' = w := by
  go_enter Try.func32, Try.ntmps32
  go_wp2
  go_ret
  exact ⟨rfl, rfl⟩
set_option maxRecDepth 100000 in
set_option maxHeartbeats 2000000 in
theorem fields_9 (w : World) : Calls Try.prog 34 #[.int .i64 9] w fun e w' => e = .returned (.int .i64 7) ∧ w' = w := by
  go_enter Try.func34, Try.ntmps34
  go_wp2
  go_ret
  exact ⟨rfl, rfl⟩
set_option maxRecDepth 100000 in
set_option maxHeartbeats 2000000 in
theorem only_subs (w : World) : Calls Try.prog 33 #[.agg #[.int .i64 9, .int .i64 31, .int .i64 1, .int .i64 2, .int .i64 0, .int .i64 0, .int .i64 0], .int .i64 7] w fun e w' => e = .returned (.bool true) ∧ Below w.heap.size w w' := by
  go_enter Try.func33, Try.ntmps33
  go_wp2
  go_ret
  exact ⟨rfl, (Below.refl _ _).alloc (Nat.le_refl _) _⟩
set_option maxRecDepth 100000 in
set_option maxHeartbeats 2000000 in
theorem regs_subs (w : World) : Calls Try.prog 35 #[.agg #[.int .i64 9, .int .i64 31, .int .i64 1, .int .i64 2, .int .i64 0, .int .i64 0, .int .i64 0]] w fun e w' => e = .returned (.bool true) ∧ Below w.heap.size w w' := by
  go_enter Try.func35, Try.ntmps35
  go_wp2
  go_ret
  exact ⟨rfl, (Below.refl _ _).alloc (Nat.le_refl _) _⟩
set_option maxRecDepth 100000 in
set_option maxHeartbeats 2000000 in
theorem cond_subs (w : World) : Calls Try.prog 36 #[.agg #[.int .i64 9, .int .i64 31, .int .i64 1, .int .i64 2, .int .i64 0, .int .i64 0, .int .i64 0]] w fun e w' => e = .returned (.bool true) ∧ Below w.heap.size w w' := by
  go_enter Try.func36, Try.ntmps36
  go_wp2
  go_ret
  exact ⟨rfl, (Below.refl _ _).alloc (Nat.le_refl _) _⟩
set_option maxRecDepth 100000 in
set_option maxHeartbeats 2000000 in
theorem imm_subs (w : World) : Calls Try.prog 37 #[.agg #[.int .i64 9, .int .i64 31, .int .i64 1, .int .i64 2, .int .i64 0, .int .i64 0, .int .i64 0]] w fun e w' => e = .returned (.bool true) ∧ Below w.heap.size w w' := by
  go_enter Try.func37, Try.ntmps37
  go_wp2
  go_ret
  exact ⟨rfl, (Below.refl _ _).alloc (Nat.le_refl _) _⟩
theorem check_subs (w : World) : Calls Try.prog 17 #[.agg #[.int .i64 9, .int .i64 31, .int .i64 1, .int .i64 2, .int .i64 0, .int .i64 0, .int .i64 0]] w fun e w' => e = .returned (.int .i64 0) ∧ Below w.heap.size w w' :=
  check_gen 9 31 1 2 0 0 0 7 w isop_9 fields_9 (only_subs) (regs_subs) (cond_subs) (imm_subs)
set_option maxRecDepth 100000 in
set_option maxHeartbeats 2000000 in
theorem isop_7 (w : World) : Calls Try.prog 32 #[.int .i64 7] w fun e w' => e = .returned (.bool true) ∧ w' = w := by
  go_enter Try.func32, Try.ntmps32
  go_wp2
  go_ret
  exact ⟨rfl, rfl⟩
set_option maxRecDepth 100000 in
set_option maxHeartbeats 2000000 in
theorem fields_7 (w : World) : Calls Try.prog 34 #[.int .i64 7] w fun e w' => e = .returned (.int .i64 7) ∧ w' = w := by
  go_enter Try.func34, Try.ntmps34
  go_wp2
  go_ret
  exact ⟨rfl, rfl⟩
set_option maxRecDepth 100000 in
set_option maxHeartbeats 2000000 in
theorem only_add (w : World) : Calls Try.prog 33 #[.agg #[.int .i64 7, .int .i64 4, .int .i64 1, .int .i64 2, .int .i64 0, .int .i64 0, .int .i64 0], .int .i64 7] w fun e w' => e = .returned (.bool true) ∧ Below w.heap.size w w' := by
  go_enter Try.func33, Try.ntmps33
  go_wp2
  go_ret
  exact ⟨rfl, (Below.refl _ _).alloc (Nat.le_refl _) _⟩
set_option maxRecDepth 100000 in
set_option maxHeartbeats 2000000 in
theorem regs_add (w : World) : Calls Try.prog 35 #[.agg #[.int .i64 7, .int .i64 4, .int .i64 1, .int .i64 2, .int .i64 0, .int .i64 0, .int .i64 0]] w fun e w' => e = .returned (.bool true) ∧ Below w.heap.size w w' := by
  go_enter Try.func35, Try.ntmps35
  go_wp2
  go_ret
  exact ⟨rfl, (Below.refl _ _).alloc (Nat.le_refl _) _⟩
set_option maxRecDepth 100000 in
set_option maxHeartbeats 2000000 in
theorem cond_add (w : World) : Calls Try.prog 36 #[.agg #[.int .i64 7, .int .i64 4, .int .i64 1, .int .i64 2, .int .i64 0, .int .i64 0, .int .i64 0]] w fun e w' => e = .returned (.bool true) ∧ Below w.heap.size w w' := by
  go_enter Try.func36, Try.ntmps36
  go_wp2
  go_ret
  exact ⟨rfl, (Below.refl _ _).alloc (Nat.le_refl _) _⟩
set_option maxRecDepth 100000 in
set_option maxHeartbeats 2000000 in
theorem imm_add (w : World) : Calls Try.prog 37 #[.agg #[.int .i64 7, .int .i64 4, .int .i64 1, .int .i64 2, .int .i64 0, .int .i64 0, .int .i64 0]] w fun e w' => e = .returned (.bool true) ∧ Below w.heap.size w w' := by
  go_enter Try.func37, Try.ntmps37
  go_wp2
  go_ret
  exact ⟨rfl, (Below.refl _ _).alloc (Nat.le_refl _) _⟩
theorem check_add (w : World) : Calls Try.prog 17 #[.agg #[.int .i64 7, .int .i64 4, .int .i64 1, .int .i64 2, .int .i64 0, .int .i64 0, .int .i64 0]] w fun e w' => e = .returned (.int .i64 0) ∧ Below w.heap.size w w' :=
  check_gen 7 4 1 2 0 0 0 7 w isop_7 fields_7 (only_add) (regs_add) (cond_add) (imm_add)
set_option maxRecDepth 100000 in
set_option maxHeartbeats 2000000 in
theorem isop_8 (w : World) : Calls Try.prog 32 #[.int .i64 8] w fun e w' => e = .returned (.bool true) ∧ w' = w := by
  go_enter Try.func32, Try.ntmps32
  go_wp2
  go_ret
  exact ⟨rfl, rfl⟩
set_option maxRecDepth 100000 in
set_option maxHeartbeats 2000000 in
theorem fields_8 (w : World) : Calls Try.prog 34 #[.int .i64 8] w fun e w' => e = .returned (.int .i64 7) ∧ w' = w := by
  go_enter Try.func34, Try.ntmps34
  go_wp2
  go_ret
  exact ⟨rfl, rfl⟩
set_option maxRecDepth 100000 in
set_option maxHeartbeats 2000000 in
theorem only_sub (w : World) : Calls Try.prog 33 #[.agg #[.int .i64 8, .int .i64 4, .int .i64 4, .int .i64 2, .int .i64 0, .int .i64 0, .int .i64 0], .int .i64 7] w fun e w' => e = .returned (.bool true) ∧ Below w.heap.size w w' := by
  go_enter Try.func33, Try.ntmps33
  go_wp2
  go_ret
  exact ⟨rfl, (Below.refl _ _).alloc (Nat.le_refl _) _⟩
set_option maxRecDepth 100000 in
set_option maxHeartbeats 2000000 in
theorem regs_sub (w : World) : Calls Try.prog 35 #[.agg #[.int .i64 8, .int .i64 4, .int .i64 4, .int .i64 2, .int .i64 0, .int .i64 0, .int .i64 0]] w fun e w' => e = .returned (.bool true) ∧ Below w.heap.size w w' := by
  go_enter Try.func35, Try.ntmps35
  go_wp2
  go_ret
  exact ⟨rfl, (Below.refl _ _).alloc (Nat.le_refl _) _⟩
set_option maxRecDepth 100000 in
set_option maxHeartbeats 2000000 in
theorem cond_sub (w : World) : Calls Try.prog 36 #[.agg #[.int .i64 8, .int .i64 4, .int .i64 4, .int .i64 2, .int .i64 0, .int .i64 0, .int .i64 0]] w fun e w' => e = .returned (.bool true) ∧ Below w.heap.size w w' := by
  go_enter Try.func36, Try.ntmps36
  go_wp2
  go_ret
  exact ⟨rfl, (Below.refl _ _).alloc (Nat.le_refl _) _⟩
set_option maxRecDepth 100000 in
set_option maxHeartbeats 2000000 in
theorem imm_sub (w : World) : Calls Try.prog 37 #[.agg #[.int .i64 8, .int .i64 4, .int .i64 4, .int .i64 2, .int .i64 0, .int .i64 0, .int .i64 0]] w fun e w' => e = .returned (.bool true) ∧ Below w.heap.size w w' := by
  go_enter Try.func37, Try.ntmps37
  go_wp2
  go_ret
  exact ⟨rfl, (Below.refl _ _).alloc (Nat.le_refl _) _⟩
theorem check_sub (w : World) : Calls Try.prog 17 #[.agg #[.int .i64 8, .int .i64 4, .int .i64 4, .int .i64 2, .int .i64 0, .int .i64 0, .int .i64 0]] w fun e w' => e = .returned (.int .i64 0) ∧ Below w.heap.size w w' :=
  check_gen 8 4 4 2 0 0 0 7 w isop_8 fields_8 (only_sub) (regs_sub) (cond_sub) (imm_sub)
set_option maxRecDepth 100000 in
set_option maxHeartbeats 2000000 in
theorem isop_12 (w : World) : Calls Try.prog 32 #[.int .i64 12] w fun e w' => e = .returned (.bool true) ∧ w' = w := by
  go_enter Try.func32, Try.ntmps32
  go_wp2
  go_ret
  exact ⟨rfl, rfl⟩
set_option maxRecDepth 100000 in
set_option maxHeartbeats 2000000 in
theorem fields_12 (w : World) : Calls Try.prog 34 #[.int .i64 12] w fun e w' => e = .returned (.int .i64 7) ∧ w' = w := by
  go_enter Try.func34, Try.ntmps34
  go_wp2
  go_ret
  exact ⟨rfl, rfl⟩
set_option maxRecDepth 100000 in
set_option maxHeartbeats 2000000 in
theorem only_eor1 (w : World) : Calls Try.prog 33 #[.agg #[.int .i64 12, .int .i64 4, .int .i64 1, .int .i64 2, .int .i64 0, .int .i64 0, .int .i64 0], .int .i64 7] w fun e w' => e = .returned (.bool true) ∧ Below w.heap.size w w' := by
  go_enter Try.func33, Try.ntmps33
  go_wp2
  go_ret
  exact ⟨rfl, (Below.refl _ _).alloc (Nat.le_refl _) _⟩
set_option maxRecDepth 100000 in
set_option maxHeartbeats 2000000 in
theorem regs_eor1 (w : World) : Calls Try.prog 35 #[.agg #[.int .i64 12, .int .i64 4, .int .i64 1, .int .i64 2, .int .i64 0, .int .i64 0, .int .i64 0]] w fun e w' => e = .returned (.bool true) ∧ Below w.heap.size w w' := by
  go_enter Try.func35, Try.ntmps35
  go_wp2
  go_ret
  exact ⟨rfl, (Below.refl _ _).alloc (Nat.le_refl _) _⟩
set_option maxRecDepth 100000 in
set_option maxHeartbeats 2000000 in
theorem cond_eor1 (w : World) : Calls Try.prog 36 #[.agg #[.int .i64 12, .int .i64 4, .int .i64 1, .int .i64 2, .int .i64 0, .int .i64 0, .int .i64 0]] w fun e w' => e = .returned (.bool true) ∧ Below w.heap.size w w' := by
  go_enter Try.func36, Try.ntmps36
  go_wp2
  go_ret
  exact ⟨rfl, (Below.refl _ _).alloc (Nat.le_refl _) _⟩
set_option maxRecDepth 100000 in
set_option maxHeartbeats 2000000 in
theorem imm_eor1 (w : World) : Calls Try.prog 37 #[.agg #[.int .i64 12, .int .i64 4, .int .i64 1, .int .i64 2, .int .i64 0, .int .i64 0, .int .i64 0]] w fun e w' => e = .returned (.bool true) ∧ Below w.heap.size w w' := by
  go_enter Try.func37, Try.ntmps37
  go_wp2
  go_ret
  exact ⟨rfl, (Below.refl _ _).alloc (Nat.le_refl _) _⟩
theorem check_eor1 (w : World) : Calls Try.prog 17 #[.agg #[.int .i64 12, .int .i64 4, .int .i64 1, .int .i64 2, .int .i64 0, .int .i64 0, .int .i64 0]] w fun e w' => e = .returned (.int .i64 0) ∧ Below w.heap.size w w' :=
  check_gen 12 4 1 2 0 0 0 7 w isop_12 fields_12 (only_eor1) (regs_eor1) (cond_eor1) (imm_eor1)
set_option maxRecDepth 100000 in
set_option maxHeartbeats 2000000 in
theorem only_eor2 (w : World) : Calls Try.prog 33 #[.agg #[.int .i64 12, .int .i64 4, .int .i64 4, .int .i64 2, .int .i64 0, .int .i64 0, .int .i64 0], .int .i64 7] w fun e w' => e = .returned (.bool true) ∧ Below w.heap.size w w' := by
  go_enter Try.func33, Try.ntmps33
  go_wp2
  go_ret
  exact ⟨rfl, (Below.refl _ _).alloc (Nat.le_refl _) _⟩
set_option maxRecDepth 100000 in
set_option maxHeartbeats 2000000 in
theorem regs_eor2 (w : World) : Calls Try.prog 35 #[.agg #[.int .i64 12, .int .i64 4, .int .i64 4, .int .i64 2, .int .i64 0, .int .i64 0, .int .i64 0]] w fun e w' => e = .returned (.bool true) ∧ Below w.heap.size w w' := by
  go_enter Try.func35, Try.ntmps35
  go_wp2
  go_ret
  exact ⟨rfl, (Below.refl _ _).alloc (Nat.le_refl _) _⟩
set_option maxRecDepth 100000 in
set_option maxHeartbeats 2000000 in
theorem cond_eor2 (w : World) : Calls Try.prog 36 #[.agg #[.int .i64 12, .int .i64 4, .int .i64 4, .int .i64 2, .int .i64 0, .int .i64 0, .int .i64 0]] w fun e w' => e = .returned (.bool true) ∧ Below w.heap.size w w' := by
  go_enter Try.func36, Try.ntmps36
  go_wp2
  go_ret
  exact ⟨rfl, (Below.refl _ _).alloc (Nat.le_refl _) _⟩
set_option maxRecDepth 100000 in
set_option maxHeartbeats 2000000 in
theorem imm_eor2 (w : World) : Calls Try.prog 37 #[.agg #[.int .i64 12, .int .i64 4, .int .i64 4, .int .i64 2, .int .i64 0, .int .i64 0, .int .i64 0]] w fun e w' => e = .returned (.bool true) ∧ Below w.heap.size w w' := by
  go_enter Try.func37, Try.ntmps37
  go_wp2
  go_ret
  exact ⟨rfl, (Below.refl _ _).alloc (Nat.le_refl _) _⟩
theorem check_eor2 (w : World) : Calls Try.prog 17 #[.agg #[.int .i64 12, .int .i64 4, .int .i64 4, .int .i64 2, .int .i64 0, .int .i64 0, .int .i64 0]] w fun e w' => e = .returned (.int .i64 0) ∧ Below w.heap.size w w' :=
  check_gen 12 4 4 2 0 0 0 7 w isop_12 fields_12 (only_eor2) (regs_eor2) (cond_eor2) (imm_eor2)
set_option maxRecDepth 100000 in
set_option maxHeartbeats 2000000 in
theorem isop_13 (w : World) : Calls Try.prog 32 #[.int .i64 13] w fun e w' => e = .returned (.bool true) ∧ w' = w := by
  go_enter Try.func32, Try.ntmps32
  go_wp2
  go_ret
  exact ⟨rfl, rfl⟩
set_option maxRecDepth 100000 in
set_option maxHeartbeats 2000000 in
theorem fields_13 (w : World) : Calls Try.prog 34 #[.int .i64 13] w fun e w' => e = .returned (.int .i64 15) ∧ w' = w := by
  go_enter Try.func34, Try.ntmps34
  go_wp2
  go_ret
  exact ⟨rfl, rfl⟩
set_option maxRecDepth 100000 in
set_option maxHeartbeats 2000000 in
theorem only_madd (w : World) : Calls Try.prog 33 #[.agg #[.int .i64 13, .int .i64 4, .int .i64 1, .int .i64 2, .int .i64 3, .int .i64 0, .int .i64 0], .int .i64 15] w fun e w' => e = .returned (.bool true) ∧ Below w.heap.size w w' := by
  go_enter Try.func33, Try.ntmps33
  go_wp2
  go_ret
  exact ⟨rfl, (Below.refl _ _).alloc (Nat.le_refl _) _⟩
set_option maxRecDepth 100000 in
set_option maxHeartbeats 2000000 in
theorem regs_madd (w : World) : Calls Try.prog 35 #[.agg #[.int .i64 13, .int .i64 4, .int .i64 1, .int .i64 2, .int .i64 3, .int .i64 0, .int .i64 0]] w fun e w' => e = .returned (.bool true) ∧ Below w.heap.size w w' := by
  go_enter Try.func35, Try.ntmps35
  go_wp2
  go_ret
  exact ⟨rfl, (Below.refl _ _).alloc (Nat.le_refl _) _⟩
set_option maxRecDepth 100000 in
set_option maxHeartbeats 2000000 in
theorem cond_madd (w : World) : Calls Try.prog 36 #[.agg #[.int .i64 13, .int .i64 4, .int .i64 1, .int .i64 2, .int .i64 3, .int .i64 0, .int .i64 0]] w fun e w' => e = .returned (.bool true) ∧ Below w.heap.size w w' := by
  go_enter Try.func36, Try.ntmps36
  go_wp2
  go_ret
  exact ⟨rfl, (Below.refl _ _).alloc (Nat.le_refl _) _⟩
set_option maxRecDepth 100000 in
set_option maxHeartbeats 2000000 in
theorem imm_madd (w : World) : Calls Try.prog 37 #[.agg #[.int .i64 13, .int .i64 4, .int .i64 1, .int .i64 2, .int .i64 3, .int .i64 0, .int .i64 0]] w fun e w' => e = .returned (.bool true) ∧ Below w.heap.size w w' := by
  go_enter Try.func37, Try.ntmps37
  go_wp2
  go_ret
  exact ⟨rfl, (Below.refl _ _).alloc (Nat.le_refl _) _⟩
theorem check_madd (w : World) : Calls Try.prog 17 #[.agg #[.int .i64 13, .int .i64 4, .int .i64 1, .int .i64 2, .int .i64 3, .int .i64 0, .int .i64 0]] w fun e w' => e = .returned (.int .i64 0) ∧ Below w.heap.size w w' :=
  check_gen 13 4 1 2 3 0 0 15 w isop_13 fields_13 (only_madd) (regs_madd) (cond_madd) (imm_madd)
set_option maxRecDepth 100000 in
set_option maxHeartbeats 2000000 in
theorem isop_14 (w : World) : Calls Try.prog 32 #[.int .i64 14] w fun e w' => e = .returned (.bool true) ∧ w' = w := by
  go_enter Try.func32, Try.ntmps32
  go_wp2
  go_ret
  exact ⟨rfl, rfl⟩
set_option maxRecDepth 100000 in
set_option maxHeartbeats 2000000 in
theorem fields_14 (w : World) : Calls Try.prog 34 #[.int .i64 14] w fun e w' => e = .returned (.int .i64 15) ∧ w' = w := by
  go_enter Try.func34, Try.ntmps34
  go_wp2
  go_ret
  exact ⟨rfl, rfl⟩
set_option maxRecDepth 100000 in
set_option maxHeartbeats 2000000 in
theorem only_msub (w : World) : Calls Try.prog 33 #[.agg #[.int .i64 14, .int .i64 4, .int .i64 1, .int .i64 2, .int .i64 4, .int .i64 0, .int .i64 0], .int .i64 15] w fun e w' => e = .returned (.bool true) ∧ Below w.heap.size w w' := by
  go_enter Try.func33, Try.ntmps33
  go_wp2
  go_ret
  exact ⟨rfl, (Below.refl _ _).alloc (Nat.le_refl _) _⟩
set_option maxRecDepth 100000 in
set_option maxHeartbeats 2000000 in
theorem regs_msub (w : World) : Calls Try.prog 35 #[.agg #[.int .i64 14, .int .i64 4, .int .i64 1, .int .i64 2, .int .i64 4, .int .i64 0, .int .i64 0]] w fun e w' => e = .returned (.bool true) ∧ Below w.heap.size w w' := by
  go_enter Try.func35, Try.ntmps35
  go_wp2
  go_ret
  exact ⟨rfl, (Below.refl _ _).alloc (Nat.le_refl _) _⟩
set_option maxRecDepth 100000 in
set_option maxHeartbeats 2000000 in
theorem cond_msub (w : World) : Calls Try.prog 36 #[.agg #[.int .i64 14, .int .i64 4, .int .i64 1, .int .i64 2, .int .i64 4, .int .i64 0, .int .i64 0]] w fun e w' => e = .returned (.bool true) ∧ Below w.heap.size w w' := by
  go_enter Try.func36, Try.ntmps36
  go_wp2
  go_ret
  exact ⟨rfl, (Below.refl _ _).alloc (Nat.le_refl _) _⟩
set_option maxRecDepth 100000 in
set_option maxHeartbeats 2000000 in
theorem imm_msub (w : World) : Calls Try.prog 37 #[.agg #[.int .i64 14, .int .i64 4, .int .i64 1, .int .i64 2, .int .i64 4, .int .i64 0, .int .i64 0]] w fun e w' => e = .returned (.bool true) ∧ Below w.heap.size w w' := by
  go_enter Try.func37, Try.ntmps37
  go_wp2
  go_ret
  exact ⟨rfl, (Below.refl _ _).alloc (Nat.le_refl _) _⟩
theorem check_msub (w : World) : Calls Try.prog 17 #[.agg #[.int .i64 14, .int .i64 4, .int .i64 1, .int .i64 2, .int .i64 4, .int .i64 0, .int .i64 0]] w fun e w' => e = .returned (.int .i64 0) ∧ Below w.heap.size w w' :=
  check_gen 14 4 1 2 4 0 0 15 w isop_14 fields_14 (only_msub) (regs_msub) (cond_msub) (imm_msub)
set_option maxRecDepth 100000 in
set_option maxHeartbeats 2000000 in
theorem isop_2 (w : World) : Calls Try.prog 32 #[.int .i64 2] w fun e w' => e = .returned (.bool true) ∧ w' = w := by
  go_enter Try.func32, Try.ntmps32
  go_wp2
  go_ret
  exact ⟨rfl, rfl⟩
set_option maxRecDepth 100000 in
set_option maxHeartbeats 2000000 in
theorem fields_2 (w : World) : Calls Try.prog 34 #[.int .i64 2] w fun e w' => e = .returned (.int .i64 37) ∧ w' = w := by
  go_enter Try.func34, Try.ntmps34
  go_wp2
  go_ret
  exact ⟨rfl, rfl⟩
set_option maxRecDepth 100000 in
set_option maxHeartbeats 2000000 in
theorem only_movz (d p m : Int) (d1 : 0 ≤ d) (d2 : d ≤ 31) (p1 : 0 ≤ p) (p2 : p ≤ 3) (m1 : 0 ≤ m) (m2 : m ≤ 65535) (w : World) : Calls Try.prog 33 #[.agg #[.int .i64 2, .int .i64 d, .int .i64 0, .int .i64 p, .int .i64 0, .int .i64 0, .int .i64 m], .int .i64 37] w fun e w' => e = .returned (.bool true) ∧ Below w.heap.size w w' := by
  go_enter Try.func33, Try.ntmps33
  go_wp2
  go_ret
  exact ⟨rfl, (Below.refl _ _).alloc (Nat.le_refl _) _⟩
set_option maxRecDepth 100000 in
set_option maxHeartbeats 2000000 in
theorem regs_movz (d p m : Int) (d1 : 0 ≤ d) (d2 : d ≤ 31) (p1 : 0 ≤ p) (p2 : p ≤ 3) (m1 : 0 ≤ m) (m2 : m ≤ 65535) (w : World) : Calls Try.prog 35 #[.agg #[.int .i64 2, .int .i64 d, .int .i64 0, .int .i64 p, .int .i64 0, .int .i64 0, .int .i64 m]] w fun e w' => e = .returned (.bool true) ∧ Below w.heap.size w w' := by
  go_enter Try.func35, Try.ntmps35
  go_wp2
  go_ret
  exact ⟨rfl, (Below.refl _ _).alloc (Nat.le_refl _) _⟩
set_option maxRecDepth 100000 in
set_option maxHeartbeats 2000000 in
theorem cond_movz (d p m : Int) (d1 : 0 ≤ d) (d2 : d ≤ 31) (p1 : 0 ≤ p) (p2 : p ≤ 3) (m1 : 0 ≤ m) (m2 : m ≤ 65535) (w : World) : Calls Try.prog 36 #[.agg #[.int .i64 2, .int .i64 d, .int .i64 0, .int .i64 p, .int .i64 0, .int .i64 0, .int .i64 m]] w fun e w' => e = .returned (.bool true) ∧ Below w.heap.size w w' := by
  go_enter Try.func36, Try.ntmps36
  go_wp2
  go_ret
  exact ⟨rfl, (Below.refl _ _).alloc (Nat.le_refl _) _⟩
set_option maxRecDepth 100000 in
set_option maxHeartbeats 2000000 in
theorem imm_movz (d p m : Int) (d1 : 0 ≤ d) (d2 : d ≤ 31) (p1 : 0 ≤ p) (p2 : p ≤ 3) (m1 : 0 ≤ m) (m2 : m ≤ 65535) (w : World) : Calls Try.prog 37 #[.agg #[.int .i64 2, .int .i64 d, .int .i64 0, .int .i64 p, .int .i64 0, .int .i64 0, .int .i64 m]] w fun e w' => e = .returned (.bool true) ∧ Below w.heap.size w w' := by
  go_enter Try.func37, Try.ntmps37
  go_wp2
  go_ret
  exact ⟨rfl, (Below.refl _ _).alloc (Nat.le_refl _) _⟩
theorem check_movz (d p m : Int) (d1 : 0 ≤ d) (d2 : d ≤ 31) (p1 : 0 ≤ p) (p2 : p ≤ 3) (m1 : 0 ≤ m) (m2 : m ≤ 65535) (w : World) : Calls Try.prog 17 #[.agg #[.int .i64 2, .int .i64 d, .int .i64 0, .int .i64 p, .int .i64 0, .int .i64 0, .int .i64 m]] w fun e w' => e = .returned (.int .i64 0) ∧ Below w.heap.size w w' :=
  check_gen 2 d 0 p 0 0 m 37 w isop_2 fields_2 (only_movz d p m d1 d2 p1 p2 m1 m2) (regs_movz d p m d1 d2 p1 p2 m1 m2) (cond_movz d p m d1 d2 p1 p2 m1 m2) (imm_movz d p m d1 d2 p1 p2 m1 m2)
set_option maxRecDepth 100000 in
set_option maxHeartbeats 2000000 in
theorem isop_3 (w : World) : Calls Try.prog 32 #[.int .i64 3] w fun e w' => e = .returned (.bool true) ∧ w' = w := by
  go_enter Try.func32, Try.ntmps32
  go_wp2
  go_ret
  exact ⟨rfl, rfl⟩
set_option maxRecDepth 100000 in
set_option maxHeartbeats 2000000 in
theorem fields_3 (w : World) : Calls Try.prog 34 #[.int .i64 3] w fun e w' => e = .returned (.int .i64 37) ∧ w' = w := by
  go_enter Try.func34, Try.ntmps34
  go_wp2
  go_ret
  exact ⟨rfl, rfl⟩
set_option maxRecDepth 100000 in
set_option maxHeartbeats 2000000 in
theorem only_movk (d p m : Int) (d1 : 0 ≤ d) (d2 : d ≤ 31) (p1 : 0 ≤ p) (p2 : p ≤ 3) (m1 : 0 ≤ m) (m2 : m ≤ 65535) (w : World) : Calls Try.prog 33 #[.agg #[.int .i64 3, .int .i64 d, .int .i64 0, .int .i64 p, .int .i64 0, .int .i64 0, .int .i64 m], .int .i64 37] w fun e w' => e = .returned (.bool true) ∧ Below w.heap.size w w' := by
  go_enter Try.func33, Try.ntmps33
  go_wp2
  go_ret
  exact ⟨rfl, (Below.refl _ _).alloc (Nat.le_refl _) _⟩
set_option maxRecDepth 100000 in
set_option maxHeartbeats 2000000 in
theorem regs_movk (d p m : Int) (d1 : 0 ≤ d) (d2 : d ≤ 31) (p1 : 0 ≤ p) (p2 : p ≤ 3) (m1 : 0 ≤ m) (m2 : m ≤ 65535) (w : World) : Calls Try.prog 35 #[.agg #[.int .i64 3, .int .i64 d, .int .i64 0, .int .i64 p, .int .i64 0, .int .i64 0, .int .i64 m]] w fun e w' => e = .returned (.bool true) ∧ Below w.heap.size w w' := by
  go_enter Try.func35, Try.ntmps35
  go_wp2
  go_ret
  exact ⟨rfl, (Below.refl _ _).alloc (Nat.le_refl _) _⟩
set_option maxRecDepth 100000 in
set_option maxHeartbeats 2000000 in
theorem cond_movk (d p m : Int) (d1 : 0 ≤ d) (d2 : d ≤ 31) (p1 : 0 ≤ p) (p2 : p ≤ 3) (m1 : 0 ≤ m) (m2 : m ≤ 65535) (w : World) : Calls Try.prog 36 #[.agg #[.int .i64 3, .int .i64 d, .int .i64 0, .int .i64 p, .int .i64 0, .int .i64 0, .int .i64 m]] w fun e w' => e = .returned (.bool true) ∧ Below w.heap.size w w' := by
  go_enter Try.func36, Try.ntmps36
  go_wp2
  go_ret
  exact ⟨rfl, (Below.refl _ _).alloc (Nat.le_refl _) _⟩
set_option maxRecDepth 100000 in
set_option maxHeartbeats 2000000 in
theorem imm_movk (d p m : Int) (d1 : 0 ≤ d) (d2 : d ≤ 31) (p1 : 0 ≤ p) (p2 : p ≤ 3) (m1 : 0 ≤ m) (m2 : m ≤ 65535) (w : World) : Calls Try.prog 37 #[.agg #[.int .i64 3, .int .i64 d, .int .i64 0, .int .i64 p, .int .i64 0, .int .i64 0, .int .i64 m]] w fun e w' => e = .returned (.bool true) ∧ Below w.heap.size w w' := by
  go_enter Try.func37, Try.ntmps37
  go_wp2
  go_ret
  exact ⟨rfl, (Below.refl _ _).alloc (Nat.le_refl _) _⟩
theorem check_movk (d p m : Int) (d1 : 0 ≤ d) (d2 : d ≤ 31) (p1 : 0 ≤ p) (p2 : p ≤ 3) (m1 : 0 ≤ m) (m2 : m ≤ 65535) (w : World) : Calls Try.prog 17 #[.agg #[.int .i64 3, .int .i64 d, .int .i64 0, .int .i64 p, .int .i64 0, .int .i64 0, .int .i64 m]] w fun e w' => e = .returned (.int .i64 0) ∧ Below w.heap.size w w' :=
  check_gen 3 d 0 p 0 0 m 37 w isop_3 fields_3 (only_movk d p m d1 d2 p1 p2 m1 m2) (regs_movk d p m d1 d2 p1 p2 m1 m2) (cond_movk d p m d1 d2 p1 p2 m1 m2) (imm_movk d p m d1 d2 p1 p2 m1 m2)
end Go.Proofs.Ytpjfjdncdiemlaa
