import Derived.Test.YtnmgafaebggeiaaRk
import Derived.Test.YtnmgafaebggeiaaOb
import Derived.WalkKit
import Derived.ProofKit
import Derived.OpenShut
import Derived.Deep.QuietTactic
import Derived.BigQuiet
import Derived.Outline
import Derived.WalkSmall
import Derived.WalkLawsBesides
import Derived.WalkSpells
import Derived.BigGuardPart
import Derived.RegionTactic
import Derived.Deep.RegionHeld3
import Derived.Lib.Hide
import Derived.Deep.MidRow
import Derived.Below
import Derived.Deep.RegionWith
import Derived.Deep.OwnRows
import Derived.Deep.AppendLies
namespace Go.Proofs.Ytnmgafaebggeiaa
open Go.ChangeShapes Go.WideShapes Go.ChangeAt Go.RowKit
set_option linter.unusedVariables false
/-- The law's three events. -/
def evs : Array Value := #[.int .i64 0, .int .i64 5, .int .i64 0, .int .i64 0, .int .i64 1, .bool false, .int .i64 0, .int .i64 0, .int .i64 1, .int .i64 1, .int .i64 7, .int .i64 0, .int .i64 0, .int .i64 0, .bool false, .int .i64 0, .int .i64 0, .int .i64 2, .int .i64 0, .int .i64 7, .int .i64 0, .int .i64 0, .int .i64 0, .bool false, .int .i64 0, .int .i64 0, .int .i64 3]
theorem thread1_0 (w : World) : Calls Try.prog 23 #[.agg #[.int .i64 0, .int .i64 5, .int .i64 0, .int .i64 0, .int .i64 1, .bool false, .int .i64 0, .int .i64 0, .int .i64 1]] w fun e w' => e = .returned (.bool false) ∧ Below w.heap.size w w' := by
  go_enter Try.func23, Try.ntmps23
  go_wp2_with (first | (go_at_call 21; refine (thr_y _ (by omega) (by omega) _).mono ?_; rintro e w' ⟨rfl, rfl⟩))
  go_ret
  exact ⟨rfl, (Below.refl _ _).alloc (Nat.le_refl _) _⟩
theorem thread2_0 (w : World) : Calls Try.prog 25 #[.agg #[.int .i64 0, .int .i64 5, .int .i64 0, .int .i64 0, .int .i64 1, .bool false, .int .i64 0, .int .i64 0, .int .i64 1]] w fun e w' => e = .returned (.int .i64 0) ∧ Below w.heap.size w w' := by
  go_enter Try.func25, Try.ntmps25
  go_wp2
  go_ret
  exact ⟨rfl, (Below.refl _ _).alloc (Nat.le_refl _) _⟩
theorem sync_0 (f : Value) (w : World) : Calls Try.prog 26 #[.agg #[.int .i64 0, .int .i64 5, .int .i64 0, .int .i64 0, .int .i64 1, .bool false, .int .i64 0, .int .i64 0, .int .i64 1], f] w fun e w' => e = .returned (.bool true) ∧ Below w.heap.size w w' := by
  go_enter Try.func26, Try.ntmps26
  go_wp2
  go_ret
  exact ⟨rfl, (Below.refl _ _).alloc (Nat.le_refl _) _⟩
theorem thread1_1 (w : World) : Calls Try.prog 23 #[.agg #[.int .i64 1, .int .i64 7, .int .i64 0, .int .i64 0, .int .i64 0, .bool false, .int .i64 0, .int .i64 0, .int .i64 2]] w fun e w' => e = .returned (.bool false) ∧ Below w.heap.size w w' := by
  go_enter Try.func23, Try.ntmps23
  go_wp2_with (first | (go_at_call 21; refine (thr_y _ (by omega) (by omega) _).mono ?_; rintro e w' ⟨rfl, rfl⟩))
  go_ret
  exact ⟨rfl, (Below.refl _ _).alloc (Nat.le_refl _) _⟩
theorem thread2_1 (w : World) : Calls Try.prog 25 #[.agg #[.int .i64 1, .int .i64 7, .int .i64 0, .int .i64 0, .int .i64 0, .bool false, .int .i64 0, .int .i64 0, .int .i64 2]] w fun e w' => e = .returned (.int .i64 1) ∧ Below w.heap.size w w' := by
  go_enter Try.func25, Try.ntmps25
  go_wp2
  go_ret
  exact ⟨rfl, (Below.refl _ _).alloc (Nat.le_refl _) _⟩
theorem sync_1 (f : Value) (w : World) : Calls Try.prog 26 #[.agg #[.int .i64 1, .int .i64 7, .int .i64 0, .int .i64 0, .int .i64 0, .bool false, .int .i64 0, .int .i64 0, .int .i64 2], f] w fun e w' => e = .returned (.bool false) ∧ Below w.heap.size w w' := by
  go_enter Try.func26, Try.ntmps26
  go_wp2
  go_ret
  exact ⟨rfl, (Below.refl _ _).alloc (Nat.le_refl _) _⟩
theorem thread1_2 (w : World) : Calls Try.prog 23 #[.agg #[.int .i64 0, .int .i64 7, .int .i64 0, .int .i64 0, .int .i64 0, .bool false, .int .i64 0, .int .i64 0, .int .i64 3]] w fun e w' => e = .returned (.bool false) ∧ Below w.heap.size w w' := by
  go_enter Try.func23, Try.ntmps23
  go_wp2_with (first | (go_at_call 21; refine (thr_y _ (by omega) (by omega) _).mono ?_; rintro e w' ⟨rfl, rfl⟩))
  go_ret
  exact ⟨rfl, (Below.refl _ _).alloc (Nat.le_refl _) _⟩
theorem thread2_2 (w : World) : Calls Try.prog 25 #[.agg #[.int .i64 0, .int .i64 7, .int .i64 0, .int .i64 0, .int .i64 0, .bool false, .int .i64 0, .int .i64 0, .int .i64 3]] w fun e w' => e = .returned (.int .i64 0) ∧ Below w.heap.size w w' := by
  go_enter Try.func25, Try.ntmps25
  go_wp2
  go_ret
  exact ⟨rfl, (Below.refl _ _).alloc (Nat.le_refl _) _⟩
theorem sync_2 (f : Value) (w : World) : Calls Try.prog 26 #[.agg #[.int .i64 0, .int .i64 7, .int .i64 0, .int .i64 0, .int .i64 0, .bool false, .int .i64 0, .int .i64 0, .int .i64 3], f] w fun e w' => e = .returned (.bool false) ∧ Below w.heap.size w w' := by
  go_enter Try.func26, Try.ntmps26
  go_wp2
  go_ret
  exact ⟨rfl, (Below.refl _ _).alloc (Nat.le_refl _) _⟩
set_option maxRecDepth 100000 in
set_option maxHeartbeats 2000000 in
theorem index_e (E : Nat) (w : World) (hE : rowAt w E = some evs) : Calls Try.prog 30 #[.slice (some ⟨E, 0, none⟩) 3 3, .func (.func 23) #[] #[]] w fun e w' => e = .returned (.int .i64 (-1)) ∧ Below w.heap.size w w' := by
  have HE0 := Lib.hid hE
  clear hE
  go_enter Try.func30, Try.ntmps30
  go_wp2
  refine wp_loop_rounds 4 ?_
  rw [rounds_succ]
  have c0 : w.cell? ⟨E, 0, none⟩ = some (.int .i64 0) := rowAt_cell HE0.out 0
  have c1 : w.cell? ⟨E, 1, none⟩ = some (.int .i64 5) := rowAt_cell HE0.out 1
  have c2 : w.cell? ⟨E, 2, none⟩ = some (.int .i64 0) := rowAt_cell HE0.out 2
  have c3 : w.cell? ⟨E, 3, none⟩ = some (.int .i64 0) := rowAt_cell HE0.out 3
  have c4 : w.cell? ⟨E, 4, none⟩ = some (.int .i64 1) := rowAt_cell HE0.out 4
  have c5 : w.cell? ⟨E, 5, none⟩ = some (.bool false) := rowAt_cell HE0.out 5
  have c6 : w.cell? ⟨E, 6, none⟩ = some (.int .i64 0) := rowAt_cell HE0.out 6
  have c7 : w.cell? ⟨E, 7, none⟩ = some (.int .i64 0) := rowAt_cell HE0.out 7
  have c8 : w.cell? ⟨E, 8, none⟩ = some (.int .i64 1) := rowAt_cell HE0.out 8
  go_wp2_with (fail)
  refine (thread1_0 _).mono ?_
  rintro e w1 ⟨rfl, hb⟩
  have HE1 := Lib.hid (rowAt_below HE0.out hb rfl)
  have HB1 := Lib.hid hb
  clear hb c0 c1 c2 c3 c4 c5 c6 c7 c8
  go_wp2
  rw [rounds_succ]
  have c0 : w1.cell? ⟨E, 9, none⟩ = some (.int .i64 1) := rowAt_cell HE1.out 9
  have c1 : w1.cell? ⟨E, 10, none⟩ = some (.int .i64 7) := rowAt_cell HE1.out 10
  have c2 : w1.cell? ⟨E, 11, none⟩ = some (.int .i64 0) := rowAt_cell HE1.out 11
  have c3 : w1.cell? ⟨E, 12, none⟩ = some (.int .i64 0) := rowAt_cell HE1.out 12
  have c4 : w1.cell? ⟨E, 13, none⟩ = some (.int .i64 0) := rowAt_cell HE1.out 13
  have c5 : w1.cell? ⟨E, 14, none⟩ = some (.bool false) := rowAt_cell HE1.out 14
  have c6 : w1.cell? ⟨E, 15, none⟩ = some (.int .i64 0) := rowAt_cell HE1.out 15
  have c7 : w1.cell? ⟨E, 16, none⟩ = some (.int .i64 0) := rowAt_cell HE1.out 16
  have c8 : w1.cell? ⟨E, 17, none⟩ = some (.int .i64 2) := rowAt_cell HE1.out 17
  go_wp2_with (fail)
  refine (thread1_1 _).mono ?_
  rintro e w2 ⟨rfl, hb⟩
  have HE2 := Lib.hid (rowAt_below HE1.out hb rfl)
  have HB2 := Lib.hid (HB1.out.trans (hb.mono HB1.out.size))
  clear hb c0 c1 c2 c3 c4 c5 c6 c7 c8
  go_wp2
  rw [rounds_succ]
  have c0 : w2.cell? ⟨E, 18, none⟩ = some (.int .i64 0) := rowAt_cell HE2.out 18
  have c1 : w2.cell? ⟨E, 19, none⟩ = some (.int .i64 7) := rowAt_cell HE2.out 19
  have c2 : w2.cell? ⟨E, 20, none⟩ = some (.int .i64 0) := rowAt_cell HE2.out 20
  have c3 : w2.cell? ⟨E, 21, none⟩ = some (.int .i64 0) := rowAt_cell HE2.out 21
  have c4 : w2.cell? ⟨E, 22, none⟩ = some (.int .i64 0) := rowAt_cell HE2.out 22
  have c5 : w2.cell? ⟨E, 23, none⟩ = some (.bool false) := rowAt_cell HE2.out 23
  have c6 : w2.cell? ⟨E, 24, none⟩ = some (.int .i64 0) := rowAt_cell HE2.out 24
  have c7 : w2.cell? ⟨E, 25, none⟩ = some (.int .i64 0) := rowAt_cell HE2.out 25
  have c8 : w2.cell? ⟨E, 26, none⟩ = some (.int .i64 3) := rowAt_cell HE2.out 26
  go_wp2_with (fail)
  refine (thread1_2 _).mono ?_
  rintro e w3 ⟨rfl, hb⟩
  have HE3 := Lib.hid (rowAt_below HE2.out hb rfl)
  have HB3 := Lib.hid (HB2.out.trans (hb.mono HB2.out.size))
  clear hb c0 c1 c2 c3 c4 c5 c6 c7 c8
  go_wp2
  rw [rounds_succ]
  go_wp2
  go_ret
  exact ⟨rfl, HB3.out⟩
theorem contains_e (E : Nat) (w : World) (hE : rowAt w E = some evs) : Calls Try.prog 22 #[.slice (some ⟨E, 0, none⟩) 3 3, .func (.func 23) #[] #[]] w fun e w' => e = .returned (.bool false) ∧ Below w.heap.size w w' := by
  have H := Lib.hid (index_e E w hE)
  clear hE
  go_enter Try.func22, Try.ntmps22
  go_wp2_with fail
  refine H.out.mono ?_
  rintro e w1 ⟨rfl, hb⟩
  have HB := Lib.hid hb
  clear hb
  go_wp2
  go_ret
  exact ⟨rfl, HB.out⟩
end Go.Proofs.Ytnmgafaebggeiaa
