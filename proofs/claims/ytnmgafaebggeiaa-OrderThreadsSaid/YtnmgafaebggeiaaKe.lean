import Derived.Deep.CutBlock
import Derived.Deep.DeepCutAuto
import Derived.Test.YtnmgafaebggeiaaKd
import Derived.WalkKit
import Derived.ProofKit
import Derived.OpenShut
import Derived.Deep.QuietTactic
import Derived.BigQuiet
import Derived.Outline
import Derived.WalkSmall
import Derived.WalkLawsBesides
import Derived.WalkSpells
import Derived.BigGuardPart
import Derived.RegionTactic
import Derived.Deep.RegionHeld3
import Derived.Lib.Hide
import Derived.Deep.MidRow
import Derived.Below
import Derived.Deep.RegionWith
import Derived.Deep.OwnRows
import Derived.Deep.AppendLies
namespace Go.Proofs.Ytnmgafaebggeiaa
open Go.ChangeShapes Go.WideShapes Go.ChangeAt Go.RowKit
set_option linter.unusedVariables false
set_option maxRecDepth 100000 in
set_option maxHeartbeats 4000000 in
theorem plain_0_0 {E Y R S K g0 p0 g1 p1 : Nat} {m1 m2 : Value} (w : World) (hk : Kn E Y R S g0 p0 g1 p1 (SA0 E Y R K m1 m2) w) : Calls Try.prog 28 #[.pointer (some ⟨S, 0, none⟩), .int .i64 0] w fun e w' => e = .returned (.tuple #[]) ∧ Below w.heap.size w w' := by
  have s0 : w.cell? ⟨S, 1, none⟩ = some (.slice (some ⟨Y, 0, none⟩) 3 3) := rowAt_cell hk.st 1
  have s2 : w.cell? ⟨S, 2, none⟩ = some (.slice (some ⟨R, 0, none⟩) 4 4) := rowAt_cell hk.st 2
  have s3 : w.cell? ⟨S, 3, none⟩ = some (.int .i64 0) := rowAt_cell hk.st 3
  have r0 : w.cell? ⟨R, 0, none⟩ = some (.slice (some ⟨g0, 0, none⟩) 2 p0) := rowAt_cell hk.rr 0
  have q0 := hk.a0
  have y0 : w.cell? ⟨Y, 0, none⟩ = some (.bool true) := rowAt_cell hk.yy 0
  have h0 := hk.h0
  have h1 := hk.h1
  clear hk
  go_enter Try.func28, Try.ntmps28
  go_wp2
  refine wp_loop_rounds 1 ?_
  rw [rounds_succ]
  go_wp2
  go_quiet (fail)
  go_wp2
  go_end0
  exact ⟨rfl, below_drewN (Below.refl _ _) _⟩
set_option maxRecDepth 100000 in
set_option maxHeartbeats 4000000 in
theorem plain_3_0 {E Y R S K g0 p0 g1 p1 : Nat} {m1 m2 : Value} (w : World) (hk : Kn E Y R S g0 p0 g1 p1 (SA3 E Y R K m1 m2) w) : Calls Try.prog 28 #[.pointer (some ⟨S, 0, none⟩), .int .i64 0] w fun e w' => e = .returned (.tuple #[]) ∧ Below w.heap.size w w' := by
  have s0 : w.cell? ⟨S, 1, none⟩ = some (.slice (some ⟨Y, 0, none⟩) 3 3) := rowAt_cell hk.st 1
  have s2 : w.cell? ⟨S, 2, none⟩ = some (.slice (some ⟨R, 0, none⟩) 4 4) := rowAt_cell hk.st 2
  have s3 : w.cell? ⟨S, 3, none⟩ = some (.int .i64 2) := rowAt_cell hk.st 3
  have r0 : w.cell? ⟨R, 0, none⟩ = some (.slice (some ⟨g0, 0, none⟩) 2 p0) := rowAt_cell hk.rr 0
  clear hk
  go_enter Try.func28, Try.ntmps28
  go_wp2
  refine wp_loop_rounds 1 ?_
  rw [rounds_succ]
  go_wp2
  go_quiet (fail)
  go_wp2
  go_end0
  exact ⟨rfl, below_drewN (Below.refl _ _) _⟩
set_option maxRecDepth 100000 in
set_option maxHeartbeats 4000000 in
theorem plain_3_2 {E Y R S K g0 p0 g1 p1 : Nat} {m1 m2 : Value} (w : World) (hk : Kn E Y R S g0 p0 g1 p1 (SA3 E Y R K m1 m2) w) : Calls Try.prog 28 #[.pointer (some ⟨S, 0, none⟩), .int .i64 2] w fun e w' => e = .returned (.tuple #[]) ∧ Below w.heap.size w w' := by
  have s0 : w.cell? ⟨S, 1, none⟩ = some (.slice (some ⟨Y, 0, none⟩) 3 3) := rowAt_cell hk.st 1
  have s2 : w.cell? ⟨S, 2, none⟩ = some (.slice (some ⟨R, 0, none⟩) 4 4) := rowAt_cell hk.st 2
  have s3 : w.cell? ⟨S, 5, none⟩ = some (.int .i64 0) := rowAt_cell hk.st 5
  have r0 : w.cell? ⟨R, 2, none⟩ = some (.slice none 0 0) := rowAt_cell hk.rr 2
  clear hk
  go_enter Try.func28, Try.ntmps28
  go_wp2
  refine wp_loop_rounds 1 ?_
  rw [rounds_succ]
  go_wp2
  go_quiet (fail)
  go_wp2
  go_end0
  exact ⟨rfl, below_drewN (Below.refl _ _) _⟩
set_option maxRecDepth 100000 in
set_option maxHeartbeats 4000000 in
theorem plain_3_3 {E Y R S K g0 p0 g1 p1 : Nat} {m1 m2 : Value} (w : World) (hk : Kn E Y R S g0 p0 g1 p1 (SA3 E Y R K m1 m2) w) : Calls Try.prog 28 #[.pointer (some ⟨S, 0, none⟩), .int .i64 3] w fun e w' => e = .returned (.tuple #[]) ∧ Below w.heap.size w w' := by
  have s0 : w.cell? ⟨S, 1, none⟩ = some (.slice (some ⟨Y, 0, none⟩) 3 3) := rowAt_cell hk.st 1
  have s2 : w.cell? ⟨S, 2, none⟩ = some (.slice (some ⟨R, 0, none⟩) 4 4) := rowAt_cell hk.st 2
  have s3 : w.cell? ⟨S, 6, none⟩ = some (.int .i64 0) := rowAt_cell hk.st 6
  have r0 : w.cell? ⟨R, 3, none⟩ = some (.slice none 0 0) := rowAt_cell hk.rr 3
  clear hk
  go_enter Try.func28, Try.ntmps28
  go_wp2
  refine wp_loop_rounds 1 ?_
  rw [rounds_succ]
  go_wp2
  go_quiet (fail)
  go_wp2
  go_end0
  exact ⟨rfl, below_drewN (Below.refl _ _) _⟩
set_option maxRecDepth 100000 in
set_option maxHeartbeats 4000000 in
theorem plain_1_0 {E Y R S K g0 p0 g1 p1 : Nat} {m1 m2 : Value} (w : World) (hk : Kn E Y R S g0 p0 g1 p1 (SA1 E Y R K m1 m2) w) (hls : E ≠ S ∧ Y ≠ S ∧ R ≠ S ∧ g0 ≠ S ∧ g1 ≠ S) (hlk : E ≠ K ∧ Y ≠ K ∧ R ≠ K ∧ g0 ≠ K ∧ g1 ≠ K) (hKS : K ≠ S) (hka : rowAt w K = some #[.int .i64 1, .int .i64 0, .int .i64 0, .int .i64 0, .int .i64 0, .int .i64 0, .int .i64 0, .int .i64 0, .int .i64 0, .int .i64 0, .int .i64 0, .int .i64 0]) : Calls Try.prog 28 #[.pointer (some ⟨S, 0, none⟩), .int .i64 0] w (StampP E Y R S K g0 p0 g1 p1 (SA2 E Y R K m1 m2) #[.int .i64 1, .int .i64 0, .int .i64 0, .int .i64 0, .int .i64 0, .int .i64 0, .int .i64 0, .int .i64 0, .int .i64 2, .int .i64 0, .int .i64 0, .int .i64 0] w) := by
  have s0 : w.cell? ⟨S, 1, none⟩ = some (.slice (some ⟨Y, 0, none⟩) 3 3) := rowAt_cell hk.st 1
  have s2 : w.cell? ⟨S, 2, none⟩ = some (.slice (some ⟨R, 0, none⟩) 4 4) := rowAt_cell hk.st 2
  have s3 : w.cell? ⟨S, 3, none⟩ = some (.int .i64 1) := rowAt_cell hk.st 3
  have r0 : w.cell? ⟨R, 0, none⟩ = some (.slice (some ⟨g0, 0, none⟩) 2 p0) := rowAt_cell hk.rr 0
  have q0 := hk.a1
  have y0 : w.cell? ⟨Y, 2, none⟩ = some (.bool false) := rowAt_cell hk.yy 2
  have h0 := hk.h0
  have h1 := hk.h1
  have HK := Lib.hid hk
  clear hk
  go_enter Try.func28, Try.ntmps28
  go_wp2
  refine wp_loop_rounds 2 ?_
  rw [rounds_succ]
  go_wp2
  go_quiet (fail)
  go_wp2
  clear s0 s2 s3 r0 q0 y0
  replace HK := Lib.hid (HK.out.past (below_drewN (Below.refl w.heap.size w) nq) rfl)
  have HA : Hid (rowAt (w.drewN nq) K = some #[.int .i64 1, .int .i64 0, .int .i64 0, .int .i64 0, .int .i64 0, .int .i64 0, .int .i64 0, .int .i64 0, .int .i64 0, .int .i64 0, .int .i64 0, .int .i64 0]) := Lib.hid hka
  have HB : Hid (∀ B, B ≤ S → B ≤ K → B ≤ w.heap.size → Below B w (w.drewN nq)) := Lib.hid (fun B _ _ _ => below_drewN (Below.refl _ _) _)
  clear hka
  generalize w.drewN nq = W at HK HA HB ⊢
  refine wp_region_held_drew (S := (fun w' => w'.cell? ⟨S, 2, none⟩ = some (.slice (some ⟨R, 0, none⟩) 4 4) ∧ w'.cell? ⟨R, 0, none⟩ = some (.slice (some ⟨g0, 0, none⟩) 2 p0) ∧ w'.cell? ⟨g0, 1, none⟩ = some (.int .i64 2))) (by kernel_rfl) ⟨rowAt_cell HK.out.st 2, rowAt_cell HK.out.rr 0, HK.out.a1⟩ (fun hHeld => ?_)
  replace HK := Lib.hid (HK.out.past (Below.refl W.heap.size W).drew rfl)
  replace HA : Hid (rowAt W.drew K = some #[.int .i64 1, .int .i64 0, .int .i64 0, .int .i64 0, .int .i64 0, .int .i64 0, .int .i64 0, .int .i64 0, .int .i64 0, .int .i64 0, .int .i64 0, .int .i64 0]) := HA
  replace HB : Hid (∀ B, B ≤ S → B ≤ K → B ≤ w.heap.size → Below B w W.drew) := Lib.hid (fun B a b c => (HB.out B a b c).drew)
  generalize W.drew = v at hHeld HK HA HB ⊢
  refine wpAnyH_take (i := 0) (oi := { dst := some 43, op := Op.move (Operand.tmp 0), type := 50, pos := "stamp.go:103", after := #[], guard := none }) (v := ?_) rfl (by kernel_rfl) (by kernel_rfl) (by kernel_rfl) (fun _ _ _ h => h) (Or.inl ⟨by rfl, ?_⟩) (by assumption) ?_
  rotate_left
  · (intro w9 hSw; (try dsimp only at hSw); go_split_ands; go_simp; with_reducible rfl)
  try simp only [Act.put, List.setIfInBounds_toArray, List.set_cons_zero, List.set_cons_succ]
  refine wpAnyH_take (i := 1) (oi := { dst := some 44, op := Op.move (Operand.tmp 0), type := 50, pos := "stamp.go:103", after := #[], guard := none }) (v := ?_) rfl (by kernel_rfl) (by kernel_rfl) (by kernel_rfl) (fun _ _ _ h => h) (Or.inl ⟨by rfl, ?_⟩) (by assumption) ?_
  rotate_left
  · (intro w9 hSw; (try dsimp only at hSw); go_split_ands; go_simp; with_reducible rfl)
  try simp only [Act.put, List.setIfInBounds_toArray, List.set_cons_zero, List.set_cons_succ]
  refine wpAnyH_take (i := 2) (oi := { dst := some 45, op := Op.nilCheck (Operand.tmp 44), type := 0, pos := "stamp.go:103", after := #[{ on := 1, ground := Ground.data }], guard := none }) (v := ?_) rfl (by kernel_rfl) (by kernel_rfl) (by kernel_rfl) (fun _ _ _ h => h) (Or.inl ⟨by rfl, ?_⟩) (by assumption) ?_
  rotate_left
  · (intro w9 hSw; (try dsimp only at hSw); go_split_ands; go_simp; with_reducible rfl)
  try simp only [Act.put, List.setIfInBounds_toArray, List.set_cons_zero, List.set_cons_succ]
  refine wpAnyH_take (i := 3) (oi := { dst := some 46, op := Op.fieldAddr 59 (Operand.tmp 45) 2, type := 0, pos := "stamp.go:103", after := #[{ on := 2, ground := Ground.data }], guard := none }) (v := ?_) rfl (by kernel_rfl) (by kernel_rfl) (by kernel_rfl) (fun _ _ _ h => h) (Or.inl ⟨by rfl, ?_⟩) (by assumption) ?_
  rotate_left
  · (intro w9 hSw; (try dsimp only at hSw); go_split_ands; go_simp; with_reducible rfl)
  try simp only [Act.put, List.setIfInBounds_toArray, List.set_cons_zero, List.set_cons_succ]
  refine wpAnyH_take (i := 4) (oi := { dst := some 47, op := Op.load 52 (Operand.tmp 46), type := 52, pos := "stamp.go:103", after := #[{ on := 3, ground := Ground.data }], guard := none }) (v := ?_) rfl (by kernel_rfl) (by kernel_rfl) (by kernel_rfl) (fun _ _ _ h => h) (Or.inl ⟨by rfl, ?_⟩) (by assumption) ?_
  rotate_left
  · (intro w9 hSw; (try dsimp only at hSw); go_split_ands; go_simp; with_reducible rfl)
  try simp only [Act.put, List.setIfInBounds_toArray, List.set_cons_zero, List.set_cons_succ]
  refine wpAnyH_take (i := 5) (oi := { dst := some 48, op := Op.move (Operand.tmp 1), type := 3, pos := "stamp.go:103", after := #[], guard := none }) (v := ?_) rfl (by kernel_rfl) (by kernel_rfl) (by kernel_rfl) (fun _ _ _ h => h) (Or.inl ⟨by rfl, ?_⟩) (by assumption) ?_
  rotate_left
  · (intro w9 hSw; (try dsimp only at hSw); go_split_ands; go_simp; with_reducible rfl)
  try simp only [Act.put, List.setIfInBounds_toArray, List.set_cons_zero, List.set_cons_succ]
  refine wpAnyH_take (i := 6) (oi := { dst := some 49, op := Op.indexAddr 52 (Operand.tmp 47) (Operand.tmp 48), type := 0, pos := "stamp.go:103", after := #[{ on := 4, ground := Ground.data }, { on := 5, ground := Ground.data }], guard := none }) (v := ?_) rfl (by kernel_rfl) (by kernel_rfl) (by kernel_rfl) (fun _ _ _ h => h) (Or.inl ⟨by rfl, ?_⟩) (by assumption) ?_
  rotate_left
  · (intro w9 hSw; (try dsimp only at hSw); go_split_ands; go_simp; with_reducible rfl)
  try simp only [Act.put, List.setIfInBounds_toArray, List.set_cons_zero, List.set_cons_succ]
  refine wpAnyH_take (i := 7) (oi := { dst := some 50, op := Op.load 61 (Operand.tmp 49), type := 61, pos := "stamp.go:103", after := #[{ on := 6, ground := Ground.data }], guard := none }) (v := ?_) rfl (by kernel_rfl) (by kernel_rfl) (by kernel_rfl) (fun _ _ _ h => h) (Or.inl ⟨by rfl, ?_⟩) (by assumption) ?_
  rotate_left
  · (intro w9 hSw; (try dsimp only at hSw); go_split_ands; go_simp; with_reducible rfl)
  try simp only [Act.put, List.setIfInBounds_toArray, List.set_cons_zero, List.set_cons_succ]
  refine wpAnyH_take (i := 8) (oi := { dst := some 51, op := Op.move (Operand.tmp 0), type := 50, pos := "stamp.go:103", after := #[], guard := none }) (v := ?_) rfl (by kernel_rfl) (by kernel_rfl) (by kernel_rfl) (fun _ _ _ h => h) (Or.inl ⟨by rfl, ?_⟩) (by assumption) ?_
  rotate_left
  · (intro w9 hSw; (try dsimp only at hSw); go_split_ands; go_simp; with_reducible rfl)
  try simp only [Act.put, List.setIfInBounds_toArray, List.set_cons_zero, List.set_cons_succ]
  refine wpAnyH_take (i := 9) (oi := { dst := some 52, op := Op.move (Operand.tmp 1), type := 3, pos := "stamp.go:103", after := #[], guard := none }) (v := ?_) rfl (by kernel_rfl) (by kernel_rfl) (by kernel_rfl) (fun _ _ _ h => h) (Or.inl ⟨by rfl, ?_⟩) (by assumption) ?_
  rotate_left
  · (intro w9 hSw; (try dsimp only at hSw); go_split_ands; go_simp; with_reducible rfl)
  try simp only [Act.put, List.setIfInBounds_toArray, List.set_cons_zero, List.set_cons_succ]
  refine wpAnyH_take (i := 10) (oi := { dst := some 53, op := Op.nilCheck (Operand.tmp 51), type := 0, pos := "stamp.go:103", after := #[{ on := 8, ground := Ground.data }], guard := none }) (v := ?_) rfl (by kernel_rfl) (by kernel_rfl) (by kernel_rfl) (fun _ _ _ h => h) (Or.inl ⟨by rfl, ?_⟩) (by assumption) ?_
  rotate_left
  · (intro w9 hSw; (try dsimp only at hSw); go_split_ands; go_simp; with_reducible rfl)
  try simp only [Act.put, List.setIfInBounds_toArray, List.set_cons_zero, List.set_cons_succ]
  refine wpAnyH_take (i := 11) (oi := { dst := some 54, op := Op.fieldAddr 59 (Operand.tmp 53) 3, type := 0, pos := "stamp.go:103", after := #[{ on := 10, ground := Ground.data }], guard := none }) (v := ?_) rfl (by kernel_rfl) (by kernel_rfl) (by kernel_rfl) (fun _ _ _ h => h) (Or.inl ⟨by rfl, ?_⟩) (by assumption) ?_
  rotate_left
  · (intro w9 hSw; (try dsimp only at hSw); go_split_ands; go_simp; with_reducible rfl)
  try simp only [Act.put, List.setIfInBounds_toArray, List.set_cons_zero, List.set_cons_succ]
  refine wpAnyH_take (i := 12) (oi := { dst := some 55, op := Op.indexAddr 24 (Operand.tmp 54) (Operand.tmp 52), type := 0, pos := "stamp.go:103", after := #[{ on := 11, ground := Ground.data }, { on := 9, ground := Ground.data }], guard := none }) (v := ?_) rfl (by kernel_rfl) (by kernel_rfl) (by kernel_rfl) (fun _ _ _ h => h) (Or.inl ⟨by rfl, ?_⟩) (by assumption) ?_
  rotate_left
  · (intro w9 hSw; (try dsimp only at hSw); go_split_ands; go_simp; with_reducible rfl)
  try simp only [Act.put, List.setIfInBounds_toArray, List.set_cons_zero, List.set_cons_succ]
  refine wpAnyH_ready (rs := [13]) (by kernel_rfl) (by simp) ?_
  refine AllReadyH.cons (o := { dst := some 56, op := Op.load 3 (Operand.tmp 55), type := 3, pos := "stamp.go:103", after := #[{ on := 12, ground := Ground.data }], guard := none }) rfl (fun K' hK => ?_) AllReadyH.nil
  have z0 : v.cell? ⟨S, 3, none⟩ = some (.int .i64 1) := rowAt_cell HK.out.st 3
  go_simp
  refine hK.out _ _ ⟨rowAt_cell HK.out.st 2, rowAt_cell HK.out.rr 0, HK.out.a1⟩ (fun hHeld => ?_)
  clear hK K' z0
  try simp only [Act.put, List.setIfInBounds_toArray, List.set_cons_zero, List.set_cons_succ]
  refine wpAnyH_take (i := 14) (oi := { dst := some 57, op := Op.indexAddr 61 (Operand.tmp 50) (Operand.tmp 56), type := 0, pos := "stamp.go:103", after := #[{ on := 7, ground := Ground.data }, { on := 13, ground := Ground.data }], guard := none }) (v := ?_) rfl (by kernel_rfl) (by kernel_rfl) (by kernel_rfl) (fun _ _ _ h => h) (Or.inl ⟨by rfl, ?_⟩) (by assumption) ?_
  rotate_left
  · (intro w9 hSw; (try dsimp only at hSw); go_split_ands; go_simp; with_reducible rfl)
  try simp only [Act.put, List.setIfInBounds_toArray, List.set_cons_zero, List.set_cons_succ]
  refine wpAnyH_take (i := 15) (oi := { dst := some 58, op := Op.load 3 (Operand.tmp 57), type := 3, pos := "stamp.go:103", after := #[{ on := 14, ground := Ground.data }], guard := none }) (v := ?_) rfl (by kernel_rfl) (by kernel_rfl) (by kernel_rfl) (fun _ _ _ h => h) (Or.inl ⟨by rfl, ?_⟩) (by assumption) ?_
  rotate_left
  · (intro w9 hSw; (try dsimp only at hSw); go_split_ands; go_simp; with_reducible rfl)
  try simp only [Act.put, List.setIfInBounds_toArray, List.set_cons_zero, List.set_cons_succ]
  refine wpAnyH_ready (rs := [16]) (by kernel_rfl) (by simp) ?_
  refine AllReadyH.cons (o := { dst := some 59, op := Op.call { callee := Callee.value (Operand.func 29), args := #[Operand.tmp 43, Operand.tmp 58], argTypes := #[50, 3] }, type := 0, pos := "stamp.go:103", after := #[{ on := 0, ground := Ground.data }, { on := 15, ground := Ground.data }], guard := none }) rfl (fun K' hK => ?_) AllReadyH.nil
  go_simp
  go_at_call 29
  refine (stamp_2 _ HK.out hls hlk hKS HA.out).mono ?_
  rintro e u ⟨rfl, hk2, ha2, hb2⟩
  refine hK.out _ _ ⟨rowAt_cell hk2.st 2, rowAt_cell hk2.rr 0, hk2.a1⟩ (fun hHeld => ?_)
  clear hK K'
  try simp only [Act.put, List.setIfInBounds_toArray, List.set_cons_zero, List.set_cons_succ]
  refine wpAnyH_done (by kernel_rfl) ?_ _
  clear hHeld
  have HU : Hid (∀ B, B ≤ S → B ≤ K → B ≤ w.heap.size → Below B w u) := Lib.hid (fun B a b c => (HB.out B a b c).trans (hb2 B a b (Nat.le_trans c (HB.out B a b c).size)))
  clear HK HA HB hb2
  have HK := Lib.hid hk2
  have HA := Lib.hid ha2
  have s0 : u.cell? ⟨S, 1, none⟩ = some (.slice (some ⟨Y, 0, none⟩) 3 3) := rowAt_cell HK.out.st 1
  have s2 : u.cell? ⟨S, 2, none⟩ = some (.slice (some ⟨R, 0, none⟩) 4 4) := rowAt_cell HK.out.st 2
  have s3 : u.cell? ⟨S, 3, none⟩ = some (.int .i64 2) := rowAt_cell HK.out.st 3
  have r0 : u.cell? ⟨R, 0, none⟩ = some (.slice (some ⟨g0, 0, none⟩) 2 p0) := rowAt_cell HK.out.rr 0
  clear hk2 ha2
  go_wp2
  rw [rounds_succ]
  go_wp2
  go_quiet (fail)
  go_wp2
  go_end0
  exact ⟨rfl, HK.out.past (below_drewN (Below.refl u.heap.size u) _) rfl, HA.out, fun B a b c => below_drewN (HU.out B a b c) _⟩
set_option maxRecDepth 100000 in
set_option maxHeartbeats 4000000 in
theorem plain_2_1 {E Y R S K g0 p0 g1 p1 : Nat} {m1 m2 : Value} (w : World) (hk : Kn E Y R S g0 p0 g1 p1 (SA2 E Y R K m1 m2) w) (hls : E ≠ S ∧ Y ≠ S ∧ R ≠ S ∧ g0 ≠ S ∧ g1 ≠ S) (hlk : E ≠ K ∧ Y ≠ K ∧ R ≠ K ∧ g0 ≠ K ∧ g1 ≠ K) (hKS : K ≠ S) (hka : rowAt w K = some #[.int .i64 1, .int .i64 0, .int .i64 0, .int .i64 0, .int .i64 0, .int .i64 0, .int .i64 0, .int .i64 0, .int .i64 2, .int .i64 0, .int .i64 0, .int .i64 0]) : Calls Try.prog 28 #[.pointer (some ⟨S, 0, none⟩), .int .i64 1] w (StampP E Y R S K g0 p0 g1 p1 (SA3 E Y R K m1 m2) #[.int .i64 1, .int .i64 0, .int .i64 0, .int .i64 0, .int .i64 1, .int .i64 1, .int .i64 0, .int .i64 0, .int .i64 2, .int .i64 0, .int .i64 0, .int .i64 0] w) := by
  have s0 : w.cell? ⟨S, 1, none⟩ = some (.slice (some ⟨Y, 0, none⟩) 3 3) := rowAt_cell hk.st 1
  have s2 : w.cell? ⟨S, 2, none⟩ = some (.slice (some ⟨R, 0, none⟩) 4 4) := rowAt_cell hk.st 2
  have s3 : w.cell? ⟨S, 4, none⟩ = some (.int .i64 0) := rowAt_cell hk.st 4
  have r0 : w.cell? ⟨R, 1, none⟩ = some (.slice (some ⟨g1, 0, none⟩) 1 p1) := rowAt_cell hk.rr 1
  have q0 := hk.b0
  have y0 : w.cell? ⟨Y, 1, none⟩ = some (.bool false) := rowAt_cell hk.yy 1
  have h0 := hk.h0
  have h1 := hk.h1
  have HK := Lib.hid hk
  clear hk
  go_enter Try.func28, Try.ntmps28
  go_wp2
  refine wp_loop_rounds 2 ?_
  rw [rounds_succ]
  go_wp2
  go_quiet (fail)
  go_wp2
  clear s0 s2 s3 r0 q0 y0
  replace HK := Lib.hid (HK.out.past (below_drewN (Below.refl w.heap.size w) nq) rfl)
  have HA : Hid (rowAt (w.drewN nq) K = some #[.int .i64 1, .int .i64 0, .int .i64 0, .int .i64 0, .int .i64 0, .int .i64 0, .int .i64 0, .int .i64 0, .int .i64 2, .int .i64 0, .int .i64 0, .int .i64 0]) := Lib.hid hka
  have HB : Hid (∀ B, B ≤ S → B ≤ K → B ≤ w.heap.size → Below B w (w.drewN nq)) := Lib.hid (fun B _ _ _ => below_drewN (Below.refl _ _) _)
  clear hka
  generalize w.drewN nq = W at HK HA HB ⊢
  refine wp_region_held_drew (S := (fun w' => w'.cell? ⟨S, 2, none⟩ = some (.slice (some ⟨R, 0, none⟩) 4 4) ∧ w'.cell? ⟨R, 1, none⟩ = some (.slice (some ⟨g1, 0, none⟩) 1 p1) ∧ w'.cell? ⟨g1, 0, none⟩ = some (.int .i64 1))) (by kernel_rfl) ⟨rowAt_cell HK.out.st 2, rowAt_cell HK.out.rr 1, HK.out.b0⟩ (fun hHeld => ?_)
  replace HK := Lib.hid (HK.out.past (Below.refl W.heap.size W).drew rfl)
  replace HA : Hid (rowAt W.drew K = some #[.int .i64 1, .int .i64 0, .int .i64 0, .int .i64 0, .int .i64 0, .int .i64 0, .int .i64 0, .int .i64 0, .int .i64 2, .int .i64 0, .int .i64 0, .int .i64 0]) := HA
  replace HB : Hid (∀ B, B ≤ S → B ≤ K → B ≤ w.heap.size → Below B w W.drew) := Lib.hid (fun B a b c => (HB.out B a b c).drew)
  generalize W.drew = v at hHeld HK HA HB ⊢
  refine wpAnyH_take (i := 0) (oi := { dst := some 43, op := Op.move (Operand.tmp 0), type := 50, pos := "stamp.go:103", after := #[], guard := none }) (v := ?_) rfl (by kernel_rfl) (by kernel_rfl) (by kernel_rfl) (fun _ _ _ h => h) (Or.inl ⟨by rfl, ?_⟩) (by assumption) ?_
  rotate_left
  · (intro w9 hSw; (try dsimp only at hSw); go_split_ands; go_simp; with_reducible rfl)
  try simp only [Act.put, List.setIfInBounds_toArray, List.set_cons_zero, List.set_cons_succ]
  refine wpAnyH_take (i := 1) (oi := { dst := some 44, op := Op.move (Operand.tmp 0), type := 50, pos := "stamp.go:103", after := #[], guard := none }) (v := ?_) rfl (by kernel_rfl) (by kernel_rfl) (by kernel_rfl) (fun _ _ _ h => h) (Or.inl ⟨by rfl, ?_⟩) (by assumption) ?_
  rotate_left
  · (intro w9 hSw; (try dsimp only at hSw); go_split_ands; go_simp; with_reducible rfl)
  try simp only [Act.put, List.setIfInBounds_toArray, List.set_cons_zero, List.set_cons_succ]
  refine wpAnyH_take (i := 2) (oi := { dst := some 45, op := Op.nilCheck (Operand.tmp 44), type := 0, pos := "stamp.go:103", after := #[{ on := 1, ground := Ground.data }], guard := none }) (v := ?_) rfl (by kernel_rfl) (by kernel_rfl) (by kernel_rfl) (fun _ _ _ h => h) (Or.inl ⟨by rfl, ?_⟩) (by assumption) ?_
  rotate_left
  · (intro w9 hSw; (try dsimp only at hSw); go_split_ands; go_simp; with_reducible rfl)
  try simp only [Act.put, List.setIfInBounds_toArray, List.set_cons_zero, List.set_cons_succ]
  refine wpAnyH_take (i := 3) (oi := { dst := some 46, op := Op.fieldAddr 59 (Operand.tmp 45) 2, type := 0, pos := "stamp.go:103", after := #[{ on := 2, ground := Ground.data }], guard := none }) (v := ?_) rfl (by kernel_rfl) (by kernel_rfl) (by kernel_rfl) (fun _ _ _ h => h) (Or.inl ⟨by rfl, ?_⟩) (by assumption) ?_
  rotate_left
  · (intro w9 hSw; (try dsimp only at hSw); go_split_ands; go_simp; with_reducible rfl)
  try simp only [Act.put, List.setIfInBounds_toArray, List.set_cons_zero, List.set_cons_succ]
  refine wpAnyH_take (i := 4) (oi := { dst := some 47, op := Op.load 52 (Operand.tmp 46), type := 52, pos := "stamp.go:103", after := #[{ on := 3, ground := Ground.data }], guard := none }) (v := ?_) rfl (by kernel_rfl) (by kernel_rfl) (by kernel_rfl) (fun _ _ _ h => h) (Or.inl ⟨by rfl, ?_⟩) (by assumption) ?_
  rotate_left
  · (intro w9 hSw; (try dsimp only at hSw); go_split_ands; go_simp; with_reducible rfl)
  try simp only [Act.put, List.setIfInBounds_toArray, List.set_cons_zero, List.set_cons_succ]
  refine wpAnyH_take (i := 5) (oi := { dst := some 48, op := Op.move (Operand.tmp 1), type := 3, pos := "stamp.go:103", after := #[], guard := none }) (v := ?_) rfl (by kernel_rfl) (by kernel_rfl) (by kernel_rfl) (fun _ _ _ h => h) (Or.inl ⟨by rfl, ?_⟩) (by assumption) ?_
  rotate_left
  · (intro w9 hSw; (try dsimp only at hSw); go_split_ands; go_simp; with_reducible rfl)
  try simp only [Act.put, List.setIfInBounds_toArray, List.set_cons_zero, List.set_cons_succ]
  refine wpAnyH_take (i := 6) (oi := { dst := some 49, op := Op.indexAddr 52 (Operand.tmp 47) (Operand.tmp 48), type := 0, pos := "stamp.go:103", after := #[{ on := 4, ground := Ground.data }, { on := 5, ground := Ground.data }], guard := none }) (v := ?_) rfl (by kernel_rfl) (by kernel_rfl) (by kernel_rfl) (fun _ _ _ h => h) (Or.inl ⟨by rfl, ?_⟩) (by assumption) ?_
  rotate_left
  · (intro w9 hSw; (try dsimp only at hSw); go_split_ands; go_simp; with_reducible rfl)
  try simp only [Act.put, List.setIfInBounds_toArray, List.set_cons_zero, List.set_cons_succ]
  refine wpAnyH_take (i := 7) (oi := { dst := some 50, op := Op.load 61 (Operand.tmp 49), type := 61, pos := "stamp.go:103", after := #[{ on := 6, ground := Ground.data }], guard := none }) (v := ?_) rfl (by kernel_rfl) (by kernel_rfl) (by kernel_rfl) (fun _ _ _ h => h) (Or.inl ⟨by rfl, ?_⟩) (by assumption) ?_
  rotate_left
  · (intro w9 hSw; (try dsimp only at hSw); go_split_ands; go_simp; with_reducible rfl)
  try simp only [Act.put, List.setIfInBounds_toArray, List.set_cons_zero, List.set_cons_succ]
  refine wpAnyH_take (i := 8) (oi := { dst := some 51, op := Op.move (Operand.tmp 0), type := 50, pos := "stamp.go:103", after := #[], guard := none }) (v := ?_) rfl (by kernel_rfl) (by kernel_rfl) (by kernel_rfl) (fun _ _ _ h => h) (Or.inl ⟨by rfl, ?_⟩) (by assumption) ?_
  rotate_left
  · (intro w9 hSw; (try dsimp only at hSw); go_split_ands; go_simp; with_reducible rfl)
  try simp only [Act.put, List.setIfInBounds_toArray, List.set_cons_zero, List.set_cons_succ]
  refine wpAnyH_take (i := 9) (oi := { dst := some 52, op := Op.move (Operand.tmp 1), type := 3, pos := "stamp.go:103", after := #[], guard := none }) (v := ?_) rfl (by kernel_rfl) (by kernel_rfl) (by kernel_rfl) (fun _ _ _ h => h) (Or.inl ⟨by rfl, ?_⟩) (by assumption) ?_
  rotate_left
  · (intro w9 hSw; (try dsimp only at hSw); go_split_ands; go_simp; with_reducible rfl)
  try simp only [Act.put, List.setIfInBounds_toArray, List.set_cons_zero, List.set_cons_succ]
  refine wpAnyH_take (i := 10) (oi := { dst := some 53, op := Op.nilCheck (Operand.tmp 51), type := 0, pos := "stamp.go:103", after := #[{ on := 8, ground := Ground.data }], guard := none }) (v := ?_) rfl (by kernel_rfl) (by kernel_rfl) (by kernel_rfl) (fun _ _ _ h => h) (Or.inl ⟨by rfl, ?_⟩) (by assumption) ?_
  rotate_left
  · (intro w9 hSw; (try dsimp only at hSw); go_split_ands; go_simp; with_reducible rfl)
  try simp only [Act.put, List.setIfInBounds_toArray, List.set_cons_zero, List.set_cons_succ]
  refine wpAnyH_take (i := 11) (oi := { dst := some 54, op := Op.fieldAddr 59 (Operand.tmp 53) 3, type := 0, pos := "stamp.go:103", after := #[{ on := 10, ground := Ground.data }], guard := none }) (v := ?_) rfl (by kernel_rfl) (by kernel_rfl) (by kernel_rfl) (fun _ _ _ h => h) (Or.inl ⟨by rfl, ?_⟩) (by assumption) ?_
  rotate_left
  · (intro w9 hSw; (try dsimp only at hSw); go_split_ands; go_simp; with_reducible rfl)
  try simp only [Act.put, List.setIfInBounds_toArray, List.set_cons_zero, List.set_cons_succ]
  refine wpAnyH_take (i := 12) (oi := { dst := some 55, op := Op.indexAddr 24 (Operand.tmp 54) (Operand.tmp 52), type := 0, pos := "stamp.go:103", after := #[{ on := 11, ground := Ground.data }, { on := 9, ground := Ground.data }], guard := none }) (v := ?_) rfl (by kernel_rfl) (by kernel_rfl) (by kernel_rfl) (fun _ _ _ h => h) (Or.inl ⟨by rfl, ?_⟩) (by assumption) ?_
  rotate_left
  · (intro w9 hSw; (try dsimp only at hSw); go_split_ands; go_simp; with_reducible rfl)
  try simp only [Act.put, List.setIfInBounds_toArray, List.set_cons_zero, List.set_cons_succ]
  refine wpAnyH_ready (rs := [13]) (by kernel_rfl) (by simp) ?_
  refine AllReadyH.cons (o := { dst := some 56, op := Op.load 3 (Operand.tmp 55), type := 3, pos := "stamp.go:103", after := #[{ on := 12, ground := Ground.data }], guard := none }) rfl (fun K' hK => ?_) AllReadyH.nil
  have z0 : v.cell? ⟨S, 4, none⟩ = some (.int .i64 0) := rowAt_cell HK.out.st 4
  go_simp
  refine hK.out _ _ ⟨rowAt_cell HK.out.st 2, rowAt_cell HK.out.rr 1, HK.out.b0⟩ (fun hHeld => ?_)
  clear hK K' z0
  try simp only [Act.put, List.setIfInBounds_toArray, List.set_cons_zero, List.set_cons_succ]
  refine wpAnyH_take (i := 14) (oi := { dst := some 57, op := Op.indexAddr 61 (Operand.tmp 50) (Operand.tmp 56), type := 0, pos := "stamp.go:103", after := #[{ on := 7, ground := Ground.data }, { on := 13, ground := Ground.data }], guard := none }) (v := ?_) rfl (by kernel_rfl) (by kernel_rfl) (by kernel_rfl) (fun _ _ _ h => h) (Or.inl ⟨by rfl, ?_⟩) (by assumption) ?_
  rotate_left
  · (intro w9 hSw; (try dsimp only at hSw); go_split_ands; go_simp; with_reducible rfl)
  try simp only [Act.put, List.setIfInBounds_toArray, List.set_cons_zero, List.set_cons_succ]
  refine wpAnyH_take (i := 15) (oi := { dst := some 58, op := Op.load 3 (Operand.tmp 57), type := 3, pos := "stamp.go:103", after := #[{ on := 14, ground := Ground.data }], guard := none }) (v := ?_) rfl (by kernel_rfl) (by kernel_rfl) (by kernel_rfl) (fun _ _ _ h => h) (Or.inl ⟨by rfl, ?_⟩) (by assumption) ?_
  rotate_left
  · (intro w9 hSw; (try dsimp only at hSw); go_split_ands; go_simp; with_reducible rfl)
  try simp only [Act.put, List.setIfInBounds_toArray, List.set_cons_zero, List.set_cons_succ]
  refine wpAnyH_ready (rs := [16]) (by kernel_rfl) (by simp) ?_
  refine AllReadyH.cons (o := { dst := some 59, op := Op.call { callee := Callee.value (Operand.func 29), args := #[Operand.tmp 43, Operand.tmp 58], argTypes := #[50, 3] }, type := 0, pos := "stamp.go:103", after := #[{ on := 0, ground := Ground.data }, { on := 15, ground := Ground.data }], guard := none }) rfl (fun K' hK => ?_) AllReadyH.nil
  go_simp
  go_at_call 29
  refine (stamp_1 _ HK.out hls hlk hKS HA.out).mono ?_
  rintro e u ⟨rfl, hk2, ha2, hb2⟩
  refine hK.out _ _ ⟨rowAt_cell hk2.st 2, rowAt_cell hk2.rr 1, hk2.b0⟩ (fun hHeld => ?_)
  clear hK K'
  try simp only [Act.put, List.setIfInBounds_toArray, List.set_cons_zero, List.set_cons_succ]
  refine wpAnyH_done (by kernel_rfl) ?_ _
  clear hHeld
  have HU : Hid (∀ B, B ≤ S → B ≤ K → B ≤ w.heap.size → Below B w u) := Lib.hid (fun B a b c => (HB.out B a b c).trans (hb2 B a b (Nat.le_trans c (HB.out B a b c).size)))
  clear HK HA HB hb2
  have HK := Lib.hid hk2
  have HA := Lib.hid ha2
  have s0 : u.cell? ⟨S, 1, none⟩ = some (.slice (some ⟨Y, 0, none⟩) 3 3) := rowAt_cell HK.out.st 1
  have s2 : u.cell? ⟨S, 2, none⟩ = some (.slice (some ⟨R, 0, none⟩) 4 4) := rowAt_cell HK.out.st 2
  have s3 : u.cell? ⟨S, 4, none⟩ = some (.int .i64 1) := rowAt_cell HK.out.st 4
  have r0 : u.cell? ⟨R, 1, none⟩ = some (.slice (some ⟨g1, 0, none⟩) 1 p1) := rowAt_cell HK.out.rr 1
  clear hk2 ha2
  go_wp2
  rw [rounds_succ]
  go_wp2
  go_quiet (fail)
  go_wp2
  go_end0
  exact ⟨rfl, HK.out.past (below_drewN (Below.refl u.heap.size u) _) rfl, HA.out, fun B a b c => below_drewN (HU.out B a b c) _⟩
end Go.Proofs.Ytnmgafaebggeiaa
