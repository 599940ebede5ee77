import Derived.Test.YtapcapcbndooiaaRows
import Derived.WalkKit
import Derived.ProofKit
import Derived.OpenShut
import Derived.Deep.QuietTactic
import Derived.BigQuiet
import Derived.Outline
import Derived.WalkSmall
import Derived.WalkLawsBesides
import Derived.WalkSpells
import Derived.BigGuardPart
import Derived.Test.YtapcapcbndooiaaHolder
import Derived.RegionTactic
import Derived.Lib.Hide
namespace Go.Proofs.Ytapcapcbndooiaa
open Go.ChangeShapes Go.WideShapes Go.ChangeAt Go.RowKit
set_option linter.unusedVariables false
set_option maxRecDepth 100000 in
set_option maxHeartbeats 2000000 in
theorem index_y (g cap k : Nat) (c0 c1 c3 : Int) (w : World) (hk : k < 5) (hg : g < w.heap.size) (HR : Hid (RegAt w g c0 c1 c3)) :
    Calls Try.prog 107 #[.slice (some ⟨g, 0, none⟩) 5 cap, .agg (regV c0 c1 c3 k)] w fun e w' => e = .returned (.int .i64 k) ∧ Below w.heap.size w w' := by
  unfold regV
  go_enter Try.func107, Try.ntmps107
  go_wp2
  go_loopw [4, 5, 8] (fun _ _ i wr => ∃ j : Nat, j ≤ k ∧ i = .int .i64 j ∧ Below (w.heap.size + 1) (w.alloc (.cells #[.int .u64 (rb k), .int .u64 (rs c0 c1 c3 k), .bool (rwr k), .bool (rx k)] 43)) wr) (fun _ _ i _ => 5 - (intOf i).toNat)
  case atStart => exact ⟨0, by omega, rfl, Below.refl _ _⟩
  case round =>
    obtain ⟨j, hj, rfl, hbl⟩ := hrel
    have HB : Hid (Below w.heap.size w wr) := Lib.hid (((Below.refl _ _).alloc (Nat.le_refl _) _).trans (hbl.mono (by omega)))
    have q0 : wr.cell? ⟨w.heap.size, 0, none⟩ = some (.int .u64 (rb k)) := (hbl.cell (p := ⟨w.heap.size, 0, none⟩) (by simp)).trans (World.cell?_alloc_at _ _ _ _ rfl)
    have q1 : wr.cell? ⟨w.heap.size, 1, none⟩ = some (.int .u64 (rs c0 c1 c3 k)) := (hbl.cell (p := ⟨w.heap.size, 1, none⟩) (by simp)).trans (World.cell?_alloc_at _ _ _ _ rfl)
    have q2 : wr.cell? ⟨w.heap.size, 2, none⟩ = some (.bool (rwr k)) := (hbl.cell (p := ⟨w.heap.size, 2, none⟩) (by simp)).trans (World.cell?_alloc_at _ _ _ _ rfl)
    have q3 : wr.cell? ⟨w.heap.size, 3, none⟩ = some (.bool (rx k)) := (hbl.cell (p := ⟨w.heap.size, 3, none⟩) (by simp)).trans (World.cell?_alloc_at _ _ _ _ rfl)
    obtain ⟨f1, f2, f3, f4⟩ := ((HR.out.below (B := w.heap.size) ((Below.refl _ _).alloc (Nat.le_refl _) _) hg).below hbl (by omega)) j (by omega)
    have HBL := Lib.hid hbl
    clear hbl
    by_cases hlt : j < k
    · have hd : (rb k == rb j) = false := by have := rb_lt j k hlt hk; simp; omega
      have gj : (j : Int) < 5 := by omega
      go_wp2
      go_quiet (fail)
      go_wp2
      exact ⟨⟨j + 1, by omega, by simp, below_drewN HBL.out _⟩, by simp [intOf]; omega⟩
    · obtain rfl : j = k := by omega
      have gj : (j : Int) < 5 := by omega
      go_wp2
      go_quiet (fail)
      go_wp2
      refine bodyPost_ret (v := .int .i64 j) (by simp [results, Try.results107, go_sem]) rfl ⟨rfl, below_drewN HB.out _⟩
set_option maxRecDepth 100000 in
set_option maxHeartbeats 2000000 in
theorem index_n (g cap : Nat) (c0 c1 c3 : Int) (w : World) (hg : g < w.heap.size) (HR : Hid (RegAt w g c0 c1 c3)) :
    Calls Try.prog 107 #[.slice (some ⟨g, 0, none⟩) 5 cap, .agg zeroR] w fun e w' => e = .returned (.int .i64 (-1)) ∧ Below w.heap.size w w' := by
  unfold zeroR
  go_enter Try.func107, Try.ntmps107
  go_wp2
  go_loopw [4, 5, 8] (fun _ _ i wr => ∃ j : Nat, j ≤ 5 ∧ i = .int .i64 j ∧ Below (w.heap.size + 1) (w.alloc (.cells #[.int .u64 0, .int .u64 0, .bool false, .bool false] 43)) wr) (fun _ _ i _ => 5 - (intOf i).toNat)
  case atStart => exact ⟨0, by omega, rfl, Below.refl _ _⟩
  case round =>
    obtain ⟨j, hj, rfl, hbl⟩ := hrel
    have HB : Hid (Below w.heap.size w wr) := Lib.hid (((Below.refl _ _).alloc (Nat.le_refl _) _).trans (hbl.mono (by omega)))
    have q0 : wr.cell? ⟨w.heap.size, 0, none⟩ = some (.int .u64 0) := (hbl.cell (p := ⟨w.heap.size, 0, none⟩) (by simp)).trans (World.cell?_alloc_at _ _ _ _ rfl)
    have q1 : wr.cell? ⟨w.heap.size, 1, none⟩ = some (.int .u64 0) := (hbl.cell (p := ⟨w.heap.size, 1, none⟩) (by simp)).trans (World.cell?_alloc_at _ _ _ _ rfl)
    have q2 : wr.cell? ⟨w.heap.size, 2, none⟩ = some (.bool false) := (hbl.cell (p := ⟨w.heap.size, 2, none⟩) (by simp)).trans (World.cell?_alloc_at _ _ _ _ rfl)
    have q3 : wr.cell? ⟨w.heap.size, 3, none⟩ = some (.bool false) := (hbl.cell (p := ⟨w.heap.size, 3, none⟩) (by simp)).trans (World.cell?_alloc_at _ _ _ _ rfl)
    have HBL := Lib.hid hbl
    by_cases hlt : j < 5
    · obtain ⟨f1, f2, f3, f4⟩ := ((HR.out.below (B := w.heap.size) ((Below.refl _ _).alloc (Nat.le_refl _) _) hg).below hbl (by omega)) j (by omega)
      clear hbl
      have hd : ((0 : Int) == rb j) = false := by have := rb_range j; simp; omega
      have gj : (j : Int) < 5 := by omega
      go_wp2
      go_quiet (fail)
      go_wp2
      exact ⟨⟨j + 1, by omega, by simp, below_drewN HBL.out _⟩, by simp [intOf]; omega⟩
    · obtain rfl : j = 5 := by omega
      clear hbl
      go_wp2
      refine bodyPost_ret (v := .int .i64 (-1)) (by simp [results, Try.results107, go_sem]) rfl ⟨rfl, HB.out⟩
end Go.Proofs.Ytapcapcbndooiaa
