import Derived.Test.YtejdlhafdnpcmaaRows
import Derived.WalkKit
import Derived.ProofKit
import Derived.OpenShut
import Derived.Outline
import Derived.WalkSmall
import Derived.WalkLawsBesides
import Derived.WalkSpells
import Derived.BigGuardPart
import Derived.RegionTactic
import Derived.Lib.Hide
import Derived.Below
import Derived.Deep.RegionWith
import Derived.Deep.RegionHeld3
import Derived.Test.YtejdlhafdnpcmaaLd1
import Derived.Test.YtejdlhafdnpcmaaIo0
import Derived.Test.YtejdlhafdnpcmaaRdH
namespace Go.Proofs.Ytejdlhafdnpcmaa
open Go.ChangeShapes Go.WideShapes Go.ChangeAt Go.RowKit
set_option linter.unusedVariables false
theorem laid_own (B : Nat) (xs : List Int) (r : Int) (v : Value) (w : World) (hB : B ≤ w.heap.size) (hn : xs.length ≤ 40) (hs : xs.Pairwise (· < ·)) (hz : xs = [] → v = .slice none 0 0) (HO : w.ownsRow B 3 1 v xs.length (ivs xs)) :
    Calls Try.prog 45 #[v, .int .i64 r] w (LaidP B xs r w) := by
  by_cases h31 : r = 31
  · subst h31
    have hp : put xs 31 = xs := by simp [put]
    have HP := Lib.hid hp
    have HOO := Lib.hid HO
    have HZ := Lib.hid hz
    clear hp hz HO
    go_enter Try.func45, Try.ntmps45
    go_wp2
    go_ret
    exact ⟨v, rfl, by rw [HP.out]; exact HOO.out, by rw [HP.out]; exact HZ.out, Below.refl _ _⟩
  · have hr : (r == 31) = false := by simpa using h31
    rcases xs with _ | ⟨x, xs⟩
    · rw [hz rfl]
      refine (laid_0 B r w hB hr).mono fun e w' h => ?_
      obtain ⟨v', h1, h2, h3⟩ := h
      have hp : put [] r = ins [] r := by simp [put, h31]
      exact ⟨v', h1, by rw [hp]; exact h2, fun h => absurd (hp ▸ h) (ins_ne _ _), ⟨h3.os, h3.tape, h3.output, h3.size, fun k hk => h3.block k hk (by simp)⟩⟩
    · obtain ⟨g, cap, rfl⟩ := ownsRow_succ (by simpa using HO : w.ownsRow B 3 1 v (xs.length + 1) (ivs (x :: xs)))
      have hgw : g < w.heap.size := by
        rcases HO.2 with ⟨h1, _⟩ | ⟨g', cap', cur, hv, _, hg, _⟩
        · cases h1
        · injection hv with h1 _ _
          injection h1 with h1
          injection h1 with h1
          subst h1
          exact (Array.getElem?_eq_some_iff.1 hg).1
      exact laid_s B g _ cap _ r w hB hgw rfl hn (by simp) hs hr (Lib.hid HO)
set_option maxRecDepth 100000 in
set_option maxHeartbeats 2000000 in
theorem rmem_0 (w : World) : Calls Try.prog 19 #[.int .i64 0] w fun e w' => e = .returned (.bool false) ∧ w' = w := by
  go_enter Try.func19, Try.ntmps19
  go_wp2
  go_ret
  exact ⟨rfl, rfl⟩
theorem rload_0 (w : World) : Calls Try.prog 21 #[.int .i64 0] w fun e w' => e = .returned (.bool false) ∧ w' = w := by
  go_enter Try.func21, Try.ntmps21
  go_wp2
  go_ret
  exact ⟨rfl, rfl⟩
set_option maxRecDepth 100000 in
set_option maxHeartbeats 2000000 in
theorem rmem_1 (w : World) : Calls Try.prog 19 #[.int .i64 1] w fun e w' => e = .returned (.bool false) ∧ w' = w := by
  go_enter Try.func19, Try.ntmps19
  go_wp2
  go_ret
  exact ⟨rfl, rfl⟩
theorem rload_1 (w : World) : Calls Try.prog 21 #[.int .i64 1] w fun e w' => e = .returned (.bool false) ∧ w' = w := by
  go_enter Try.func21, Try.ntmps21
  go_wp2
  go_ret
  exact ⟨rfl, rfl⟩
set_option maxRecDepth 100000 in
set_option maxHeartbeats 2000000 in
theorem rmem_2 (w : World) : Calls Try.prog 19 #[.int .i64 2] w fun e w' => e = .returned (.bool false) ∧ w' = w := by
  go_enter Try.func19, Try.ntmps19
  go_wp2
  go_ret
  exact ⟨rfl, rfl⟩
theorem rload_2 (w : World) : Calls Try.prog 21 #[.int .i64 2] w fun e w' => e = .returned (.bool false) ∧ w' = w := by
  go_enter Try.func21, Try.ntmps21
  go_wp2
  go_ret
  exact ⟨rfl, rfl⟩
set_option maxRecDepth 100000 in
set_option maxHeartbeats 2000000 in
theorem rmem_3 (w : World) : Calls Try.prog 19 #[.int .i64 3] w fun e w' => e = .returned (.bool false) ∧ w' = w := by
  go_enter Try.func19, Try.ntmps19
  go_wp2
  go_ret
  exact ⟨rfl, rfl⟩
theorem rload_3 (w : World) : Calls Try.prog 21 #[.int .i64 3] w fun e w' => e = .returned (.bool false) ∧ w' = w := by
  go_enter Try.func21, Try.ntmps21
  go_wp2
  go_ret
  exact ⟨rfl, rfl⟩
set_option maxRecDepth 100000 in
set_option maxHeartbeats 2000000 in
theorem rmem_4 (w : World) : Calls Try.prog 19 #[.int .i64 4] w fun e w' => e = .returned (.bool false) ∧ w' = w := by
  go_enter Try.func19, Try.ntmps19
  go_wp2
  go_ret
  exact ⟨rfl, rfl⟩
theorem rload_4 (w : World) : Calls Try.prog 21 #[.int .i64 4] w fun e w' => e = .returned (.bool false) ∧ w' = w := by
  go_enter Try.func21, Try.ntmps21
  go_wp2
  go_ret
  exact ⟨rfl, rfl⟩
set_option maxRecDepth 100000 in
set_option maxHeartbeats 2000000 in
theorem rmem_5 (w : World) : Calls Try.prog 19 #[.int .i64 5] w fun e w' => e = .returned (.bool false) ∧ w' = w := by
  go_enter Try.func19, Try.ntmps19
  go_wp2
  go_ret
  exact ⟨rfl, rfl⟩
theorem rload_5 (w : World) : Calls Try.prog 21 #[.int .i64 5] w fun e w' => e = .returned (.bool false) ∧ w' = w := by
  go_enter Try.func21, Try.ntmps21
  go_wp2
  go_ret
  exact ⟨rfl, rfl⟩
set_option maxRecDepth 100000 in
set_option maxHeartbeats 2000000 in
theorem rmem_6 (w : World) : Calls Try.prog 19 #[.int .i64 6] w fun e w' => e = .returned (.bool false) ∧ w' = w := by
  go_enter Try.func19, Try.ntmps19
  go_wp2
  go_ret
  exact ⟨rfl, rfl⟩
theorem rload_6 (w : World) : Calls Try.prog 21 #[.int .i64 6] w fun e w' => e = .returned (.bool false) ∧ w' = w := by
  go_enter Try.func21, Try.ntmps21
  go_wp2
  go_ret
  exact ⟨rfl, rfl⟩
set_option maxRecDepth 100000 in
set_option maxHeartbeats 2000000 in
theorem rmem_7 (w : World) : Calls Try.prog 19 #[.int .i64 7] w fun e w' => e = .returned (.bool false) ∧ w' = w := by
  go_enter Try.func19, Try.ntmps19
  go_wp2
  go_ret
  exact ⟨rfl, rfl⟩
theorem rload_7 (w : World) : Calls Try.prog 21 #[.int .i64 7] w fun e w' => e = .returned (.bool false) ∧ w' = w := by
  go_enter Try.func21, Try.ntmps21
  go_wp2
  go_ret
  exact ⟨rfl, rfl⟩
set_option maxRecDepth 100000 in
set_option maxHeartbeats 2000000 in
theorem rmem_8 (w : World) : Calls Try.prog 19 #[.int .i64 8] w fun e w' => e = .returned (.bool false) ∧ w' = w := by
  go_enter Try.func19, Try.ntmps19
  go_wp2
  go_ret
  exact ⟨rfl, rfl⟩
theorem rload_8 (w : World) : Calls Try.prog 21 #[.int .i64 8] w fun e w' => e = .returned (.bool false) ∧ w' = w := by
  go_enter Try.func21, Try.ntmps21
  go_wp2
  go_ret
  exact ⟨rfl, rfl⟩
set_option maxRecDepth 100000 in
set_option maxHeartbeats 2000000 in
theorem rmem_9 (w : World) : Calls Try.prog 19 #[.int .i64 9] w fun e w' => e = .returned (.bool false) ∧ w' = w := by
  go_enter Try.func19, Try.ntmps19
  go_wp2
  go_ret
  exact ⟨rfl, rfl⟩
theorem rload_9 (w : World) : Calls Try.prog 21 #[.int .i64 9] w fun e w' => e = .returned (.bool false) ∧ w' = w := by
  go_enter Try.func21, Try.ntmps21
  go_wp2
  go_ret
  exact ⟨rfl, rfl⟩
set_option maxRecDepth 100000 in
set_option maxHeartbeats 2000000 in
theorem rmem_10 (w : World) : Calls Try.prog 19 #[.int .i64 10] w fun e w' => e = .returned (.bool false) ∧ w' = w := by
  go_enter Try.func19, Try.ntmps19
  go_wp2
  go_ret
  exact ⟨rfl, rfl⟩
theorem rload_10 (w : World) : Calls Try.prog 21 #[.int .i64 10] w fun e w' => e = .returned (.bool false) ∧ w' = w := by
  go_enter Try.func21, Try.ntmps21
  go_wp2
  go_ret
  exact ⟨rfl, rfl⟩
set_option maxRecDepth 100000 in
set_option maxHeartbeats 2000000 in
theorem rmem_11 (w : World) : Calls Try.prog 19 #[.int .i64 11] w fun e w' => e = .returned (.bool false) ∧ w' = w := by
  go_enter Try.func19, Try.ntmps19
  go_wp2
  go_ret
  exact ⟨rfl, rfl⟩
theorem rload_11 (w : World) : Calls Try.prog 21 #[.int .i64 11] w fun e w' => e = .returned (.bool false) ∧ w' = w := by
  go_enter Try.func21, Try.ntmps21
  go_wp2
  go_ret
  exact ⟨rfl, rfl⟩
set_option maxRecDepth 100000 in
set_option maxHeartbeats 2000000 in
theorem rmem_12 (w : World) : Calls Try.prog 19 #[.int .i64 12] w fun e w' => e = .returned (.bool false) ∧ w' = w := by
  go_enter Try.func19, Try.ntmps19
  go_wp2
  go_ret
  exact ⟨rfl, rfl⟩
theorem rload_12 (w : World) : Calls Try.prog 21 #[.int .i64 12] w fun e w' => e = .returned (.bool false) ∧ w' = w := by
  go_enter Try.func21, Try.ntmps21
  go_wp2
  go_ret
  exact ⟨rfl, rfl⟩
set_option maxRecDepth 100000 in
set_option maxHeartbeats 2000000 in
theorem rmem_13 (w : World) : Calls Try.prog 19 #[.int .i64 13] w fun e w' => e = .returned (.bool false) ∧ w' = w := by
  go_enter Try.func19, Try.ntmps19
  go_wp2
  go_ret
  exact ⟨rfl, rfl⟩
theorem rload_13 (w : World) : Calls Try.prog 21 #[.int .i64 13] w fun e w' => e = .returned (.bool false) ∧ w' = w := by
  go_enter Try.func21, Try.ntmps21
  go_wp2
  go_ret
  exact ⟨rfl, rfl⟩
set_option maxRecDepth 100000 in
set_option maxHeartbeats 2000000 in
theorem rmem_14 (w : World) : Calls Try.prog 19 #[.int .i64 14] w fun e w' => e = .returned (.bool false) ∧ w' = w := by
  go_enter Try.func19, Try.ntmps19
  go_wp2
  go_ret
  exact ⟨rfl, rfl⟩
theorem rload_14 (w : World) : Calls Try.prog 21 #[.int .i64 14] w fun e w' => e = .returned (.bool false) ∧ w' = w := by
  go_enter Try.func21, Try.ntmps21
  go_wp2
  go_ret
  exact ⟨rfl, rfl⟩
set_option maxRecDepth 100000 in
set_option maxHeartbeats 2000000 in
theorem rmem_15 (w : World) : Calls Try.prog 19 #[.int .i64 15] w fun e w' => e = .returned (.bool false) ∧ w' = w := by
  go_enter Try.func19, Try.ntmps19
  go_wp2
  go_ret
  exact ⟨rfl, rfl⟩
theorem rload_15 (w : World) : Calls Try.prog 21 #[.int .i64 15] w fun e w' => e = .returned (.bool false) ∧ w' = w := by
  go_enter Try.func21, Try.ntmps21
  go_wp2
  go_ret
  exact ⟨rfl, rfl⟩
set_option maxRecDepth 100000 in
set_option maxHeartbeats 2000000 in
theorem rmem_16 (w : World) : Calls Try.prog 19 #[.int .i64 16] w fun e w' => e = .returned (.bool false) ∧ w' = w := by
  go_enter Try.func19, Try.ntmps19
  go_wp2
  go_ret
  exact ⟨rfl, rfl⟩
theorem rload_16 (w : World) : Calls Try.prog 21 #[.int .i64 16] w fun e w' => e = .returned (.bool false) ∧ w' = w := by
  go_enter Try.func21, Try.ntmps21
  go_wp2
  go_ret
  exact ⟨rfl, rfl⟩
set_option maxRecDepth 100000 in
set_option maxHeartbeats 2000000 in
theorem rmem_17 (w : World) : Calls Try.prog 19 #[.int .i64 17] w fun e w' => e = .returned (.bool false) ∧ w' = w := by
  go_enter Try.func19, Try.ntmps19
  go_wp2
  go_ret
  exact ⟨rfl, rfl⟩
theorem rload_17 (w : World) : Calls Try.prog 21 #[.int .i64 17] w fun e w' => e = .returned (.bool false) ∧ w' = w := by
  go_enter Try.func21, Try.ntmps21
  go_wp2
  go_ret
  exact ⟨rfl, rfl⟩
set_option maxRecDepth 100000 in
set_option maxHeartbeats 2000000 in
theorem rmem_18 (w : World) : Calls Try.prog 19 #[.int .i64 18] w fun e w' => e = .returned (.bool false) ∧ w' = w := by
  go_enter Try.func19, Try.ntmps19
  go_wp2
  go_ret
  exact ⟨rfl, rfl⟩
theorem rload_18 (w : World) : Calls Try.prog 21 #[.int .i64 18] w fun e w' => e = .returned (.bool false) ∧ w' = w := by
  go_enter Try.func21, Try.ntmps21
  go_wp2
  go_ret
  exact ⟨rfl, rfl⟩
set_option maxRecDepth 100000 in
set_option maxHeartbeats 2000000 in
theorem rmem_19 (w : World) : Calls Try.prog 19 #[.int .i64 19] w fun e w' => e = .returned (.bool false) ∧ w' = w := by
  go_enter Try.func19, Try.ntmps19
  go_wp2
  go_ret
  exact ⟨rfl, rfl⟩
theorem rload_19 (w : World) : Calls Try.prog 21 #[.int .i64 19] w fun e w' => e = .returned (.bool false) ∧ w' = w := by
  go_enter Try.func21, Try.ntmps21
  go_wp2
  go_ret
  exact ⟨rfl, rfl⟩
set_option maxRecDepth 100000 in
set_option maxHeartbeats 2000000 in
theorem rmem_20 (w : World) : Calls Try.prog 19 #[.int .i64 20] w fun e w' => e = .returned (.bool false) ∧ w' = w := by
  go_enter Try.func19, Try.ntmps19
  go_wp2
  go_ret
  exact ⟨rfl, rfl⟩
theorem rload_20 (w : World) : Calls Try.prog 21 #[.int .i64 20] w fun e w' => e = .returned (.bool false) ∧ w' = w := by
  go_enter Try.func21, Try.ntmps21
  go_wp2
  go_ret
  exact ⟨rfl, rfl⟩
set_option maxRecDepth 100000 in
set_option maxHeartbeats 2000000 in
theorem rmem_21 (w : World) : Calls Try.prog 19 #[.int .i64 21] w fun e w' => e = .returned (.bool false) ∧ w' = w := by
  go_enter Try.func19, Try.ntmps19
  go_wp2
  go_ret
  exact ⟨rfl, rfl⟩
theorem rload_21 (w : World) : Calls Try.prog 21 #[.int .i64 21] w fun e w' => e = .returned (.bool false) ∧ w' = w := by
  go_enter Try.func21, Try.ntmps21
  go_wp2
  go_ret
  exact ⟨rfl, rfl⟩
set_option maxRecDepth 100000 in
set_option maxHeartbeats 2000000 in
theorem rmem_22 (w : World) : Calls Try.prog 19 #[.int .i64 22] w fun e w' => e = .returned (.bool false) ∧ w' = w := by
  go_enter Try.func19, Try.ntmps19
  go_wp2
  go_ret
  exact ⟨rfl, rfl⟩
theorem rload_22 (w : World) : Calls Try.prog 21 #[.int .i64 22] w fun e w' => e = .returned (.bool false) ∧ w' = w := by
  go_enter Try.func21, Try.ntmps21
  go_wp2
  go_ret
  exact ⟨rfl, rfl⟩
set_option maxRecDepth 100000 in
set_option maxHeartbeats 2000000 in
theorem rmem_23 (w : World) : Calls Try.prog 19 #[.int .i64 23] w fun e w' => e = .returned (.bool false) ∧ w' = w := by
  go_enter Try.func19, Try.ntmps19
  go_wp2
  go_ret
  exact ⟨rfl, rfl⟩
theorem rload_23 (w : World) : Calls Try.prog 21 #[.int .i64 23] w fun e w' => e = .returned (.bool false) ∧ w' = w := by
  go_enter Try.func21, Try.ntmps21
  go_wp2
  go_ret
  exact ⟨rfl, rfl⟩
set_option maxRecDepth 100000 in
set_option maxHeartbeats 2000000 in
theorem rmem_24 (w : World) : Calls Try.prog 19 #[.int .i64 24] w fun e w' => e = .returned (.bool false) ∧ w' = w := by
  go_enter Try.func19, Try.ntmps19
  go_wp2
  go_ret
  exact ⟨rfl, rfl⟩
theorem rload_24 (w : World) : Calls Try.prog 21 #[.int .i64 24] w fun e w' => e = .returned (.bool false) ∧ w' = w := by
  go_enter Try.func21, Try.ntmps21
  go_wp2
  go_ret
  exact ⟨rfl, rfl⟩
set_option maxRecDepth 100000 in
set_option maxHeartbeats 2000000 in
theorem rmem_25 (w : World) : Calls Try.prog 19 #[.int .i64 25] w fun e w' => e = .returned (.bool false) ∧ w' = w := by
  go_enter Try.func19, Try.ntmps19
  go_wp2
  go_ret
  exact ⟨rfl, rfl⟩
theorem rload_25 (w : World) : Calls Try.prog 21 #[.int .i64 25] w fun e w' => e = .returned (.bool false) ∧ w' = w := by
  go_enter Try.func21, Try.ntmps21
  go_wp2
  go_ret
  exact ⟨rfl, rfl⟩
set_option maxRecDepth 100000 in
set_option maxHeartbeats 2000000 in
theorem rmem_26 (w : World) : Calls Try.prog 19 #[.int .i64 26] w fun e w' => e = .returned (.bool false) ∧ w' = w := by
  go_enter Try.func19, Try.ntmps19
  go_wp2
  go_ret
  exact ⟨rfl, rfl⟩
theorem rload_26 (w : World) : Calls Try.prog 21 #[.int .i64 26] w fun e w' => e = .returned (.bool false) ∧ w' = w := by
  go_enter Try.func21, Try.ntmps21
  go_wp2
  go_ret
  exact ⟨rfl, rfl⟩
set_option maxRecDepth 100000 in
set_option maxHeartbeats 2000000 in
theorem rmem_27 (w : World) : Calls Try.prog 19 #[.int .i64 27] w fun e w' => e = .returned (.bool false) ∧ w' = w := by
  go_enter Try.func19, Try.ntmps19
  go_wp2
  go_ret
  exact ⟨rfl, rfl⟩
theorem rload_27 (w : World) : Calls Try.prog 21 #[.int .i64 27] w fun e w' => e = .returned (.bool false) ∧ w' = w := by
  go_enter Try.func21, Try.ntmps21
  go_wp2
  go_ret
  exact ⟨rfl, rfl⟩
set_option maxRecDepth 100000 in
set_option maxHeartbeats 2000000 in
theorem rmem_28 (w : World) : Calls Try.prog 19 #[.int .i64 28] w fun e w' => e = .returned (.bool true) ∧ w' = w := by
  go_enter Try.func19, Try.ntmps19
  go_wp2
  go_ret
  exact ⟨rfl, rfl⟩
theorem rload_28 (w : World) : Calls Try.prog 21 #[.int .i64 28] w fun e w' => e = .returned (.bool true) ∧ w' = w := by
  go_enter Try.func21, Try.ntmps21
  go_wp2
  go_ret
  exact ⟨rfl, rfl⟩
set_option maxRecDepth 100000 in
set_option maxHeartbeats 2000000 in
theorem rmem_29 (w : World) : Calls Try.prog 19 #[.int .i64 29] w fun e w' => e = .returned (.bool true) ∧ w' = w := by
  go_enter Try.func19, Try.ntmps19
  go_wp2
  go_ret
  exact ⟨rfl, rfl⟩
theorem rload_29 (w : World) : Calls Try.prog 21 #[.int .i64 29] w fun e w' => e = .returned (.bool false) ∧ w' = w := by
  go_enter Try.func21, Try.ntmps21
  go_wp2
  go_ret
  exact ⟨rfl, rfl⟩
set_option maxRecDepth 100000 in
set_option maxHeartbeats 2000000 in
theorem rmem_30 (w : World) : Calls Try.prog 19 #[.int .i64 30] w fun e w' => e = .returned (.bool true) ∧ w' = w := by
  go_enter Try.func19, Try.ntmps19
  go_wp2
  go_ret
  exact ⟨rfl, rfl⟩
theorem rload_30 (w : World) : Calls Try.prog 21 #[.int .i64 30] w fun e w' => e = .returned (.bool true) ∧ w' = w := by
  go_enter Try.func21, Try.ntmps21
  go_wp2
  go_ret
  exact ⟨rfl, rfl⟩
set_option maxRecDepth 100000 in
set_option maxHeartbeats 2000000 in
theorem rmem_31 (w : World) : Calls Try.prog 19 #[.int .i64 31] w fun e w' => e = .returned (.bool true) ∧ w' = w := by
  go_enter Try.func19, Try.ntmps19
  go_wp2
  go_ret
  exact ⟨rfl, rfl⟩
theorem rload_31 (w : World) : Calls Try.prog 21 #[.int .i64 31] w fun e w' => e = .returned (.bool true) ∧ w' = w := by
  go_enter Try.func21, Try.ntmps21
  go_wp2
  go_ret
  exact ⟨rfl, rfl⟩
set_option maxRecDepth 100000 in
set_option maxHeartbeats 2000000 in
theorem rmem_32 (w : World) : Calls Try.prog 19 #[.int .i64 32] w fun e w' => e = .returned (.bool true) ∧ w' = w := by
  go_enter Try.func19, Try.ntmps19
  go_wp2
  go_ret
  exact ⟨rfl, rfl⟩
theorem rload_32 (w : World) : Calls Try.prog 21 #[.int .i64 32] w fun e w' => e = .returned (.bool false) ∧ w' = w := by
  go_enter Try.func21, Try.ntmps21
  go_wp2
  go_ret
  exact ⟨rfl, rfl⟩
set_option maxRecDepth 100000 in
set_option maxHeartbeats 2000000 in
theorem rmem_33 (w : World) : Calls Try.prog 19 #[.int .i64 33] w fun e w' => e = .returned (.bool true) ∧ w' = w := by
  go_enter Try.func19, Try.ntmps19
  go_wp2
  go_ret
  exact ⟨rfl, rfl⟩
theorem rload_33 (w : World) : Calls Try.prog 21 #[.int .i64 33] w fun e w' => e = .returned (.bool true) ∧ w' = w := by
  go_enter Try.func21, Try.ntmps21
  go_wp2
  go_ret
  exact ⟨rfl, rfl⟩
set_option maxRecDepth 100000 in
set_option maxHeartbeats 2000000 in
theorem rmem_34 (w : World) : Calls Try.prog 19 #[.int .i64 34] w fun e w' => e = .returned (.bool true) ∧ w' = w := by
  go_enter Try.func19, Try.ntmps19
  go_wp2
  go_ret
  exact ⟨rfl, rfl⟩
theorem rload_34 (w : World) : Calls Try.prog 21 #[.int .i64 34] w fun e w' => e = .returned (.bool false) ∧ w' = w := by
  go_enter Try.func21, Try.ntmps21
  go_wp2
  go_ret
  exact ⟨rfl, rfl⟩
set_option maxRecDepth 100000 in
set_option maxHeartbeats 2000000 in
theorem rmem_35 (w : World) : Calls Try.prog 19 #[.int .i64 35] w fun e w' => e = .returned (.bool true) ∧ w' = w := by
  go_enter Try.func19, Try.ntmps19
  go_wp2
  go_ret
  exact ⟨rfl, rfl⟩
theorem rload_35 (w : World) : Calls Try.prog 21 #[.int .i64 35] w fun e w' => e = .returned (.bool true) ∧ w' = w := by
  go_enter Try.func21, Try.ntmps21
  go_wp2
  go_ret
  exact ⟨rfl, rfl⟩
set_option maxRecDepth 100000 in
set_option maxHeartbeats 2000000 in
theorem rmem_36 (w : World) : Calls Try.prog 19 #[.int .i64 36] w fun e w' => e = .returned (.bool true) ∧ w' = w := by
  go_enter Try.func19, Try.ntmps19
  go_wp2
  go_ret
  exact ⟨rfl, rfl⟩
theorem rload_36 (w : World) : Calls Try.prog 21 #[.int .i64 36] w fun e w' => e = .returned (.bool false) ∧ w' = w := by
  go_enter Try.func21, Try.ntmps21
  go_wp2
  go_ret
  exact ⟨rfl, rfl⟩
set_option maxRecDepth 100000 in
set_option maxHeartbeats 2000000 in
theorem rmem_37 (w : World) : Calls Try.prog 19 #[.int .i64 37] w fun e w' => e = .returned (.bool false) ∧ w' = w := by
  go_enter Try.func19, Try.ntmps19
  go_wp2
  go_ret
  exact ⟨rfl, rfl⟩
theorem rload_37 (w : World) : Calls Try.prog 21 #[.int .i64 37] w fun e w' => e = .returned (.bool false) ∧ w' = w := by
  go_enter Try.func21, Try.ntmps21
  go_wp2
  go_ret
  exact ⟨rfl, rfl⟩
set_option maxRecDepth 100000 in
set_option maxHeartbeats 2000000 in
theorem rmem_38 (w : World) : Calls Try.prog 19 #[.int .i64 38] w fun e w' => e = .returned (.bool false) ∧ w' = w := by
  go_enter Try.func19, Try.ntmps19
  go_wp2
  go_ret
  exact ⟨rfl, rfl⟩
theorem rload_38 (w : World) : Calls Try.prog 21 #[.int .i64 38] w fun e w' => e = .returned (.bool false) ∧ w' = w := by
  go_enter Try.func21, Try.ntmps21
  go_wp2
  go_ret
  exact ⟨rfl, rfl⟩
set_option maxRecDepth 100000 in
set_option maxHeartbeats 2000000 in
theorem rmem_39 (w : World) : Calls Try.prog 19 #[.int .i64 39] w fun e w' => e = .returned (.bool false) ∧ w' = w := by
  go_enter Try.func19, Try.ntmps19
  go_wp2
  go_ret
  exact ⟨rfl, rfl⟩
theorem rload_39 (w : World) : Calls Try.prog 21 #[.int .i64 39] w fun e w' => e = .returned (.bool false) ∧ w' = w := by
  go_enter Try.func21, Try.ntmps21
  go_wp2
  go_ret
  exact ⟨rfl, rfl⟩
set_option maxRecDepth 100000 in
set_option maxHeartbeats 2000000 in
theorem rmem_40 (w : World) : Calls Try.prog 19 #[.int .i64 40] w fun e w' => e = .returned (.bool false) ∧ w' = w := by
  go_enter Try.func19, Try.ntmps19
  go_wp2
  go_ret
  exact ⟨rfl, rfl⟩
theorem rload_40 (w : World) : Calls Try.prog 21 #[.int .i64 40] w fun e w' => e = .returned (.bool false) ∧ w' = w := by
  go_enter Try.func21, Try.ntmps21
  go_wp2
  go_ret
  exact ⟨rfl, rfl⟩
set_option maxRecDepth 100000 in
set_option maxHeartbeats 2000000 in
theorem rmem_41 (w : World) : Calls Try.prog 19 #[.int .i64 41] w fun e w' => e = .returned (.bool false) ∧ w' = w := by
  go_enter Try.func19, Try.ntmps19
  go_wp2
  go_ret
  exact ⟨rfl, rfl⟩
theorem rload_41 (w : World) : Calls Try.prog 21 #[.int .i64 41] w fun e w' => e = .returned (.bool false) ∧ w' = w := by
  go_enter Try.func21, Try.ntmps21
  go_wp2
  go_ret
  exact ⟨rfl, rfl⟩
set_option maxRecDepth 100000 in
set_option maxHeartbeats 2000000 in
theorem rmem_42 (w : World) : Calls Try.prog 19 #[.int .i64 42] w fun e w' => e = .returned (.bool false) ∧ w' = w := by
  go_enter Try.func19, Try.ntmps19
  go_wp2
  go_ret
  exact ⟨rfl, rfl⟩
theorem rload_42 (w : World) : Calls Try.prog 21 #[.int .i64 42] w fun e w' => e = .returned (.bool false) ∧ w' = w := by
  go_enter Try.func21, Try.ntmps21
  go_wp2
  go_ret
  exact ⟨rfl, rfl⟩
set_option maxRecDepth 100000 in
set_option maxHeartbeats 2000000 in
theorem rdest_2 (d n m a c i : Int) (w : World) : Calls Try.prog 48 #[.agg #[.int .i64 2, .int .i64 d, .int .i64 n, .int .i64 m, .int .i64 a, .int .i64 c, .int .i64 i]] w fun e w' => e = .returned (.int .i64 d) ∧ Below w.heap.size w w' := by
  rcases hb : (d == 31)
  · have hn : d ≠ 31 := by simpa using hb
    go_enter Try.func48, Try.ntmps48
    go_wp2
    go_ret
    exact ⟨rfl, (Below.refl _ _).alloc (Nat.le_refl _) _⟩
  · have hn : d = 31 := by simpa using hb
    subst hn
    go_enter Try.func48, Try.ntmps48
    go_wp2_with (go_at_call 19; refine (rmem_2 _).mono ?_; rintro e w' ⟨rfl, rfl⟩)
    go_ret
    exact ⟨rfl, (Below.refl _ _).alloc (Nat.le_refl _) _⟩
set_option maxRecDepth 100000 in
set_option maxHeartbeats 2000000 in
theorem rdest_3 (d n m a c i : Int) (w : World) : Calls Try.prog 48 #[.agg #[.int .i64 3, .int .i64 d, .int .i64 n, .int .i64 m, .int .i64 a, .int .i64 c, .int .i64 i]] w fun e w' => e = .returned (.int .i64 d) ∧ Below w.heap.size w w' := by
  rcases hb : (d == 31)
  · have hn : d ≠ 31 := by simpa using hb
    go_enter Try.func48, Try.ntmps48
    go_wp2
    go_ret
    exact ⟨rfl, (Below.refl _ _).alloc (Nat.le_refl _) _⟩
  · have hn : d = 31 := by simpa using hb
    subst hn
    go_enter Try.func48, Try.ntmps48
    go_wp2_with (go_at_call 19; refine (rmem_3 _).mono ?_; rintro e w' ⟨rfl, rfl⟩)
    go_ret
    exact ⟨rfl, (Below.refl _ _).alloc (Nat.le_refl _) _⟩
set_option maxRecDepth 100000 in
set_option maxHeartbeats 2000000 in
theorem rbase_4 (d n m a c i : Int) (w : World) : Calls Try.prog 46 #[.agg #[.int .i64 4, .int .i64 d, .int .i64 n, .int .i64 m, .int .i64 a, .int .i64 c, .int .i64 i]] w fun e w' => e = .returned (.int .i64 (spOr n)) ∧ Below w.heap.size w w' := by
  rcases hb : (n == 31)
  · have hn : n ≠ 31 := by simpa using hb
    go_enter Try.func46, Try.ntmps46
    go_wp2
    go_ret
    exact ⟨by simp [spOr, hn], (Below.refl _ _).alloc (Nat.le_refl _) _⟩
  · have hn : n = 31 := by simpa using hb
    subst hn
    go_enter Try.func46, Try.ntmps46
    go_wp2_with (go_at_call 19; refine (rmem_4 _).mono ?_; rintro e w' ⟨rfl, rfl⟩)
    go_ret
    exact ⟨rfl, (Below.refl _ _).alloc (Nat.le_refl _) _⟩
set_option maxRecDepth 100000 in
set_option maxHeartbeats 2000000 in
theorem rdest_4 (d n m a c i : Int) (w : World) : Calls Try.prog 48 #[.agg #[.int .i64 4, .int .i64 d, .int .i64 n, .int .i64 m, .int .i64 a, .int .i64 c, .int .i64 i]] w fun e w' => e = .returned (.int .i64 (spOr d)) ∧ Below w.heap.size w w' := by
  rcases hb : (d == 31)
  · have hn : d ≠ 31 := by simpa using hb
    go_enter Try.func48, Try.ntmps48
    go_wp2
    go_ret
    exact ⟨by simp [spOr, hn], (Below.refl _ _).alloc (Nat.le_refl _) _⟩
  · have hn : d = 31 := by simpa using hb
    subst hn
    go_enter Try.func48, Try.ntmps48
    go_wp2_with (go_at_call 19; refine (rmem_4 _).mono ?_; rintro e w' ⟨rfl, rfl⟩)
    go_ret
    exact ⟨rfl, (Below.refl _ _).alloc (Nat.le_refl _) _⟩
set_option maxRecDepth 100000 in
set_option maxHeartbeats 2000000 in
theorem rbase_5 (d n m a c i : Int) (w : World) : Calls Try.prog 46 #[.agg #[.int .i64 5, .int .i64 d, .int .i64 n, .int .i64 m, .int .i64 a, .int .i64 c, .int .i64 i]] w fun e w' => e = .returned (.int .i64 (spOr n)) ∧ Below w.heap.size w w' := by
  rcases hb : (n == 31)
  · have hn : n ≠ 31 := by simpa using hb
    go_enter Try.func46, Try.ntmps46
    go_wp2
    go_ret
    exact ⟨by simp [spOr, hn], (Below.refl _ _).alloc (Nat.le_refl _) _⟩
  · have hn : n = 31 := by simpa using hb
    subst hn
    go_enter Try.func46, Try.ntmps46
    go_wp2_with (go_at_call 19; refine (rmem_5 _).mono ?_; rintro e w' ⟨rfl, rfl⟩)
    go_ret
    exact ⟨rfl, (Below.refl _ _).alloc (Nat.le_refl _) _⟩
set_option maxRecDepth 100000 in
set_option maxHeartbeats 2000000 in
theorem rdest_5 (d n m a c i : Int) (w : World) : Calls Try.prog 48 #[.agg #[.int .i64 5, .int .i64 d, .int .i64 n, .int .i64 m, .int .i64 a, .int .i64 c, .int .i64 i]] w fun e w' => e = .returned (.int .i64 (spOr d)) ∧ Below w.heap.size w w' := by
  rcases hb : (d == 31)
  · have hn : d ≠ 31 := by simpa using hb
    go_enter Try.func48, Try.ntmps48
    go_wp2
    go_ret
    exact ⟨by simp [spOr, hn], (Below.refl _ _).alloc (Nat.le_refl _) _⟩
  · have hn : d = 31 := by simpa using hb
    subst hn
    go_enter Try.func48, Try.ntmps48
    go_wp2_with (go_at_call 19; refine (rmem_5 _).mono ?_; rintro e w' ⟨rfl, rfl⟩)
    go_ret
    exact ⟨rfl, (Below.refl _ _).alloc (Nat.le_refl _) _⟩
set_option maxRecDepth 100000 in
set_option maxHeartbeats 2000000 in
theorem rbase_6 (d n m a c i : Int) (w : World) : Calls Try.prog 46 #[.agg #[.int .i64 6, .int .i64 d, .int .i64 n, .int .i64 m, .int .i64 a, .int .i64 c, .int .i64 i]] w fun e w' => e = .returned (.int .i64 (spOr n)) ∧ Below w.heap.size w w' := by
  rcases hb : (n == 31)
  · have hn : n ≠ 31 := by simpa using hb
    go_enter Try.func46, Try.ntmps46
    go_wp2
    go_ret
    exact ⟨by simp [spOr, hn], (Below.refl _ _).alloc (Nat.le_refl _) _⟩
  · have hn : n = 31 := by simpa using hb
    subst hn
    go_enter Try.func46, Try.ntmps46
    go_wp2_with (go_at_call 19; refine (rmem_6 _).mono ?_; rintro e w' ⟨rfl, rfl⟩)
    go_ret
    exact ⟨rfl, (Below.refl _ _).alloc (Nat.le_refl _) _⟩
set_option maxRecDepth 100000 in
set_option maxHeartbeats 2000000 in
theorem rdest_6 (d n m a c i : Int) (w : World) : Calls Try.prog 48 #[.agg #[.int .i64 6, .int .i64 d, .int .i64 n, .int .i64 m, .int .i64 a, .int .i64 c, .int .i64 i]] w fun e w' => e = .returned (.int .i64 d) ∧ Below w.heap.size w w' := by
  rcases hb : (d == 31)
  · have hn : d ≠ 31 := by simpa using hb
    go_enter Try.func48, Try.ntmps48
    go_wp2
    go_ret
    exact ⟨rfl, (Below.refl _ _).alloc (Nat.le_refl _) _⟩
  · have hn : d = 31 := by simpa using hb
    subst hn
    go_enter Try.func48, Try.ntmps48
    go_wp2_with (go_at_call 19; refine (rmem_6 _).mono ?_; rintro e w' ⟨rfl, rfl⟩)
    go_ret
    exact ⟨rfl, (Below.refl _ _).alloc (Nat.le_refl _) _⟩
set_option maxRecDepth 100000 in
set_option maxHeartbeats 2000000 in
theorem rbase_7 (d n m a c i : Int) (w : World) : Calls Try.prog 46 #[.agg #[.int .i64 7, .int .i64 d, .int .i64 n, .int .i64 m, .int .i64 a, .int .i64 c, .int .i64 i]] w fun e w' => e = .returned (.int .i64 n) ∧ Below w.heap.size w w' := by
  rcases hb : (n == 31)
  · have hn : n ≠ 31 := by simpa using hb
    go_enter Try.func46, Try.ntmps46
    go_wp2
    go_ret
    exact ⟨rfl, (Below.refl _ _).alloc (Nat.le_refl _) _⟩
  · have hn : n = 31 := by simpa using hb
    subst hn
    go_enter Try.func46, Try.ntmps46
    go_wp2_with (go_at_call 19; refine (rmem_7 _).mono ?_; rintro e w' ⟨rfl, rfl⟩)
    go_ret
    exact ⟨rfl, (Below.refl _ _).alloc (Nat.le_refl _) _⟩
set_option maxRecDepth 100000 in
set_option maxHeartbeats 2000000 in
theorem rdest_7 (d n m a c i : Int) (w : World) : Calls Try.prog 48 #[.agg #[.int .i64 7, .int .i64 d, .int .i64 n, .int .i64 m, .int .i64 a, .int .i64 c, .int .i64 i]] w fun e w' => e = .returned (.int .i64 d) ∧ Below w.heap.size w w' := by
  rcases hb : (d == 31)
  · have hn : d ≠ 31 := by simpa using hb
    go_enter Try.func48, Try.ntmps48
    go_wp2
    go_ret
    exact ⟨rfl, (Below.refl _ _).alloc (Nat.le_refl _) _⟩
  · have hn : d = 31 := by simpa using hb
    subst hn
    go_enter Try.func48, Try.ntmps48
    go_wp2_with (go_at_call 19; refine (rmem_7 _).mono ?_; rintro e w' ⟨rfl, rfl⟩)
    go_ret
    exact ⟨rfl, (Below.refl _ _).alloc (Nat.le_refl _) _⟩
set_option maxRecDepth 100000 in
set_option maxHeartbeats 2000000 in
theorem rbase_8 (d n m a c i : Int) (w : World) : Calls Try.prog 46 #[.agg #[.int .i64 8, .int .i64 d, .int .i64 n, .int .i64 m, .int .i64 a, .int .i64 c, .int .i64 i]] w fun e w' => e = .returned (.int .i64 n) ∧ Below w.heap.size w w' := by
  rcases hb : (n == 31)
  · have hn : n ≠ 31 := by simpa using hb
    go_enter Try.func46, Try.ntmps46
    go_wp2
    go_ret
    exact ⟨rfl, (Below.refl _ _).alloc (Nat.le_refl _) _⟩
  · have hn : n = 31 := by simpa using hb
    subst hn
    go_enter Try.func46, Try.ntmps46
    go_wp2_with (go_at_call 19; refine (rmem_8 _).mono ?_; rintro e w' ⟨rfl, rfl⟩)
    go_ret
    exact ⟨rfl, (Below.refl _ _).alloc (Nat.le_refl _) _⟩
set_option maxRecDepth 100000 in
set_option maxHeartbeats 2000000 in
theorem rdest_8 (d n m a c i : Int) (w : World) : Calls Try.prog 48 #[.agg #[.int .i64 8, .int .i64 d, .int .i64 n, .int .i64 m, .int .i64 a, .int .i64 c, .int .i64 i]] w fun e w' => e = .returned (.int .i64 d) ∧ Below w.heap.size w w' := by
  rcases hb : (d == 31)
  · have hn : d ≠ 31 := by simpa using hb
    go_enter Try.func48, Try.ntmps48
    go_wp2
    go_ret
    exact ⟨rfl, (Below.refl _ _).alloc (Nat.le_refl _) _⟩
  · have hn : d = 31 := by simpa using hb
    subst hn
    go_enter Try.func48, Try.ntmps48
    go_wp2_with (go_at_call 19; refine (rmem_8 _).mono ?_; rintro e w' ⟨rfl, rfl⟩)
    go_ret
    exact ⟨rfl, (Below.refl _ _).alloc (Nat.le_refl _) _⟩
set_option maxRecDepth 100000 in
set_option maxHeartbeats 2000000 in
theorem rbase_9 (d n m a c i : Int) (w : World) : Calls Try.prog 46 #[.agg #[.int .i64 9, .int .i64 d, .int .i64 n, .int .i64 m, .int .i64 a, .int .i64 c, .int .i64 i]] w fun e w' => e = .returned (.int .i64 n) ∧ Below w.heap.size w w' := by
  rcases hb : (n == 31)
  · have hn : n ≠ 31 := by simpa using hb
    go_enter Try.func46, Try.ntmps46
    go_wp2
    go_ret
    exact ⟨rfl, (Below.refl _ _).alloc (Nat.le_refl _) _⟩
  · have hn : n = 31 := by simpa using hb
    subst hn
    go_enter Try.func46, Try.ntmps46
    go_wp2_with (go_at_call 19; refine (rmem_9 _).mono ?_; rintro e w' ⟨rfl, rfl⟩)
    go_ret
    exact ⟨rfl, (Below.refl _ _).alloc (Nat.le_refl _) _⟩
set_option maxRecDepth 100000 in
set_option maxHeartbeats 2000000 in
theorem rdest_9 (d n m a c i : Int) (w : World) : Calls Try.prog 48 #[.agg #[.int .i64 9, .int .i64 d, .int .i64 n, .int .i64 m, .int .i64 a, .int .i64 c, .int .i64 i]] w fun e w' => e = .returned (.int .i64 d) ∧ Below w.heap.size w w' := by
  rcases hb : (d == 31)
  · have hn : d ≠ 31 := by simpa using hb
    go_enter Try.func48, Try.ntmps48
    go_wp2
    go_ret
    exact ⟨rfl, (Below.refl _ _).alloc (Nat.le_refl _) _⟩
  · have hn : d = 31 := by simpa using hb
    subst hn
    go_enter Try.func48, Try.ntmps48
    go_wp2_with (go_at_call 19; refine (rmem_9 _).mono ?_; rintro e w' ⟨rfl, rfl⟩)
    go_ret
    exact ⟨rfl, (Below.refl _ _).alloc (Nat.le_refl _) _⟩
set_option maxRecDepth 100000 in
set_option maxHeartbeats 2000000 in
theorem rbase_10 (d n m a c i : Int) (w : World) : Calls Try.prog 46 #[.agg #[.int .i64 10, .int .i64 d, .int .i64 n, .int .i64 m, .int .i64 a, .int .i64 c, .int .i64 i]] w fun e w' => e = .returned (.int .i64 n) ∧ Below w.heap.size w w' := by
  rcases hb : (n == 31)
  · have hn : n ≠ 31 := by simpa using hb
    go_enter Try.func46, Try.ntmps46
    go_wp2
    go_ret
    exact ⟨rfl, (Below.refl _ _).alloc (Nat.le_refl _) _⟩
  · have hn : n = 31 := by simpa using hb
    subst hn
    go_enter Try.func46, Try.ntmps46
    go_wp2_with (go_at_call 19; refine (rmem_10 _).mono ?_; rintro e w' ⟨rfl, rfl⟩)
    go_ret
    exact ⟨rfl, (Below.refl _ _).alloc (Nat.le_refl _) _⟩
set_option maxRecDepth 100000 in
set_option maxHeartbeats 2000000 in
theorem rdest_10 (d n m a c i : Int) (w : World) : Calls Try.prog 48 #[.agg #[.int .i64 10, .int .i64 d, .int .i64 n, .int .i64 m, .int .i64 a, .int .i64 c, .int .i64 i]] w fun e w' => e = .returned (.int .i64 d) ∧ Below w.heap.size w w' := by
  rcases hb : (d == 31)
  · have hn : d ≠ 31 := by simpa using hb
    go_enter Try.func48, Try.ntmps48
    go_wp2
    go_ret
    exact ⟨rfl, (Below.refl _ _).alloc (Nat.le_refl _) _⟩
  · have hn : d = 31 := by simpa using hb
    subst hn
    go_enter Try.func48, Try.ntmps48
    go_wp2_with (go_at_call 19; refine (rmem_10 _).mono ?_; rintro e w' ⟨rfl, rfl⟩)
    go_ret
    exact ⟨rfl, (Below.refl _ _).alloc (Nat.le_refl _) _⟩
set_option maxRecDepth 100000 in
set_option maxHeartbeats 2000000 in
theorem rbase_11 (d n m a c i : Int) (w : World) : Calls Try.prog 46 #[.agg #[.int .i64 11, .int .i64 d, .int .i64 n, .int .i64 m, .int .i64 a, .int .i64 c, .int .i64 i]] w fun e w' => e = .returned (.int .i64 n) ∧ Below w.heap.size w w' := by
  rcases hb : (n == 31)
  · have hn : n ≠ 31 := by simpa using hb
    go_enter Try.func46, Try.ntmps46
    go_wp2
    go_ret
    exact ⟨rfl, (Below.refl _ _).alloc (Nat.le_refl _) _⟩
  · have hn : n = 31 := by simpa using hb
    subst hn
    go_enter Try.func46, Try.ntmps46
    go_wp2_with (go_at_call 19; refine (rmem_11 _).mono ?_; rintro e w' ⟨rfl, rfl⟩)
    go_ret
    exact ⟨rfl, (Below.refl _ _).alloc (Nat.le_refl _) _⟩
set_option maxRecDepth 100000 in
set_option maxHeartbeats 2000000 in
theorem rdest_11 (d n m a c i : Int) (w : World) : Calls Try.prog 48 #[.agg #[.int .i64 11, .int .i64 d, .int .i64 n, .int .i64 m, .int .i64 a, .int .i64 c, .int .i64 i]] w fun e w' => e = .returned (.int .i64 d) ∧ Below w.heap.size w w' := by
  rcases hb : (d == 31)
  · have hn : d ≠ 31 := by simpa using hb
    go_enter Try.func48, Try.ntmps48
    go_wp2
    go_ret
    exact ⟨rfl, (Below.refl _ _).alloc (Nat.le_refl _) _⟩
  · have hn : d = 31 := by simpa using hb
    subst hn
    go_enter Try.func48, Try.ntmps48
    go_wp2_with (go_at_call 19; refine (rmem_11 _).mono ?_; rintro e w' ⟨rfl, rfl⟩)
    go_ret
    exact ⟨rfl, (Below.refl _ _).alloc (Nat.le_refl _) _⟩
set_option maxRecDepth 100000 in
set_option maxHeartbeats 2000000 in
theorem rbase_12 (d n m a c i : Int) (w : World) : Calls Try.prog 46 #[.agg #[.int .i64 12, .int .i64 d, .int .i64 n, .int .i64 m, .int .i64 a, .int .i64 c, .int .i64 i]] w fun e w' => e = .returned (.int .i64 n) ∧ Below w.heap.size w w' := by
  rcases hb : (n == 31)
  · have hn : n ≠ 31 := by simpa using hb
    go_enter Try.func46, Try.ntmps46
    go_wp2
    go_ret
    exact ⟨rfl, (Below.refl _ _).alloc (Nat.le_refl _) _⟩
  · have hn : n = 31 := by simpa using hb
    subst hn
    go_enter Try.func46, Try.ntmps46
    go_wp2_with (go_at_call 19; refine (rmem_12 _).mono ?_; rintro e w' ⟨rfl, rfl⟩)
    go_ret
    exact ⟨rfl, (Below.refl _ _).alloc (Nat.le_refl _) _⟩
set_option maxRecDepth 100000 in
set_option maxHeartbeats 2000000 in
theorem rdest_12 (d n m a c i : Int) (w : World) : Calls Try.prog 48 #[.agg #[.int .i64 12, .int .i64 d, .int .i64 n, .int .i64 m, .int .i64 a, .int .i64 c, .int .i64 i]] w fun e w' => e = .returned (.int .i64 d) ∧ Below w.heap.size w w' := by
  rcases hb : (d == 31)
  · have hn : d ≠ 31 := by simpa using hb
    go_enter Try.func48, Try.ntmps48
    go_wp2
    go_ret
    exact ⟨rfl, (Below.refl _ _).alloc (Nat.le_refl _) _⟩
  · have hn : d = 31 := by simpa using hb
    subst hn
    go_enter Try.func48, Try.ntmps48
    go_wp2_with (go_at_call 19; refine (rmem_12 _).mono ?_; rintro e w' ⟨rfl, rfl⟩)
    go_ret
    exact ⟨rfl, (Below.refl _ _).alloc (Nat.le_refl _) _⟩
set_option maxRecDepth 100000 in
set_option maxHeartbeats 2000000 in
theorem rbase_13 (d n m a c i : Int) (w : World) : Calls Try.prog 46 #[.agg #[.int .i64 13, .int .i64 d, .int .i64 n, .int .i64 m, .int .i64 a, .int .i64 c, .int .i64 i]] w fun e w' => e = .returned (.int .i64 n) ∧ Below w.heap.size w w' := by
  rcases hb : (n == 31)
  · have hn : n ≠ 31 := by simpa using hb
    go_enter Try.func46, Try.ntmps46
    go_wp2
    go_ret
    exact ⟨rfl, (Below.refl _ _).alloc (Nat.le_refl _) _⟩
  · have hn : n = 31 := by simpa using hb
    subst hn
    go_enter Try.func46, Try.ntmps46
    go_wp2_with (go_at_call 19; refine (rmem_13 _).mono ?_; rintro e w' ⟨rfl, rfl⟩)
    go_ret
    exact ⟨rfl, (Below.refl _ _).alloc (Nat.le_refl _) _⟩
set_option maxRecDepth 100000 in
set_option maxHeartbeats 2000000 in
theorem rdest_13 (d n m a c i : Int) (w : World) : Calls Try.prog 48 #[.agg #[.int .i64 13, .int .i64 d, .int .i64 n, .int .i64 m, .int .i64 a, .int .i64 c, .int .i64 i]] w fun e w' => e = .returned (.int .i64 d) ∧ Below w.heap.size w w' := by
  rcases hb : (d == 31)
  · have hn : d ≠ 31 := by simpa using hb
    go_enter Try.func48, Try.ntmps48
    go_wp2
    go_ret
    exact ⟨rfl, (Below.refl _ _).alloc (Nat.le_refl _) _⟩
  · have hn : d = 31 := by simpa using hb
    subst hn
    go_enter Try.func48, Try.ntmps48
    go_wp2_with (go_at_call 19; refine (rmem_13 _).mono ?_; rintro e w' ⟨rfl, rfl⟩)
    go_ret
    exact ⟨rfl, (Below.refl _ _).alloc (Nat.le_refl _) _⟩
set_option maxRecDepth 100000 in
set_option maxHeartbeats 2000000 in
theorem rbase_14 (d n m a c i : Int) (w : World) : Calls Try.prog 46 #[.agg #[.int .i64 14, .int .i64 d, .int .i64 n, .int .i64 m, .int .i64 a, .int .i64 c, .int .i64 i]] w fun e w' => e = .returned (.int .i64 n) ∧ Below w.heap.size w w' := by
  rcases hb : (n == 31)
  · have hn : n ≠ 31 := by simpa using hb
    go_enter Try.func46, Try.ntmps46
    go_wp2
    go_ret
    exact ⟨rfl, (Below.refl _ _).alloc (Nat.le_refl _) _⟩
  · have hn : n = 31 := by simpa using hb
    subst hn
    go_enter Try.func46, Try.ntmps46
    go_wp2_with (go_at_call 19; refine (rmem_14 _).mono ?_; rintro e w' ⟨rfl, rfl⟩)
    go_ret
    exact ⟨rfl, (Below.refl _ _).alloc (Nat.le_refl _) _⟩
set_option maxRecDepth 100000 in
set_option maxHeartbeats 2000000 in
theorem rdest_14 (d n m a c i : Int) (w : World) : Calls Try.prog 48 #[.agg #[.int .i64 14, .int .i64 d, .int .i64 n, .int .i64 m, .int .i64 a, .int .i64 c, .int .i64 i]] w fun e w' => e = .returned (.int .i64 d) ∧ Below w.heap.size w w' := by
  rcases hb : (d == 31)
  · have hn : d ≠ 31 := by simpa using hb
    go_enter Try.func48, Try.ntmps48
    go_wp2
    go_ret
    exact ⟨rfl, (Below.refl _ _).alloc (Nat.le_refl _) _⟩
  · have hn : d = 31 := by simpa using hb
    subst hn
    go_enter Try.func48, Try.ntmps48
    go_wp2_with (go_at_call 19; refine (rmem_14 _).mono ?_; rintro e w' ⟨rfl, rfl⟩)
    go_ret
    exact ⟨rfl, (Below.refl _ _).alloc (Nat.le_refl _) _⟩
set_option maxRecDepth 100000 in
set_option maxHeartbeats 2000000 in
theorem rbase_15 (d n m a c i : Int) (w : World) : Calls Try.prog 46 #[.agg #[.int .i64 15, .int .i64 d, .int .i64 n, .int .i64 m, .int .i64 a, .int .i64 c, .int .i64 i]] w fun e w' => e = .returned (.int .i64 n) ∧ Below w.heap.size w w' := by
  rcases hb : (n == 31)
  · have hn : n ≠ 31 := by simpa using hb
    go_enter Try.func46, Try.ntmps46
    go_wp2
    go_ret
    exact ⟨rfl, (Below.refl _ _).alloc (Nat.le_refl _) _⟩
  · have hn : n = 31 := by simpa using hb
    subst hn
    go_enter Try.func46, Try.ntmps46
    go_wp2_with (go_at_call 19; refine (rmem_15 _).mono ?_; rintro e w' ⟨rfl, rfl⟩)
    go_ret
    exact ⟨rfl, (Below.refl _ _).alloc (Nat.le_refl _) _⟩
set_option maxRecDepth 100000 in
set_option maxHeartbeats 2000000 in
theorem rdest_15 (d n m a c i : Int) (w : World) : Calls Try.prog 48 #[.agg #[.int .i64 15, .int .i64 d, .int .i64 n, .int .i64 m, .int .i64 a, .int .i64 c, .int .i64 i]] w fun e w' => e = .returned (.int .i64 d) ∧ Below w.heap.size w w' := by
  rcases hb : (d == 31)
  · have hn : d ≠ 31 := by simpa using hb
    go_enter Try.func48, Try.ntmps48
    go_wp2
    go_ret
    exact ⟨rfl, (Below.refl _ _).alloc (Nat.le_refl _) _⟩
  · have hn : d = 31 := by simpa using hb
    subst hn
    go_enter Try.func48, Try.ntmps48
    go_wp2_with (go_at_call 19; refine (rmem_15 _).mono ?_; rintro e w' ⟨rfl, rfl⟩)
    go_ret
    exact ⟨rfl, (Below.refl _ _).alloc (Nat.le_refl _) _⟩
set_option maxRecDepth 100000 in
set_option maxHeartbeats 2000000 in
theorem rbase_16 (d n m a c i : Int) (w : World) : Calls Try.prog 46 #[.agg #[.int .i64 16, .int .i64 d, .int .i64 n, .int .i64 m, .int .i64 a, .int .i64 c, .int .i64 i]] w fun e w' => e = .returned (.int .i64 n) ∧ Below w.heap.size w w' := by
  rcases hb : (n == 31)
  · have hn : n ≠ 31 := by simpa using hb
    go_enter Try.func46, Try.ntmps46
    go_wp2
    go_ret
    exact ⟨rfl, (Below.refl _ _).alloc (Nat.le_refl _) _⟩
  · have hn : n = 31 := by simpa using hb
    subst hn
    go_enter Try.func46, Try.ntmps46
    go_wp2_with (go_at_call 19; refine (rmem_16 _).mono ?_; rintro e w' ⟨rfl, rfl⟩)
    go_ret
    exact ⟨rfl, (Below.refl _ _).alloc (Nat.le_refl _) _⟩
set_option maxRecDepth 100000 in
set_option maxHeartbeats 2000000 in
theorem rdest_16 (d n m a c i : Int) (w : World) : Calls Try.prog 48 #[.agg #[.int .i64 16, .int .i64 d, .int .i64 n, .int .i64 m, .int .i64 a, .int .i64 c, .int .i64 i]] w fun e w' => e = .returned (.int .i64 d) ∧ Below w.heap.size w w' := by
  rcases hb : (d == 31)
  · have hn : d ≠ 31 := by simpa using hb
    go_enter Try.func48, Try.ntmps48
    go_wp2
    go_ret
    exact ⟨rfl, (Below.refl _ _).alloc (Nat.le_refl _) _⟩
  · have hn : d = 31 := by simpa using hb
    subst hn
    go_enter Try.func48, Try.ntmps48
    go_wp2_with (go_at_call 19; refine (rmem_16 _).mono ?_; rintro e w' ⟨rfl, rfl⟩)
    go_ret
    exact ⟨rfl, (Below.refl _ _).alloc (Nat.le_refl _) _⟩
set_option maxRecDepth 100000 in
set_option maxHeartbeats 2000000 in
theorem rbase_17 (d n m a c i : Int) (w : World) : Calls Try.prog 46 #[.agg #[.int .i64 17, .int .i64 d, .int .i64 n, .int .i64 m, .int .i64 a, .int .i64 c, .int .i64 i]] w fun e w' => e = .returned (.int .i64 n) ∧ Below w.heap.size w w' := by
  rcases hb : (n == 31)
  · have hn : n ≠ 31 := by simpa using hb
    go_enter Try.func46, Try.ntmps46
    go_wp2
    go_ret
    exact ⟨rfl, (Below.refl _ _).alloc (Nat.le_refl _) _⟩
  · have hn : n = 31 := by simpa using hb
    subst hn
    go_enter Try.func46, Try.ntmps46
    go_wp2_with (go_at_call 19; refine (rmem_17 _).mono ?_; rintro e w' ⟨rfl, rfl⟩)
    go_ret
    exact ⟨rfl, (Below.refl _ _).alloc (Nat.le_refl _) _⟩
set_option maxRecDepth 100000 in
set_option maxHeartbeats 2000000 in
theorem rdest_17 (d n m a c i : Int) (w : World) : Calls Try.prog 48 #[.agg #[.int .i64 17, .int .i64 d, .int .i64 n, .int .i64 m, .int .i64 a, .int .i64 c, .int .i64 i]] w fun e w' => e = .returned (.int .i64 d) ∧ Below w.heap.size w w' := by
  rcases hb : (d == 31)
  · have hn : d ≠ 31 := by simpa using hb
    go_enter Try.func48, Try.ntmps48
    go_wp2
    go_ret
    exact ⟨rfl, (Below.refl _ _).alloc (Nat.le_refl _) _⟩
  · have hn : d = 31 := by simpa using hb
    subst hn
    go_enter Try.func48, Try.ntmps48
    go_wp2_with (go_at_call 19; refine (rmem_17 _).mono ?_; rintro e w' ⟨rfl, rfl⟩)
    go_ret
    exact ⟨rfl, (Below.refl _ _).alloc (Nat.le_refl _) _⟩
set_option maxRecDepth 100000 in
set_option maxHeartbeats 2000000 in
theorem rbase_18 (d n m a c i : Int) (w : World) : Calls Try.prog 46 #[.agg #[.int .i64 18, .int .i64 d, .int .i64 n, .int .i64 m, .int .i64 a, .int .i64 c, .int .i64 i]] w fun e w' => e = .returned (.int .i64 n) ∧ Below w.heap.size w w' := by
  rcases hb : (n == 31)
  · have hn : n ≠ 31 := by simpa using hb
    go_enter Try.func46, Try.ntmps46
    go_wp2
    go_ret
    exact ⟨rfl, (Below.refl _ _).alloc (Nat.le_refl _) _⟩
  · have hn : n = 31 := by simpa using hb
    subst hn
    go_enter Try.func46, Try.ntmps46
    go_wp2_with (go_at_call 19; refine (rmem_18 _).mono ?_; rintro e w' ⟨rfl, rfl⟩)
    go_ret
    exact ⟨rfl, (Below.refl _ _).alloc (Nat.le_refl _) _⟩
set_option maxRecDepth 100000 in
set_option maxHeartbeats 2000000 in
theorem rdest_18 (d n m a c i : Int) (w : World) : Calls Try.prog 48 #[.agg #[.int .i64 18, .int .i64 d, .int .i64 n, .int .i64 m, .int .i64 a, .int .i64 c, .int .i64 i]] w fun e w' => e = .returned (.int .i64 d) ∧ Below w.heap.size w w' := by
  rcases hb : (d == 31)
  · have hn : d ≠ 31 := by simpa using hb
    go_enter Try.func48, Try.ntmps48
    go_wp2
    go_ret
    exact ⟨rfl, (Below.refl _ _).alloc (Nat.le_refl _) _⟩
  · have hn : d = 31 := by simpa using hb
    subst hn
    go_enter Try.func48, Try.ntmps48
    go_wp2_with (go_at_call 19; refine (rmem_18 _).mono ?_; rintro e w' ⟨rfl, rfl⟩)
    go_ret
    exact ⟨rfl, (Below.refl _ _).alloc (Nat.le_refl _) _⟩
set_option maxRecDepth 100000 in
set_option maxHeartbeats 2000000 in
theorem rbase_19 (d n m a c i : Int) (w : World) : Calls Try.prog 46 #[.agg #[.int .i64 19, .int .i64 d, .int .i64 n, .int .i64 m, .int .i64 a, .int .i64 c, .int .i64 i]] w fun e w' => e = .returned (.int .i64 n) ∧ Below w.heap.size w w' := by
  rcases hb : (n == 31)
  · have hn : n ≠ 31 := by simpa using hb
    go_enter Try.func46, Try.ntmps46
    go_wp2
    go_ret
    exact ⟨rfl, (Below.refl _ _).alloc (Nat.le_refl _) _⟩
  · have hn : n = 31 := by simpa using hb
    subst hn
    go_enter Try.func46, Try.ntmps46
    go_wp2_with (go_at_call 19; refine (rmem_19 _).mono ?_; rintro e w' ⟨rfl, rfl⟩)
    go_ret
    exact ⟨rfl, (Below.refl _ _).alloc (Nat.le_refl _) _⟩
set_option maxRecDepth 100000 in
set_option maxHeartbeats 2000000 in
theorem rdest_19 (d n m a c i : Int) (w : World) : Calls Try.prog 48 #[.agg #[.int .i64 19, .int .i64 d, .int .i64 n, .int .i64 m, .int .i64 a, .int .i64 c, .int .i64 i]] w fun e w' => e = .returned (.int .i64 d) ∧ Below w.heap.size w w' := by
  rcases hb : (d == 31)
  · have hn : d ≠ 31 := by simpa using hb
    go_enter Try.func48, Try.ntmps48
    go_wp2
    go_ret
    exact ⟨rfl, (Below.refl _ _).alloc (Nat.le_refl _) _⟩
  · have hn : d = 31 := by simpa using hb
    subst hn
    go_enter Try.func48, Try.ntmps48
    go_wp2_with (go_at_call 19; refine (rmem_19 _).mono ?_; rintro e w' ⟨rfl, rfl⟩)
    go_ret
    exact ⟨rfl, (Below.refl _ _).alloc (Nat.le_refl _) _⟩
set_option maxRecDepth 100000 in
set_option maxHeartbeats 2000000 in
theorem rbase_25 (d n m a c i : Int) (w : World) : Calls Try.prog 46 #[.agg #[.int .i64 25, .int .i64 d, .int .i64 n, .int .i64 m, .int .i64 a, .int .i64 c, .int .i64 i]] w fun e w' => e = .returned (.int .i64 n) ∧ Below w.heap.size w w' := by
  rcases hb : (n == 31)
  · have hn : n ≠ 31 := by simpa using hb
    go_enter Try.func46, Try.ntmps46
    go_wp2
    go_ret
    exact ⟨rfl, (Below.refl _ _).alloc (Nat.le_refl _) _⟩
  · have hn : n = 31 := by simpa using hb
    subst hn
    go_enter Try.func46, Try.ntmps46
    go_wp2_with (go_at_call 19; refine (rmem_25 _).mono ?_; rintro e w' ⟨rfl, rfl⟩)
    go_ret
    exact ⟨rfl, (Below.refl _ _).alloc (Nat.le_refl _) _⟩
set_option maxRecDepth 100000 in
set_option maxHeartbeats 2000000 in
theorem rbase_26 (d n m a c i : Int) (w : World) : Calls Try.prog 46 #[.agg #[.int .i64 26, .int .i64 d, .int .i64 n, .int .i64 m, .int .i64 a, .int .i64 c, .int .i64 i]] w fun e w' => e = .returned (.int .i64 n) ∧ Below w.heap.size w w' := by
  rcases hb : (n == 31)
  · have hn : n ≠ 31 := by simpa using hb
    go_enter Try.func46, Try.ntmps46
    go_wp2
    go_ret
    exact ⟨rfl, (Below.refl _ _).alloc (Nat.le_refl _) _⟩
  · have hn : n = 31 := by simpa using hb
    subst hn
    go_enter Try.func46, Try.ntmps46
    go_wp2_with (go_at_call 19; refine (rmem_26 _).mono ?_; rintro e w' ⟨rfl, rfl⟩)
    go_ret
    exact ⟨rfl, (Below.refl _ _).alloc (Nat.le_refl _) _⟩
set_option maxRecDepth 100000 in
set_option maxHeartbeats 2000000 in
theorem rbase_27 (d n m a c i : Int) (w : World) : Calls Try.prog 46 #[.agg #[.int .i64 27, .int .i64 d, .int .i64 n, .int .i64 m, .int .i64 a, .int .i64 c, .int .i64 i]] w fun e w' => e = .returned (.int .i64 n) ∧ Below w.heap.size w w' := by
  rcases hb : (n == 31)
  · have hn : n ≠ 31 := by simpa using hb
    go_enter Try.func46, Try.ntmps46
    go_wp2
    go_ret
    exact ⟨rfl, (Below.refl _ _).alloc (Nat.le_refl _) _⟩
  · have hn : n = 31 := by simpa using hb
    subst hn
    go_enter Try.func46, Try.ntmps46
    go_wp2_with (go_at_call 19; refine (rmem_27 _).mono ?_; rintro e w' ⟨rfl, rfl⟩)
    go_ret
    exact ⟨rfl, (Below.refl _ _).alloc (Nat.le_refl _) _⟩
set_option maxRecDepth 100000 in
set_option maxHeartbeats 2000000 in
theorem rbase_28 (d n m a c i : Int) (w : World) : Calls Try.prog 46 #[.agg #[.int .i64 28, .int .i64 d, .int .i64 n, .int .i64 m, .int .i64 a, .int .i64 c, .int .i64 i]] w fun e w' => e = .returned (.int .i64 (spOr n)) ∧ Below w.heap.size w w' := by
  rcases hb : (n == 31)
  · have hn : n ≠ 31 := by simpa using hb
    go_enter Try.func46, Try.ntmps46
    go_wp2
    go_ret
    exact ⟨by simp [spOr, hn], (Below.refl _ _).alloc (Nat.le_refl _) _⟩
  · have hn : n = 31 := by simpa using hb
    subst hn
    go_enter Try.func46, Try.ntmps46
    go_wp2_with (go_at_call 19; refine (rmem_28 _).mono ?_; rintro e w' ⟨rfl, rfl⟩)
    go_ret
    exact ⟨rfl, (Below.refl _ _).alloc (Nat.le_refl _) _⟩
set_option maxRecDepth 100000 in
set_option maxHeartbeats 2000000 in
theorem rdest_28 (d n m a c i : Int) (w : World) : Calls Try.prog 48 #[.agg #[.int .i64 28, .int .i64 d, .int .i64 n, .int .i64 m, .int .i64 a, .int .i64 c, .int .i64 i]] w fun e w' => e = .returned (.int .i64 d) ∧ Below w.heap.size w w' := by
  rcases hb : (d == 31)
  · have hn : d ≠ 31 := by simpa using hb
    go_enter Try.func48, Try.ntmps48
    go_wp2
    go_ret
    exact ⟨rfl, (Below.refl _ _).alloc (Nat.le_refl _) _⟩
  · have hn : d = 31 := by simpa using hb
    subst hn
    go_enter Try.func48, Try.ntmps48
    go_wp2_with (go_at_call 19; refine (rmem_28 _).mono ?_; rintro e w' ⟨rfl, rfl⟩)
    go_ret
    exact ⟨rfl, (Below.refl _ _).alloc (Nat.le_refl _) _⟩
set_option maxRecDepth 100000 in
set_option maxHeartbeats 2000000 in
theorem rbase_29 (d n m a c i : Int) (w : World) : Calls Try.prog 46 #[.agg #[.int .i64 29, .int .i64 d, .int .i64 n, .int .i64 m, .int .i64 a, .int .i64 c, .int .i64 i]] w fun e w' => e = .returned (.int .i64 (spOr n)) ∧ Below w.heap.size w w' := by
  rcases hb : (n == 31)
  · have hn : n ≠ 31 := by simpa using hb
    go_enter Try.func46, Try.ntmps46
    go_wp2
    go_ret
    exact ⟨by simp [spOr, hn], (Below.refl _ _).alloc (Nat.le_refl _) _⟩
  · have hn : n = 31 := by simpa using hb
    subst hn
    go_enter Try.func46, Try.ntmps46
    go_wp2_with (go_at_call 19; refine (rmem_29 _).mono ?_; rintro e w' ⟨rfl, rfl⟩)
    go_ret
    exact ⟨rfl, (Below.refl _ _).alloc (Nat.le_refl _) _⟩
set_option maxRecDepth 100000 in
set_option maxHeartbeats 2000000 in
theorem rbase_30 (d n m a c i : Int) (w : World) : Calls Try.prog 46 #[.agg #[.int .i64 30, .int .i64 d, .int .i64 n, .int .i64 m, .int .i64 a, .int .i64 c, .int .i64 i]] w fun e w' => e = .returned (.int .i64 (spOr n)) ∧ Below w.heap.size w w' := by
  rcases hb : (n == 31)
  · have hn : n ≠ 31 := by simpa using hb
    go_enter Try.func46, Try.ntmps46
    go_wp2
    go_ret
    exact ⟨by simp [spOr, hn], (Below.refl _ _).alloc (Nat.le_refl _) _⟩
  · have hn : n = 31 := by simpa using hb
    subst hn
    go_enter Try.func46, Try.ntmps46
    go_wp2_with (go_at_call 19; refine (rmem_30 _).mono ?_; rintro e w' ⟨rfl, rfl⟩)
    go_ret
    exact ⟨rfl, (Below.refl _ _).alloc (Nat.le_refl _) _⟩
set_option maxRecDepth 100000 in
set_option maxHeartbeats 2000000 in
theorem rdest_30 (d n m a c i : Int) (w : World) : Calls Try.prog 48 #[.agg #[.int .i64 30, .int .i64 d, .int .i64 n, .int .i64 m, .int .i64 a, .int .i64 c, .int .i64 i]] w fun e w' => e = .returned (.int .i64 d) ∧ Below w.heap.size w w' := by
  rcases hb : (d == 31)
  · have hn : d ≠ 31 := by simpa using hb
    go_enter Try.func48, Try.ntmps48
    go_wp2
    go_ret
    exact ⟨rfl, (Below.refl _ _).alloc (Nat.le_refl _) _⟩
  · have hn : d = 31 := by simpa using hb
    subst hn
    go_enter Try.func48, Try.ntmps48
    go_wp2_with (go_at_call 19; refine (rmem_30 _).mono ?_; rintro e w' ⟨rfl, rfl⟩)
    go_ret
    exact ⟨rfl, (Below.refl _ _).alloc (Nat.le_refl _) _⟩
set_option maxRecDepth 100000 in
set_option maxHeartbeats 2000000 in
theorem rbase_31 (d n m a c i : Int) (w : World) : Calls Try.prog 46 #[.agg #[.int .i64 31, .int .i64 d, .int .i64 n, .int .i64 m, .int .i64 a, .int .i64 c, .int .i64 i]] w fun e w' => e = .returned (.int .i64 (spOr n)) ∧ Below w.heap.size w w' := by
  rcases hb : (n == 31)
  · have hn : n ≠ 31 := by simpa using hb
    go_enter Try.func46, Try.ntmps46
    go_wp2
    go_ret
    exact ⟨by simp [spOr, hn], (Below.refl _ _).alloc (Nat.le_refl _) _⟩
  · have hn : n = 31 := by simpa using hb
    subst hn
    go_enter Try.func46, Try.ntmps46
    go_wp2_with (go_at_call 19; refine (rmem_31 _).mono ?_; rintro e w' ⟨rfl, rfl⟩)
    go_ret
    exact ⟨rfl, (Below.refl _ _).alloc (Nat.le_refl _) _⟩
set_option maxRecDepth 100000 in
set_option maxHeartbeats 2000000 in
theorem rdest_31 (d n m a c i : Int) (w : World) : Calls Try.prog 48 #[.agg #[.int .i64 31, .int .i64 d, .int .i64 n, .int .i64 m, .int .i64 a, .int .i64 c, .int .i64 i]] w fun e w' => e = .returned (.int .i64 d) ∧ Below w.heap.size w w' := by
  rcases hb : (d == 31)
  · have hn : d ≠ 31 := by simpa using hb
    go_enter Try.func48, Try.ntmps48
    go_wp2
    go_ret
    exact ⟨rfl, (Below.refl _ _).alloc (Nat.le_refl _) _⟩
  · have hn : d = 31 := by simpa using hb
    subst hn
    go_enter Try.func48, Try.ntmps48
    go_wp2_with (go_at_call 19; refine (rmem_31 _).mono ?_; rintro e w' ⟨rfl, rfl⟩)
    go_ret
    exact ⟨rfl, (Below.refl _ _).alloc (Nat.le_refl _) _⟩
set_option maxRecDepth 100000 in
set_option maxHeartbeats 2000000 in
theorem rbase_32 (d n m a c i : Int) (w : World) : Calls Try.prog 46 #[.agg #[.int .i64 32, .int .i64 d, .int .i64 n, .int .i64 m, .int .i64 a, .int .i64 c, .int .i64 i]] w fun e w' => e = .returned (.int .i64 (spOr n)) ∧ Below w.heap.size w w' := by
  rcases hb : (n == 31)
  · have hn : n ≠ 31 := by simpa using hb
    go_enter Try.func46, Try.ntmps46
    go_wp2
    go_ret
    exact ⟨by simp [spOr, hn], (Below.refl _ _).alloc (Nat.le_refl _) _⟩
  · have hn : n = 31 := by simpa using hb
    subst hn
    go_enter Try.func46, Try.ntmps46
    go_wp2_with (go_at_call 19; refine (rmem_32 _).mono ?_; rintro e w' ⟨rfl, rfl⟩)
    go_ret
    exact ⟨rfl, (Below.refl _ _).alloc (Nat.le_refl _) _⟩
set_option maxRecDepth 100000 in
set_option maxHeartbeats 2000000 in
theorem rbase_33 (d n m a c i : Int) (w : World) : Calls Try.prog 46 #[.agg #[.int .i64 33, .int .i64 d, .int .i64 n, .int .i64 m, .int .i64 a, .int .i64 c, .int .i64 i]] w fun e w' => e = .returned (.int .i64 (spOr n)) ∧ Below w.heap.size w w' := by
  rcases hb : (n == 31)
  · have hn : n ≠ 31 := by simpa using hb
    go_enter Try.func46, Try.ntmps46
    go_wp2
    go_ret
    exact ⟨by simp [spOr, hn], (Below.refl _ _).alloc (Nat.le_refl _) _⟩
  · have hn : n = 31 := by simpa using hb
    subst hn
    go_enter Try.func46, Try.ntmps46
    go_wp2_with (go_at_call 19; refine (rmem_33 _).mono ?_; rintro e w' ⟨rfl, rfl⟩)
    go_ret
    exact ⟨rfl, (Below.refl _ _).alloc (Nat.le_refl _) _⟩
set_option maxRecDepth 100000 in
set_option maxHeartbeats 2000000 in
theorem rdest_33 (d n m a c i : Int) (w : World) : Calls Try.prog 48 #[.agg #[.int .i64 33, .int .i64 d, .int .i64 n, .int .i64 m, .int .i64 a, .int .i64 c, .int .i64 i]] w fun e w' => e = .returned (.int .i64 d) ∧ Below w.heap.size w w' := by
  rcases hb : (d == 31)
  · have hn : d ≠ 31 := by simpa using hb
    go_enter Try.func48, Try.ntmps48
    go_wp2
    go_ret
    exact ⟨rfl, (Below.refl _ _).alloc (Nat.le_refl _) _⟩
  · have hn : d = 31 := by simpa using hb
    subst hn
    go_enter Try.func48, Try.ntmps48
    go_wp2_with (go_at_call 19; refine (rmem_33 _).mono ?_; rintro e w' ⟨rfl, rfl⟩)
    go_ret
    exact ⟨rfl, (Below.refl _ _).alloc (Nat.le_refl _) _⟩
set_option maxRecDepth 100000 in
set_option maxHeartbeats 2000000 in
theorem rbase_34 (d n m a c i : Int) (w : World) : Calls Try.prog 46 #[.agg #[.int .i64 34, .int .i64 d, .int .i64 n, .int .i64 m, .int .i64 a, .int .i64 c, .int .i64 i]] w fun e w' => e = .returned (.int .i64 (spOr n)) ∧ Below w.heap.size w w' := by
  rcases hb : (n == 31)
  · have hn : n ≠ 31 := by simpa using hb
    go_enter Try.func46, Try.ntmps46
    go_wp2
    go_ret
    exact ⟨by simp [spOr, hn], (Below.refl _ _).alloc (Nat.le_refl _) _⟩
  · have hn : n = 31 := by simpa using hb
    subst hn
    go_enter Try.func46, Try.ntmps46
    go_wp2_with (go_at_call 19; refine (rmem_34 _).mono ?_; rintro e w' ⟨rfl, rfl⟩)
    go_ret
    exact ⟨rfl, (Below.refl _ _).alloc (Nat.le_refl _) _⟩
set_option maxRecDepth 100000 in
set_option maxHeartbeats 2000000 in
theorem rbase_35 (d n m a c i : Int) (w : World) : Calls Try.prog 46 #[.agg #[.int .i64 35, .int .i64 d, .int .i64 n, .int .i64 m, .int .i64 a, .int .i64 c, .int .i64 i]] w fun e w' => e = .returned (.int .i64 (spOr n)) ∧ Below w.heap.size w w' := by
  rcases hb : (n == 31)
  · have hn : n ≠ 31 := by simpa using hb
    go_enter Try.func46, Try.ntmps46
    go_wp2
    go_ret
    exact ⟨by simp [spOr, hn], (Below.refl _ _).alloc (Nat.le_refl _) _⟩
  · have hn : n = 31 := by simpa using hb
    subst hn
    go_enter Try.func46, Try.ntmps46
    go_wp2_with (go_at_call 19; refine (rmem_35 _).mono ?_; rintro e w' ⟨rfl, rfl⟩)
    go_ret
    exact ⟨rfl, (Below.refl _ _).alloc (Nat.le_refl _) _⟩
set_option maxRecDepth 100000 in
set_option maxHeartbeats 2000000 in
theorem rdest_35 (d n m a c i : Int) (w : World) : Calls Try.prog 48 #[.agg #[.int .i64 35, .int .i64 d, .int .i64 n, .int .i64 m, .int .i64 a, .int .i64 c, .int .i64 i]] w fun e w' => e = .returned (.int .i64 d) ∧ Below w.heap.size w w' := by
  rcases hb : (d == 31)
  · have hn : d ≠ 31 := by simpa using hb
    go_enter Try.func48, Try.ntmps48
    go_wp2
    go_ret
    exact ⟨rfl, (Below.refl _ _).alloc (Nat.le_refl _) _⟩
  · have hn : d = 31 := by simpa using hb
    subst hn
    go_enter Try.func48, Try.ntmps48
    go_wp2_with (go_at_call 19; refine (rmem_35 _).mono ?_; rintro e w' ⟨rfl, rfl⟩)
    go_ret
    exact ⟨rfl, (Below.refl _ _).alloc (Nat.le_refl _) _⟩
set_option maxRecDepth 100000 in
set_option maxHeartbeats 2000000 in
theorem rbase_36 (d n m a c i : Int) (w : World) : Calls Try.prog 46 #[.agg #[.int .i64 36, .int .i64 d, .int .i64 n, .int .i64 m, .int .i64 a, .int .i64 c, .int .i64 i]] w fun e w' => e = .returned (.int .i64 (spOr n)) ∧ Below w.heap.size w w' := by
  rcases hb : (n == 31)
  · have hn : n ≠ 31 := by simpa using hb
    go_enter Try.func46, Try.ntmps46
    go_wp2
    go_ret
    exact ⟨by simp [spOr, hn], (Below.refl _ _).alloc (Nat.le_refl _) _⟩
  · have hn : n = 31 := by simpa using hb
    subst hn
    go_enter Try.func46, Try.ntmps46
    go_wp2_with (go_at_call 19; refine (rmem_36 _).mono ?_; rintro e w' ⟨rfl, rfl⟩)
    go_ret
    exact ⟨rfl, (Below.refl _ _).alloc (Nat.le_refl _) _⟩
set_option maxRecDepth 100000 in
set_option maxHeartbeats 2000000 in
theorem rdest_36 (d n m a c i : Int) (w : World) : Calls Try.prog 48 #[.agg #[.int .i64 36, .int .i64 d, .int .i64 n, .int .i64 m, .int .i64 a, .int .i64 c, .int .i64 i]] w fun e w' => e = .returned (.int .i64 d) ∧ Below w.heap.size w w' := by
  rcases hb : (d == 31)
  · have hn : d ≠ 31 := by simpa using hb
    go_enter Try.func48, Try.ntmps48
    go_wp2
    go_ret
    exact ⟨rfl, (Below.refl _ _).alloc (Nat.le_refl _) _⟩
  · have hn : d = 31 := by simpa using hb
    subst hn
    go_enter Try.func48, Try.ntmps48
    go_wp2_with (go_at_call 19; refine (rmem_36 _).mono ?_; rintro e w' ⟨rfl, rfl⟩)
    go_ret
    exact ⟨rfl, (Below.refl _ _).alloc (Nat.le_refl _) _⟩
set_option maxRecDepth 100000 in
set_option maxHeartbeats 2000000 in
theorem rbase_40 (d n m a c i : Int) (w : World) : Calls Try.prog 46 #[.agg #[.int .i64 40, .int .i64 d, .int .i64 n, .int .i64 m, .int .i64 a, .int .i64 c, .int .i64 i]] w fun e w' => e = .returned (.int .i64 n) ∧ Below w.heap.size w w' := by
  rcases hb : (n == 31)
  · have hn : n ≠ 31 := by simpa using hb
    go_enter Try.func46, Try.ntmps46
    go_wp2
    go_ret
    exact ⟨rfl, (Below.refl _ _).alloc (Nat.le_refl _) _⟩
  · have hn : n = 31 := by simpa using hb
    subst hn
    go_enter Try.func46, Try.ntmps46
    go_wp2_with (go_at_call 19; refine (rmem_40 _).mono ?_; rintro e w' ⟨rfl, rfl⟩)
    go_ret
    exact ⟨rfl, (Below.refl _ _).alloc (Nat.le_refl _) _⟩
set_option maxRecDepth 100000 in
set_option maxHeartbeats 2000000 in
theorem rbase_41 (d n m a c i : Int) (w : World) : Calls Try.prog 46 #[.agg #[.int .i64 41, .int .i64 d, .int .i64 n, .int .i64 m, .int .i64 a, .int .i64 c, .int .i64 i]] w fun e w' => e = .returned (.int .i64 n) ∧ Below w.heap.size w w' := by
  rcases hb : (n == 31)
  · have hn : n ≠ 31 := by simpa using hb
    go_enter Try.func46, Try.ntmps46
    go_wp2
    go_ret
    exact ⟨rfl, (Below.refl _ _).alloc (Nat.le_refl _) _⟩
  · have hn : n = 31 := by simpa using hb
    subst hn
    go_enter Try.func46, Try.ntmps46
    go_wp2_with (go_at_call 19; refine (rmem_41 _).mono ?_; rintro e w' ⟨rfl, rfl⟩)
    go_ret
    exact ⟨rfl, (Below.refl _ _).alloc (Nat.le_refl _) _⟩
end Go.Proofs.Ytejdlhafdnpcmaa
