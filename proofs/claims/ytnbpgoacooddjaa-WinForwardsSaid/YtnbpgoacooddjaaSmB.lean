import Derived.Test.YtnbpgoacooddjaaRows
import Derived.WalkKit
import Derived.ProofKit
import Derived.OpenShut
import Derived.Deep.QuietTactic
import Derived.BigQuiet
import Derived.Outline
import Derived.WalkSmall
import Derived.WalkLawsBesides
import Derived.WalkSpells
import Derived.BigGuardPart
import Derived.RegionTactic
import Derived.Deep.RegionHeld3
import Derived.Lib.Hide
import Derived.Deep.MidRow
import Derived.Below
import Derived.Test.YtnbpgoacooddjaaSmA
namespace Go.Proofs.Ytnbpgoacooddjaa
open Go.ChangeShapes Go.WideShapes Go.ChangeAt Go.RowKit
set_option linter.unusedVariables false
def Rg.hv (r : Rg) : Nat → Bool
  | 0 => r.z
  | 1 => !r.z
  | 2 => r.c
  | 3 => !r.c
  | 4 => r.n
  | 5 => !r.n
  | 6 => r.v
  | 7 => !r.v
  | 8 => r.c && !r.z
  | 9 => !(r.c && !r.z)
  | 10 => r.n == r.v
  | 11 => !(r.n == r.v)
  | 12 => !r.z && r.n == r.v
  | 13 => !(!r.z && r.n == r.v)
  | _ => true
def Rg.hold (r : Rg) (c : Int) : Bool := if 0 ≤ c ∧ c ≤ 15 then r.hv c.toNat else false
theorem Rg.hold_no (r : Rg) (c : Int) (h : c < 0 ∨ 15 < c) : r.hold c = false := by unfold Rg.hold; rw [if_neg (by omega)]
set_option maxRecDepth 100000 in
set_option maxHeartbeats 2000000 in
theorem hold15_0 (r : Rg) (w : World) :
    Calls Try.prog 256 #[.agg r.arr, .int .i64 0] w fun e w' => e = .returned (.bool (r.hold 0)) ∧ Below w.heap.size w w' := by
  have hz := r.at33
  obtain ⟨bz, gz⟩ : ∃ b, r.z = b := ⟨_, rfl⟩
  rw [gz] at hz
  have HV : Hid (r.hold 0 = _) := Lib.hid (show r.hv 0 = _ from rfl)
  have HV2 := HV.out
  simp only [Rg.hv, gz] at HV2
  rw [HV2]
  clear HV HV2 gz
  go_enter Try.func256, Try.ntmps256
  go_wp2
  go_ret
  exact ⟨rfl, (Below.refl _ _).alloc (Nat.le_refl _) _⟩
set_option maxRecDepth 100000 in
set_option maxHeartbeats 2000000 in
theorem hold16_0 (r : Rg) (w : World) :
    Calls Try.prog 170 #[.agg r.arr, .int .i64 0] w fun e w' => e = .returned (.bool (r.hold 0)) ∧ Below w.heap.size w w' := by
  have hz := r.at33
  obtain ⟨bz, gz⟩ : ∃ b, r.z = b := ⟨_, rfl⟩
  rw [gz] at hz
  have HV : Hid (r.hold 0 = _) := Lib.hid (show r.hv 0 = _ from rfl)
  have HV2 := HV.out
  simp only [Rg.hv, gz] at HV2
  rw [HV2]
  clear HV HV2 gz
  go_enter Try.func170, Try.ntmps170
  go_wp2
  go_ret
  exact ⟨rfl, (Below.refl _ _).alloc (Nat.le_refl _) _⟩
set_option maxRecDepth 100000 in
set_option maxHeartbeats 2000000 in
theorem hold16_1 (r : Rg) (w : World) :
    Calls Try.prog 170 #[.agg r.arr, .int .i64 1] w fun e w' => e = .returned (.bool (r.hold 1)) ∧ Below w.heap.size w w' := by
  have hz := r.at33
  obtain ⟨bz, gz⟩ : ∃ b, r.z = b := ⟨_, rfl⟩
  rw [gz] at hz
  have HV : Hid (r.hold 1 = _) := Lib.hid (show r.hv 1 = _ from rfl)
  have HV2 := HV.out
  simp only [Rg.hv, gz] at HV2
  rw [HV2]
  clear HV HV2 gz
  go_enter Try.func170, Try.ntmps170
  go_wp2
  go_ret
  exact ⟨rfl, (Below.refl _ _).alloc (Nat.le_refl _) _⟩
set_option maxRecDepth 100000 in
set_option maxHeartbeats 2000000 in
theorem hold15_2 (r : Rg) (w : World) :
    Calls Try.prog 256 #[.agg r.arr, .int .i64 2] w fun e w' => e = .returned (.bool (r.hold 2)) ∧ Below w.heap.size w w' := by
  have hc := r.at34
  obtain ⟨bc, gc⟩ : ∃ b, r.c = b := ⟨_, rfl⟩
  rw [gc] at hc
  have HV : Hid (r.hold 2 = _) := Lib.hid (show r.hv 2 = _ from rfl)
  have HV2 := HV.out
  simp only [Rg.hv, gc] at HV2
  rw [HV2]
  clear HV HV2 gc
  go_enter Try.func256, Try.ntmps256
  go_wp2
  go_ret
  exact ⟨rfl, (Below.refl _ _).alloc (Nat.le_refl _) _⟩
set_option maxRecDepth 100000 in
set_option maxHeartbeats 2000000 in
theorem hold16_2 (r : Rg) (w : World) :
    Calls Try.prog 170 #[.agg r.arr, .int .i64 2] w fun e w' => e = .returned (.bool (r.hold 2)) ∧ Below w.heap.size w w' := by
  have hc := r.at34
  obtain ⟨bc, gc⟩ : ∃ b, r.c = b := ⟨_, rfl⟩
  rw [gc] at hc
  have HV : Hid (r.hold 2 = _) := Lib.hid (show r.hv 2 = _ from rfl)
  have HV2 := HV.out
  simp only [Rg.hv, gc] at HV2
  rw [HV2]
  clear HV HV2 gc
  go_enter Try.func170, Try.ntmps170
  go_wp2
  go_ret
  exact ⟨rfl, (Below.refl _ _).alloc (Nat.le_refl _) _⟩
set_option maxRecDepth 100000 in
set_option maxHeartbeats 2000000 in
theorem hold16_3 (r : Rg) (w : World) :
    Calls Try.prog 170 #[.agg r.arr, .int .i64 3] w fun e w' => e = .returned (.bool (r.hold 3)) ∧ Below w.heap.size w w' := by
  have hc := r.at34
  obtain ⟨bc, gc⟩ : ∃ b, r.c = b := ⟨_, rfl⟩
  rw [gc] at hc
  have HV : Hid (r.hold 3 = _) := Lib.hid (show r.hv 3 = _ from rfl)
  have HV2 := HV.out
  simp only [Rg.hv, gc] at HV2
  rw [HV2]
  clear HV HV2 gc
  go_enter Try.func170, Try.ntmps170
  go_wp2
  go_ret
  exact ⟨rfl, (Below.refl _ _).alloc (Nat.le_refl _) _⟩
set_option maxRecDepth 100000 in
set_option maxHeartbeats 2000000 in
theorem hold15_4 (r : Rg) (w : World) :
    Calls Try.prog 256 #[.agg r.arr, .int .i64 4] w fun e w' => e = .returned (.bool (r.hold 4)) ∧ Below w.heap.size w w' := by
  have hn := r.at32
  obtain ⟨bn, gn⟩ : ∃ b, r.n = b := ⟨_, rfl⟩
  rw [gn] at hn
  have HV : Hid (r.hold 4 = _) := Lib.hid (show r.hv 4 = _ from rfl)
  have HV2 := HV.out
  simp only [Rg.hv, gn] at HV2
  rw [HV2]
  clear HV HV2 gn
  go_enter Try.func256, Try.ntmps256
  go_wp2
  go_ret
  exact ⟨rfl, (Below.refl _ _).alloc (Nat.le_refl _) _⟩
set_option maxRecDepth 100000 in
set_option maxHeartbeats 2000000 in
theorem hold16_4 (r : Rg) (w : World) :
    Calls Try.prog 170 #[.agg r.arr, .int .i64 4] w fun e w' => e = .returned (.bool (r.hold 4)) ∧ Below w.heap.size w w' := by
  have hn := r.at32
  obtain ⟨bn, gn⟩ : ∃ b, r.n = b := ⟨_, rfl⟩
  rw [gn] at hn
  have HV : Hid (r.hold 4 = _) := Lib.hid (show r.hv 4 = _ from rfl)
  have HV2 := HV.out
  simp only [Rg.hv, gn] at HV2
  rw [HV2]
  clear HV HV2 gn
  go_enter Try.func170, Try.ntmps170
  go_wp2
  go_ret
  exact ⟨rfl, (Below.refl _ _).alloc (Nat.le_refl _) _⟩
set_option maxRecDepth 100000 in
set_option maxHeartbeats 2000000 in
theorem hold16_5 (r : Rg) (w : World) :
    Calls Try.prog 170 #[.agg r.arr, .int .i64 5] w fun e w' => e = .returned (.bool (r.hold 5)) ∧ Below w.heap.size w w' := by
  have hn := r.at32
  obtain ⟨bn, gn⟩ : ∃ b, r.n = b := ⟨_, rfl⟩
  rw [gn] at hn
  have HV : Hid (r.hold 5 = _) := Lib.hid (show r.hv 5 = _ from rfl)
  have HV2 := HV.out
  simp only [Rg.hv, gn] at HV2
  rw [HV2]
  clear HV HV2 gn
  go_enter Try.func170, Try.ntmps170
  go_wp2
  go_ret
  exact ⟨rfl, (Below.refl _ _).alloc (Nat.le_refl _) _⟩
set_option maxRecDepth 100000 in
set_option maxHeartbeats 2000000 in
theorem hold15_6 (r : Rg) (w : World) :
    Calls Try.prog 256 #[.agg r.arr, .int .i64 6] w fun e w' => e = .returned (.bool (r.hold 6)) ∧ Below w.heap.size w w' := by
  have hv := r.at35
  obtain ⟨bv, gv⟩ : ∃ b, r.v = b := ⟨_, rfl⟩
  rw [gv] at hv
  have HV : Hid (r.hold 6 = _) := Lib.hid (show r.hv 6 = _ from rfl)
  have HV2 := HV.out
  simp only [Rg.hv, gv] at HV2
  rw [HV2]
  clear HV HV2 gv
  go_enter Try.func256, Try.ntmps256
  go_wp2
  go_ret
  exact ⟨rfl, (Below.refl _ _).alloc (Nat.le_refl _) _⟩
set_option maxRecDepth 100000 in
set_option maxHeartbeats 2000000 in
theorem hold16_6 (r : Rg) (w : World) :
    Calls Try.prog 170 #[.agg r.arr, .int .i64 6] w fun e w' => e = .returned (.bool (r.hold 6)) ∧ Below w.heap.size w w' := by
  have hv := r.at35
  obtain ⟨bv, gv⟩ : ∃ b, r.v = b := ⟨_, rfl⟩
  rw [gv] at hv
  have HV : Hid (r.hold 6 = _) := Lib.hid (show r.hv 6 = _ from rfl)
  have HV2 := HV.out
  simp only [Rg.hv, gv] at HV2
  rw [HV2]
  clear HV HV2 gv
  go_enter Try.func170, Try.ntmps170
  go_wp2
  go_ret
  exact ⟨rfl, (Below.refl _ _).alloc (Nat.le_refl _) _⟩
set_option maxRecDepth 100000 in
set_option maxHeartbeats 2000000 in
theorem hold16_7 (r : Rg) (w : World) :
    Calls Try.prog 170 #[.agg r.arr, .int .i64 7] w fun e w' => e = .returned (.bool (r.hold 7)) ∧ Below w.heap.size w w' := by
  have hv := r.at35
  obtain ⟨bv, gv⟩ : ∃ b, r.v = b := ⟨_, rfl⟩
  rw [gv] at hv
  have HV : Hid (r.hold 7 = _) := Lib.hid (show r.hv 7 = _ from rfl)
  have HV2 := HV.out
  simp only [Rg.hv, gv] at HV2
  rw [HV2]
  clear HV HV2 gv
  go_enter Try.func170, Try.ntmps170
  go_wp2
  go_ret
  exact ⟨rfl, (Below.refl _ _).alloc (Nat.le_refl _) _⟩
set_option maxRecDepth 100000 in
set_option maxHeartbeats 2000000 in
theorem hold15_8 (r : Rg) (w : World) :
    Calls Try.prog 256 #[.agg r.arr, .int .i64 8] w fun e w' => e = .returned (.bool (r.hold 8)) ∧ Below w.heap.size w w' := by
  have hc := r.at34
  have hz := r.at33
  obtain ⟨bc, gc⟩ : ∃ b, r.c = b := ⟨_, rfl⟩
  obtain ⟨bz, gz⟩ : ∃ b, r.z = b := ⟨_, rfl⟩
  rw [gc] at hc
  rw [gz] at hz
  have HV : Hid (r.hold 8 = _) := Lib.hid (show r.hv 8 = _ from rfl)
  have HV2 := HV.out
  simp only [Rg.hv, gc, gz] at HV2
  rw [HV2]
  clear HV HV2 gc gz
  cases bc <;> cases bz
  all_goals
    go_enter Try.func256, Try.ntmps256
    go_wp2
    go_ret
    exact ⟨rfl, (Below.refl _ _).alloc (Nat.le_refl _) _⟩
set_option maxRecDepth 100000 in
set_option maxHeartbeats 2000000 in
theorem hold16_8 (r : Rg) (w : World) :
    Calls Try.prog 170 #[.agg r.arr, .int .i64 8] w fun e w' => e = .returned (.bool (r.hold 8)) ∧ Below w.heap.size w w' := by
  have hc := r.at34
  have hz := r.at33
  obtain ⟨bc, gc⟩ : ∃ b, r.c = b := ⟨_, rfl⟩
  obtain ⟨bz, gz⟩ : ∃ b, r.z = b := ⟨_, rfl⟩
  rw [gc] at hc
  rw [gz] at hz
  have HV : Hid (r.hold 8 = _) := Lib.hid (show r.hv 8 = _ from rfl)
  have HV2 := HV.out
  simp only [Rg.hv, gc, gz] at HV2
  rw [HV2]
  clear HV HV2 gc gz
  cases bc <;> cases bz
  all_goals
    go_enter Try.func170, Try.ntmps170
    go_wp2
    go_ret
    exact ⟨rfl, (Below.refl _ _).alloc (Nat.le_refl _) _⟩
set_option maxRecDepth 100000 in
set_option maxHeartbeats 2000000 in
theorem hold16_9 (r : Rg) (w : World) :
    Calls Try.prog 170 #[.agg r.arr, .int .i64 9] w fun e w' => e = .returned (.bool (r.hold 9)) ∧ Below w.heap.size w w' := by
  have hc := r.at34
  have hz := r.at33
  obtain ⟨bc, gc⟩ : ∃ b, r.c = b := ⟨_, rfl⟩
  obtain ⟨bz, gz⟩ : ∃ b, r.z = b := ⟨_, rfl⟩
  rw [gc] at hc
  rw [gz] at hz
  have HV : Hid (r.hold 9 = _) := Lib.hid (show r.hv 9 = _ from rfl)
  have HV2 := HV.out
  simp only [Rg.hv, gc, gz] at HV2
  rw [HV2]
  clear HV HV2 gc gz
  cases bc <;> cases bz
  all_goals
    go_enter Try.func170, Try.ntmps170
    go_wp2
    go_ret
    exact ⟨rfl, (Below.refl _ _).alloc (Nat.le_refl _) _⟩
set_option maxRecDepth 100000 in
set_option maxHeartbeats 2000000 in
theorem hold15_10 (r : Rg) (w : World) :
    Calls Try.prog 256 #[.agg r.arr, .int .i64 10] w fun e w' => e = .returned (.bool (r.hold 10)) ∧ Below w.heap.size w w' := by
  have hn := r.at32
  have hv := r.at35
  obtain ⟨bn, gn⟩ : ∃ b, r.n = b := ⟨_, rfl⟩
  obtain ⟨bv, gv⟩ : ∃ b, r.v = b := ⟨_, rfl⟩
  rw [gn] at hn
  rw [gv] at hv
  have HV : Hid (r.hold 10 = _) := Lib.hid (show r.hv 10 = _ from rfl)
  have HV2 := HV.out
  simp only [Rg.hv, gn, gv] at HV2
  rw [HV2]
  clear HV HV2 gn gv
  cases bn <;> cases bv
  all_goals
    go_enter Try.func256, Try.ntmps256
    go_wp2
    go_ret
    exact ⟨rfl, (Below.refl _ _).alloc (Nat.le_refl _) _⟩
set_option maxRecDepth 100000 in
set_option maxHeartbeats 2000000 in
theorem hold16_10 (r : Rg) (w : World) :
    Calls Try.prog 170 #[.agg r.arr, .int .i64 10] w fun e w' => e = .returned (.bool (r.hold 10)) ∧ Below w.heap.size w w' := by
  have hn := r.at32
  have hv := r.at35
  obtain ⟨bn, gn⟩ : ∃ b, r.n = b := ⟨_, rfl⟩
  obtain ⟨bv, gv⟩ : ∃ b, r.v = b := ⟨_, rfl⟩
  rw [gn] at hn
  rw [gv] at hv
  have HV : Hid (r.hold 10 = _) := Lib.hid (show r.hv 10 = _ from rfl)
  have HV2 := HV.out
  simp only [Rg.hv, gn, gv] at HV2
  rw [HV2]
  clear HV HV2 gn gv
  cases bn <;> cases bv
  all_goals
    go_enter Try.func170, Try.ntmps170
    go_wp2
    go_ret
    exact ⟨rfl, (Below.refl _ _).alloc (Nat.le_refl _) _⟩
set_option maxRecDepth 100000 in
set_option maxHeartbeats 2000000 in
theorem hold16_11 (r : Rg) (w : World) :
    Calls Try.prog 170 #[.agg r.arr, .int .i64 11] w fun e w' => e = .returned (.bool (r.hold 11)) ∧ Below w.heap.size w w' := by
  have hn := r.at32
  have hv := r.at35
  obtain ⟨bn, gn⟩ : ∃ b, r.n = b := ⟨_, rfl⟩
  obtain ⟨bv, gv⟩ : ∃ b, r.v = b := ⟨_, rfl⟩
  rw [gn] at hn
  rw [gv] at hv
  have HV : Hid (r.hold 11 = _) := Lib.hid (show r.hv 11 = _ from rfl)
  have HV2 := HV.out
  simp only [Rg.hv, gn, gv] at HV2
  rw [HV2]
  clear HV HV2 gn gv
  cases bn <;> cases bv
  all_goals
    go_enter Try.func170, Try.ntmps170
    go_wp2
    go_ret
    exact ⟨rfl, (Below.refl _ _).alloc (Nat.le_refl _) _⟩
set_option maxRecDepth 100000 in
set_option maxHeartbeats 2000000 in
theorem hold15_12 (r : Rg) (w : World) :
    Calls Try.prog 256 #[.agg r.arr, .int .i64 12] w fun e w' => e = .returned (.bool (r.hold 12)) ∧ Below w.heap.size w w' := by
  have hz := r.at33
  have hn := r.at32
  have hv := r.at35
  obtain ⟨bz, gz⟩ : ∃ b, r.z = b := ⟨_, rfl⟩
  obtain ⟨bn, gn⟩ : ∃ b, r.n = b := ⟨_, rfl⟩
  obtain ⟨bv, gv⟩ : ∃ b, r.v = b := ⟨_, rfl⟩
  rw [gz] at hz
  rw [gn] at hn
  rw [gv] at hv
  have HV : Hid (r.hold 12 = _) := Lib.hid (show r.hv 12 = _ from rfl)
  have HV2 := HV.out
  simp only [Rg.hv, gz, gn, gv] at HV2
  rw [HV2]
  clear HV HV2 gz gn gv
  cases bz <;> cases bn <;> cases bv
  all_goals
    go_enter Try.func256, Try.ntmps256
    go_wp2
    go_ret
    exact ⟨rfl, (Below.refl _ _).alloc (Nat.le_refl _) _⟩
set_option maxRecDepth 100000 in
set_option maxHeartbeats 2000000 in
theorem hold16_12 (r : Rg) (w : World) :
    Calls Try.prog 170 #[.agg r.arr, .int .i64 12] w fun e w' => e = .returned (.bool (r.hold 12)) ∧ Below w.heap.size w w' := by
  have hz := r.at33
  have hn := r.at32
  have hv := r.at35
  obtain ⟨bz, gz⟩ : ∃ b, r.z = b := ⟨_, rfl⟩
  obtain ⟨bn, gn⟩ : ∃ b, r.n = b := ⟨_, rfl⟩
  obtain ⟨bv, gv⟩ : ∃ b, r.v = b := ⟨_, rfl⟩
  rw [gz] at hz
  rw [gn] at hn
  rw [gv] at hv
  have HV : Hid (r.hold 12 = _) := Lib.hid (show r.hv 12 = _ from rfl)
  have HV2 := HV.out
  simp only [Rg.hv, gz, gn, gv] at HV2
  rw [HV2]
  clear HV HV2 gz gn gv
  cases bz <;> cases bn <;> cases bv
  all_goals
    go_enter Try.func170, Try.ntmps170
    go_wp2
    go_ret
    exact ⟨rfl, (Below.refl _ _).alloc (Nat.le_refl _) _⟩
set_option maxRecDepth 100000 in
set_option maxHeartbeats 2000000 in
theorem hold16_13 (r : Rg) (w : World) :
    Calls Try.prog 170 #[.agg r.arr, .int .i64 13] w fun e w' => e = .returned (.bool (r.hold 13)) ∧ Below w.heap.size w w' := by
  have hz := r.at33
  have hn := r.at32
  have hv := r.at35
  obtain ⟨bz, gz⟩ : ∃ b, r.z = b := ⟨_, rfl⟩
  obtain ⟨bn, gn⟩ : ∃ b, r.n = b := ⟨_, rfl⟩
  obtain ⟨bv, gv⟩ : ∃ b, r.v = b := ⟨_, rfl⟩
  rw [gz] at hz
  rw [gn] at hn
  rw [gv] at hv
  have HV : Hid (r.hold 13 = _) := Lib.hid (show r.hv 13 = _ from rfl)
  have HV2 := HV.out
  simp only [Rg.hv, gz, gn, gv] at HV2
  rw [HV2]
  clear HV HV2 gz gn gv
  cases bz <;> cases bn <;> cases bv
  all_goals
    go_enter Try.func170, Try.ntmps170
    go_wp2
    go_ret
    exact ⟨rfl, (Below.refl _ _).alloc (Nat.le_refl _) _⟩
set_option maxRecDepth 100000 in
set_option maxHeartbeats 2000000 in
theorem hold15_14 (r : Rg) (w : World) :
    Calls Try.prog 256 #[.agg r.arr, .int .i64 14] w fun e w' => e = .returned (.bool (r.hold 14)) ∧ Below w.heap.size w w' := by
  have HV : Hid (r.hold 14 = _) := Lib.hid (show r.hv 14 = _ from rfl)
  have HV2 := HV.out
  simp only [Rg.hv] at HV2
  rw [HV2]
  clear HV HV2 
  go_enter Try.func256, Try.ntmps256
  go_wp2
  go_ret
  exact ⟨rfl, (Below.refl _ _).alloc (Nat.le_refl _) _⟩
set_option maxRecDepth 100000 in
set_option maxHeartbeats 2000000 in
theorem hold16_14 (r : Rg) (w : World) :
    Calls Try.prog 170 #[.agg r.arr, .int .i64 14] w fun e w' => e = .returned (.bool (r.hold 14)) ∧ Below w.heap.size w w' := by
  have HV : Hid (r.hold 14 = _) := Lib.hid (show r.hv 14 = _ from rfl)
  have HV2 := HV.out
  simp only [Rg.hv] at HV2
  rw [HV2]
  clear HV HV2 
  go_enter Try.func170, Try.ntmps170
  go_wp2
  go_ret
  exact ⟨rfl, (Below.refl _ _).alloc (Nat.le_refl _) _⟩
set_option maxRecDepth 100000 in
set_option maxHeartbeats 2000000 in
theorem hold15_15 (r : Rg) (w : World) :
    Calls Try.prog 256 #[.agg r.arr, .int .i64 15] w fun e w' => e = .returned (.bool (r.hold 15)) ∧ Below w.heap.size w w' := by
  have HV : Hid (r.hold 15 = _) := Lib.hid (show r.hv 15 = _ from rfl)
  have HV2 := HV.out
  simp only [Rg.hv] at HV2
  rw [HV2]
  clear HV HV2 
  go_enter Try.func256, Try.ntmps256
  go_wp2
  go_ret
  exact ⟨rfl, (Below.refl _ _).alloc (Nat.le_refl _) _⟩
set_option maxRecDepth 100000 in
set_option maxHeartbeats 2000000 in
theorem hold16_15 (r : Rg) (w : World) :
    Calls Try.prog 170 #[.agg r.arr, .int .i64 15] w fun e w' => e = .returned (.bool (r.hold 15)) ∧ Below w.heap.size w w' := by
  have HV : Hid (r.hold 15 = _) := Lib.hid (show r.hv 15 = _ from rfl)
  have HV2 := HV.out
  simp only [Rg.hv] at HV2
  rw [HV2]
  clear HV HV2 
  go_enter Try.func170, Try.ntmps170
  go_wp2
  go_ret
  exact ⟨rfl, (Below.refl _ _).alloc (Nat.le_refl _) _⟩
set_option maxRecDepth 100000 in
set_option maxHeartbeats 2000000 in
theorem hold15_1 (r : Rg) (w : World) :
    Calls Try.prog 256 #[.agg r.arr, .int .i64 1] w fun e w' => e = .returned (.bool (r.hold 1)) ∧ Below w.heap.size w w' := by
  have HV : Hid (r.hold 1 = !(r.hold 0)) := Lib.hid (show r.hv 1 = !(r.hv 0) from rfl)
  obtain ⟨b, HB⟩ : ∃ b, Hid (r.hold 0 = b) := ⟨_, Lib.hid rfl⟩
  go_enter Try.func256, Try.ntmps256
  go_wp2_with (first | (refine wpList_load_row rfl 26 _ rfl w.heap.size rfl 26 r.arr (0, 0) _ (heap_alloc_new _ _) Try.underlying26 rfl (by rw [Rg.size]; exact info25) ?_))
  refine (hold15_0 r _).mono ?_
  rintro e w2 ⟨rfl, hb⟩
  have HB2 := Lib.hid (((Below.refl _ _).alloc (Nat.le_refl _) (.cells r.arr 26)).trans (hb.mono (by simp)))
  clear hb
  rw [HB.out]
  go_wp2
  go_ret
  exact ⟨by rw [HV.out, HB.out]; rfl, HB2.out⟩
set_option maxRecDepth 100000 in
set_option maxHeartbeats 2000000 in
theorem hold15_3 (r : Rg) (w : World) :
    Calls Try.prog 256 #[.agg r.arr, .int .i64 3] w fun e w' => e = .returned (.bool (r.hold 3)) ∧ Below w.heap.size w w' := by
  have HV : Hid (r.hold 3 = !(r.hold 2)) := Lib.hid (show r.hv 3 = !(r.hv 2) from rfl)
  obtain ⟨b, HB⟩ : ∃ b, Hid (r.hold 2 = b) := ⟨_, Lib.hid rfl⟩
  go_enter Try.func256, Try.ntmps256
  go_wp2_with (first | (refine wpList_load_row rfl 26 _ rfl w.heap.size rfl 26 r.arr (0, 0) _ (heap_alloc_new _ _) Try.underlying26 rfl (by rw [Rg.size]; exact info25) ?_))
  refine (hold15_2 r _).mono ?_
  rintro e w2 ⟨rfl, hb⟩
  have HB2 := Lib.hid (((Below.refl _ _).alloc (Nat.le_refl _) (.cells r.arr 26)).trans (hb.mono (by simp)))
  clear hb
  rw [HB.out]
  go_wp2
  go_ret
  exact ⟨by rw [HV.out, HB.out]; rfl, HB2.out⟩
set_option maxRecDepth 100000 in
set_option maxHeartbeats 2000000 in
theorem hold15_5 (r : Rg) (w : World) :
    Calls Try.prog 256 #[.agg r.arr, .int .i64 5] w fun e w' => e = .returned (.bool (r.hold 5)) ∧ Below w.heap.size w w' := by
  have HV : Hid (r.hold 5 = !(r.hold 4)) := Lib.hid (show r.hv 5 = !(r.hv 4) from rfl)
  obtain ⟨b, HB⟩ : ∃ b, Hid (r.hold 4 = b) := ⟨_, Lib.hid rfl⟩
  go_enter Try.func256, Try.ntmps256
  go_wp2_with (first | (refine wpList_load_row rfl 26 _ rfl w.heap.size rfl 26 r.arr (0, 0) _ (heap_alloc_new _ _) Try.underlying26 rfl (by rw [Rg.size]; exact info25) ?_))
  refine (hold15_4 r _).mono ?_
  rintro e w2 ⟨rfl, hb⟩
  have HB2 := Lib.hid (((Below.refl _ _).alloc (Nat.le_refl _) (.cells r.arr 26)).trans (hb.mono (by simp)))
  clear hb
  rw [HB.out]
  go_wp2
  go_ret
  exact ⟨by rw [HV.out, HB.out]; rfl, HB2.out⟩
set_option maxRecDepth 100000 in
set_option maxHeartbeats 2000000 in
theorem hold15_7 (r : Rg) (w : World) :
    Calls Try.prog 256 #[.agg r.arr, .int .i64 7] w fun e w' => e = .returned (.bool (r.hold 7)) ∧ Below w.heap.size w w' := by
  have HV : Hid (r.hold 7 = !(r.hold 6)) := Lib.hid (show r.hv 7 = !(r.hv 6) from rfl)
  obtain ⟨b, HB⟩ : ∃ b, Hid (r.hold 6 = b) := ⟨_, Lib.hid rfl⟩
  go_enter Try.func256, Try.ntmps256
  go_wp2_with (first | (refine wpList_load_row rfl 26 _ rfl w.heap.size rfl 26 r.arr (0, 0) _ (heap_alloc_new _ _) Try.underlying26 rfl (by rw [Rg.size]; exact info25) ?_))
  refine (hold15_6 r _).mono ?_
  rintro e w2 ⟨rfl, hb⟩
  have HB2 := Lib.hid (((Below.refl _ _).alloc (Nat.le_refl _) (.cells r.arr 26)).trans (hb.mono (by simp)))
  clear hb
  rw [HB.out]
  go_wp2
  go_ret
  exact ⟨by rw [HV.out, HB.out]; rfl, HB2.out⟩
set_option maxRecDepth 100000 in
set_option maxHeartbeats 2000000 in
theorem hold15_9 (r : Rg) (w : World) :
    Calls Try.prog 256 #[.agg r.arr, .int .i64 9] w fun e w' => e = .returned (.bool (r.hold 9)) ∧ Below w.heap.size w w' := by
  have HV : Hid (r.hold 9 = !(r.hold 8)) := Lib.hid (show r.hv 9 = !(r.hv 8) from rfl)
  obtain ⟨b, HB⟩ : ∃ b, Hid (r.hold 8 = b) := ⟨_, Lib.hid rfl⟩
  go_enter Try.func256, Try.ntmps256
  go_wp2_with (first | (refine wpList_load_row rfl 26 _ rfl w.heap.size rfl 26 r.arr (0, 0) _ (heap_alloc_new _ _) Try.underlying26 rfl (by rw [Rg.size]; exact info25) ?_))
  refine (hold15_8 r _).mono ?_
  rintro e w2 ⟨rfl, hb⟩
  have HB2 := Lib.hid (((Below.refl _ _).alloc (Nat.le_refl _) (.cells r.arr 26)).trans (hb.mono (by simp)))
  clear hb
  rw [HB.out]
  go_wp2
  go_ret
  exact ⟨by rw [HV.out, HB.out]; rfl, HB2.out⟩
set_option maxRecDepth 100000 in
set_option maxHeartbeats 2000000 in
theorem hold15_11 (r : Rg) (w : World) :
    Calls Try.prog 256 #[.agg r.arr, .int .i64 11] w fun e w' => e = .returned (.bool (r.hold 11)) ∧ Below w.heap.size w w' := by
  have HV : Hid (r.hold 11 = !(r.hold 10)) := Lib.hid (show r.hv 11 = !(r.hv 10) from rfl)
  obtain ⟨b, HB⟩ : ∃ b, Hid (r.hold 10 = b) := ⟨_, Lib.hid rfl⟩
  go_enter Try.func256, Try.ntmps256
  go_wp2_with (first | (refine wpList_load_row rfl 26 _ rfl w.heap.size rfl 26 r.arr (0, 0) _ (heap_alloc_new _ _) Try.underlying26 rfl (by rw [Rg.size]; exact info25) ?_))
  refine (hold15_10 r _).mono ?_
  rintro e w2 ⟨rfl, hb⟩
  have HB2 := Lib.hid (((Below.refl _ _).alloc (Nat.le_refl _) (.cells r.arr 26)).trans (hb.mono (by simp)))
  clear hb
  rw [HB.out]
  go_wp2
  go_ret
  exact ⟨by rw [HV.out, HB.out]; rfl, HB2.out⟩
set_option maxRecDepth 100000 in
set_option maxHeartbeats 2000000 in
theorem hold15_13 (r : Rg) (w : World) :
    Calls Try.prog 256 #[.agg r.arr, .int .i64 13] w fun e w' => e = .returned (.bool (r.hold 13)) ∧ Below w.heap.size w w' := by
  have HV : Hid (r.hold 13 = !(r.hold 12)) := Lib.hid (show r.hv 13 = !(r.hv 12) from rfl)
  obtain ⟨b, HB⟩ : ∃ b, Hid (r.hold 12 = b) := ⟨_, Lib.hid rfl⟩
  go_enter Try.func256, Try.ntmps256
  go_wp2_with (first | (refine wpList_load_row rfl 26 _ rfl w.heap.size rfl 26 r.arr (0, 0) _ (heap_alloc_new _ _) Try.underlying26 rfl (by rw [Rg.size]; exact info25) ?_))
  refine (hold15_12 r _).mono ?_
  rintro e w2 ⟨rfl, hb⟩
  have HB2 := Lib.hid (((Below.refl _ _).alloc (Nat.le_refl _) (.cells r.arr 26)).trans (hb.mono (by simp)))
  clear hb
  rw [HB.out]
  go_wp2
  go_ret
  exact ⟨by rw [HV.out, HB.out]; rfl, HB2.out⟩
set_option maxRecDepth 100000 in
set_option maxHeartbeats 2000000 in
theorem hold15_no (r : Rg) (c : Int) (w : World) (h : c < 0 ∨ 15 < c) :
    Calls Try.prog 256 #[.agg r.arr, .int .i64 c] w fun e w' => e = .returned (.bool (r.hold c)) ∧ Below w.heap.size w w' := by
  have HV := Lib.hid (r.hold_no c h)
  have e0 : (c == 0) = false := by simp; omega
  have e1 : (c == 1) = false := by simp; omega
  have e2 : (c == 2) = false := by simp; omega
  have e3 : (c == 3) = false := by simp; omega
  have e4 : (c == 4) = false := by simp; omega
  have e5 : (c == 5) = false := by simp; omega
  have e6 : (c == 6) = false := by simp; omega
  have e7 : (c == 7) = false := by simp; omega
  have e8 : (c == 8) = false := by simp; omega
  have e9 : (c == 9) = false := by simp; omega
  have e10 : (c == 10) = false := by simp; omega
  have e11 : (c == 11) = false := by simp; omega
  have e12 : (c == 12) = false := by simp; omega
  have e13 : (c == 13) = false := by simp; omega
  have e14 : (c == 14) = false := by simp; omega
  have e15 : (c == 15) = false := by simp; omega
  go_enter Try.func256, Try.ntmps256
  go_wp2
  go_ret
  exact ⟨by rw [HV.out]; rfl, (Below.refl _ _).alloc (Nat.le_refl _) _⟩
theorem hold15 (r : Rg) (c : Int) (w : World) :
    Calls Try.prog 256 #[.agg r.arr, .int .i64 c] w fun e w' => e = .returned (.bool (r.hold c)) ∧ Below w.heap.size w w' := by
  by_cases h : c < 0 ∨ 15 < c
  · exact hold15_no r c w h
  · rcases (show c = 0 ∨ c = 1 ∨ c = 2 ∨ c = 3 ∨ c = 4 ∨ c = 5 ∨ c = 6 ∨ c = 7 ∨ c = 8 ∨ c = 9 ∨ c = 10 ∨ c = 11 ∨ c = 12 ∨ c = 13 ∨ c = 14 ∨ c = 15 by omega) with rfl | rfl | rfl | rfl | rfl | rfl | rfl | rfl | rfl | rfl | rfl | rfl | rfl | rfl | rfl | rfl
    · exact hold15_0 r w
    · exact hold15_1 r w
    · exact hold15_2 r w
    · exact hold15_3 r w
    · exact hold15_4 r w
    · exact hold15_5 r w
    · exact hold15_6 r w
    · exact hold15_7 r w
    · exact hold15_8 r w
    · exact hold15_9 r w
    · exact hold15_10 r w
    · exact hold15_11 r w
    · exact hold15_12 r w
    · exact hold15_13 r w
    · exact hold15_14 r w
    · exact hold15_15 r w
end Go.Proofs.Ytnbpgoacooddjaa
