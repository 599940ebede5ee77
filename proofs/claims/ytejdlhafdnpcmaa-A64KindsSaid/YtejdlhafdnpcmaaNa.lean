import Derived.Test.YtejdlhafdnpcmaaNw
namespace Go.Proofs.Ytejdlhafdnpcmaa
open Go.RowKit
set_option linter.unusedVariables false
set_option maxRecDepth 100000 in
set_option maxHeartbeats 2000000 in
theorem rname_0 (w : World) : Calls Try.prog 17 #[.int .i64 0] w fun e w' => e = .returned (.string (nmI 0)) ∧ Below w.heap.size w w' := by
  have hx : nmI 0 = ⟨#[117, 100, 102]⟩ := by decide +kernel
  rw [hx]
  clear hx
  go_enter Try.func17, Try.ntmps17
  go_wp2
  go_ret
  exact ⟨rfl, (Below.refl _ _).alloc (Nat.le_refl _) _⟩
set_option maxRecDepth 100000 in
set_option maxHeartbeats 2000000 in
theorem rname_4 (w : World) : Calls Try.prog 17 #[.int .i64 4] w fun e w' => e = .returned (.string (nmI 4)) ∧ Below w.heap.size w w' := by
  have hx : nmI 4 = ⟨#[97, 100, 100, 105]⟩ := by decide +kernel
  rw [hx]
  clear hx
  go_enter Try.func17, Try.ntmps17
  go_wp2
  go_ret
  exact ⟨rfl, (Below.refl _ _).alloc (Nat.le_refl _) _⟩
set_option maxRecDepth 100000 in
set_option maxHeartbeats 2000000 in
theorem rname_8 (w : World) : Calls Try.prog 17 #[.int .i64 8] w fun e w' => e = .returned (.string (nmI 8)) ∧ Below w.heap.size w w' := by
  have hx : nmI 8 = ⟨#[115, 117, 98]⟩ := by decide +kernel
  rw [hx]
  clear hx
  go_enter Try.func17, Try.ntmps17
  go_wp2
  go_ret
  exact ⟨rfl, (Below.refl _ _).alloc (Nat.le_refl _) _⟩
set_option maxRecDepth 100000 in
set_option maxHeartbeats 2000000 in
theorem rname_12 (w : World) : Calls Try.prog 17 #[.int .i64 12] w fun e w' => e = .returned (.string (nmI 12)) ∧ Below w.heap.size w w' := by
  have hx : nmI 12 = ⟨#[101, 111, 114]⟩ := by decide +kernel
  rw [hx]
  clear hx
  go_enter Try.func17, Try.ntmps17
  go_wp2
  go_ret
  exact ⟨rfl, (Below.refl _ _).alloc (Nat.le_refl _) _⟩
set_option maxRecDepth 100000 in
set_option maxHeartbeats 2000000 in
theorem rname_16 (w : World) : Calls Try.prog 17 #[.int .i64 16] w fun e w' => e = .returned (.string (nmI 16)) ∧ Below w.heap.size w w' := by
  have hx : nmI 16 = ⟨#[108, 115, 108, 118]⟩ := by decide +kernel
  rw [hx]
  clear hx
  go_enter Try.func17, Try.ntmps17
  go_wp2
  go_ret
  exact ⟨rfl, (Below.refl _ _).alloc (Nat.le_refl _) _⟩
set_option maxRecDepth 100000 in
set_option maxHeartbeats 2000000 in
theorem rname_20 (w : World) : Calls Try.prog 17 #[.int .i64 20] w fun e w' => e = .returned (.string (nmI 20)) ∧ Below w.heap.size w w' := by
  have hx : nmI 20 = ⟨#[98]⟩ := by decide +kernel
  rw [hx]
  clear hx
  go_enter Try.func17, Try.ntmps17
  go_wp2
  go_ret
  exact ⟨rfl, (Below.refl _ _).alloc (Nat.le_refl _) _⟩
set_option maxRecDepth 100000 in
set_option maxHeartbeats 2000000 in
theorem rname_24 (w : World) : Calls Try.prog 17 #[.int .i64 24] w fun e w' => e = .returned (.string (nmI 24)) ∧ Below w.heap.size w w' := by
  have hx : nmI 24 = ⟨#[98, 108]⟩ := by decide +kernel
  rw [hx]
  clear hx
  go_enter Try.func17, Try.ntmps17
  go_wp2
  go_ret
  exact ⟨rfl, (Below.refl _ _).alloc (Nat.le_refl _) _⟩
set_option maxRecDepth 100000 in
set_option maxHeartbeats 2000000 in
theorem rname_28 (w : World) : Calls Try.prog 17 #[.int .i64 28] w fun e w' => e = .returned (.string (nmI 28)) ∧ Below w.heap.size w w' := by
  have hx : nmI 28 = ⟨#[108, 100, 114]⟩ := by decide +kernel
  rw [hx]
  clear hx
  go_enter Try.func17, Try.ntmps17
  go_wp2
  go_ret
  exact ⟨rfl, (Below.refl _ _).alloc (Nat.le_refl _) _⟩
set_option maxRecDepth 100000 in
set_option maxHeartbeats 2000000 in
theorem rname_32 (w : World) : Calls Try.prog 17 #[.int .i64 32] w fun e w' => e = .returned (.string (nmI 32)) ∧ Below w.heap.size w w' := by
  have hx : nmI 32 = ⟨#[115, 116, 114, 114]⟩ := by decide +kernel
  rw [hx]
  clear hx
  go_enter Try.func17, Try.ntmps17
  go_wp2
  go_ret
  exact ⟨rfl, (Below.refl _ _).alloc (Nat.le_refl _) _⟩
set_option maxRecDepth 100000 in
set_option maxHeartbeats 2000000 in
theorem rname_36 (w : World) : Calls Try.prog 17 #[.int .i64 36] w fun e w' => e = .returned (.string (nmI 36)) ∧ Below w.heap.size w w' := by
  have hx : nmI 36 = ⟨#[115, 116, 120, 114]⟩ := by decide +kernel
  rw [hx]
  clear hx
  go_enter Try.func17, Try.ntmps17
  go_wp2
  go_ret
  exact ⟨rfl, (Below.refl _ _).alloc (Nat.le_refl _) _⟩
set_option maxRecDepth 100000 in
set_option maxHeartbeats 2000000 in
theorem rname_40 (w : World) : Calls Try.prog 17 #[.int .i64 40] w fun e w' => e = .returned (.string (nmI 40)) ∧ Below w.heap.size w w' := by
  have hx : nmI 40 = ⟨#[100, 99]⟩ := by decide +kernel
  rw [hx]
  clear hx
  go_enter Try.func17, Try.ntmps17
  go_wp2
  go_ret
  exact ⟨rfl, (Below.refl _ _).alloc (Nat.le_refl _) _⟩
end Go.Proofs.Ytejdlhafdnpcmaa
