import Derived.Test.YtejdlhafdnpcmaaNw
namespace Go.Proofs.Ytejdlhafdnpcmaa
open Go.RowKit
set_option linter.unusedVariables false
set_option maxRecDepth 100000 in
set_option maxHeartbeats 2000000 in
theorem rname_2 (w : World) : Calls Try.prog 17 #[.int .i64 2] w fun e w' => e = .returned (.string (nmI 2)) ∧ Below w.heap.size w w' := by
  have hx : nmI 2 = ⟨#[109, 111, 118, 122]⟩ := by decide +kernel
  rw [hx]
  clear hx
  go_enter Try.func17, Try.ntmps17
  go_wp2
  go_ret
  exact ⟨rfl, (Below.refl _ _).alloc (Nat.le_refl _) _⟩
set_option maxRecDepth 100000 in
set_option maxHeartbeats 2000000 in
theorem rname_6 (w : World) : Calls Try.prog 17 #[.int .i64 6] w fun e w' => e = .returned (.string (nmI 6)) ∧ Below w.heap.size w w' := by
  have hx : nmI 6 = ⟨#[115, 117, 98, 115, 105]⟩ := by decide +kernel
  rw [hx]
  clear hx
  go_enter Try.func17, Try.ntmps17
  go_wp2
  go_ret
  exact ⟨rfl, (Below.refl _ _).alloc (Nat.le_refl _) _⟩
set_option maxRecDepth 100000 in
set_option maxHeartbeats 2000000 in
theorem rname_10 (w : World) : Calls Try.prog 17 #[.int .i64 10] w fun e w' => e = .returned (.string (nmI 10)) ∧ Below w.heap.size w w' := by
  have hx : nmI 10 = ⟨#[97, 110, 100]⟩ := by decide +kernel
  rw [hx]
  clear hx
  go_enter Try.func17, Try.ntmps17
  go_wp2
  go_ret
  exact ⟨rfl, (Below.refl _ _).alloc (Nat.le_refl _) _⟩
set_option maxRecDepth 100000 in
set_option maxHeartbeats 2000000 in
theorem rname_14 (w : World) : Calls Try.prog 17 #[.int .i64 14] w fun e w' => e = .returned (.string (nmI 14)) ∧ Below w.heap.size w w' := by
  have hx : nmI 14 = ⟨#[109, 115, 117, 98]⟩ := by decide +kernel
  rw [hx]
  clear hx
  go_enter Try.func17, Try.ntmps17
  go_wp2
  go_ret
  exact ⟨rfl, (Below.refl _ _).alloc (Nat.le_refl _) _⟩
set_option maxRecDepth 100000 in
set_option maxHeartbeats 2000000 in
theorem rname_18 (w : World) : Calls Try.prog 17 #[.int .i64 18] w fun e w' => e = .returned (.string (nmI 18)) ∧ Below w.heap.size w w' := by
  have hx : nmI 18 = ⟨#[97, 115, 114, 118]⟩ := by decide +kernel
  rw [hx]
  clear hx
  go_enter Try.func17, Try.ntmps17
  go_wp2
  go_ret
  exact ⟨rfl, (Below.refl _ _).alloc (Nat.le_refl _) _⟩
set_option maxRecDepth 100000 in
set_option maxHeartbeats 2000000 in
theorem rname_22 (w : World) : Calls Try.prog 17 #[.int .i64 22] w fun e w' => e = .returned (.string (nmI 22)) ∧ Below w.heap.size w w' := by
  have hx : nmI 22 = ⟨#[99, 98, 122]⟩ := by decide +kernel
  rw [hx]
  clear hx
  go_enter Try.func17, Try.ntmps17
  go_wp2
  go_ret
  exact ⟨rfl, (Below.refl _ _).alloc (Nat.le_refl _) _⟩
set_option maxRecDepth 100000 in
set_option maxHeartbeats 2000000 in
theorem rname_26 (w : World) : Calls Try.prog 17 #[.int .i64 26] w fun e w' => e = .returned (.string (nmI 26)) ∧ Below w.heap.size w w' := by
  have hx : nmI 26 = ⟨#[98, 108, 114]⟩ := by decide +kernel
  rw [hx]
  clear hx
  go_enter Try.func17, Try.ntmps17
  go_wp2
  go_ret
  exact ⟨rfl, (Below.refl _ _).alloc (Nat.le_refl _) _⟩
set_option maxRecDepth 100000 in
set_option maxHeartbeats 2000000 in
theorem rname_30 (w : World) : Calls Try.prog 17 #[.int .i64 30] w fun e w' => e = .returned (.string (nmI 30)) ∧ Below w.heap.size w w' := by
  have hx : nmI 30 = ⟨#[108, 100, 114, 98]⟩ := by decide +kernel
  rw [hx]
  clear hx
  go_enter Try.func17, Try.ntmps17
  go_wp2
  go_ret
  exact ⟨rfl, (Below.refl _ _).alloc (Nat.le_refl _) _⟩
set_option maxRecDepth 100000 in
set_option maxHeartbeats 2000000 in
theorem rname_34 (w : World) : Calls Try.prog 17 #[.int .i64 34] w fun e w' => e = .returned (.string (nmI 34)) ∧ Below w.heap.size w w' := by
  have hx : nmI 34 = ⟨#[115, 116, 108, 114]⟩ := by decide +kernel
  rw [hx]
  clear hx
  go_enter Try.func17, Try.ntmps17
  go_wp2
  go_ret
  exact ⟨rfl, (Below.refl _ _).alloc (Nat.le_refl _) _⟩
set_option maxRecDepth 100000 in
set_option maxHeartbeats 2000000 in
theorem rname_38 (w : World) : Calls Try.prog 17 #[.int .i64 38] w fun e w' => e = .returned (.string (nmI 38)) ∧ Below w.heap.size w w' := by
  have hx : nmI 38 = ⟨#[100, 115, 98]⟩ := by decide +kernel
  rw [hx]
  clear hx
  go_enter Try.func17, Try.ntmps17
  go_wp2
  go_ret
  exact ⟨rfl, (Below.refl _ _).alloc (Nat.le_refl _) _⟩
set_option maxRecDepth 100000 in
set_option maxHeartbeats 2000000 in
theorem rname_42 (w : World) : Calls Try.prog 17 #[.int .i64 42] w fun e w' => e = .returned (.string (nmI 42)) ∧ Below w.heap.size w w' := by
  have hx : nmI 42 = ⟨#[115, 118, 99]⟩ := by decide +kernel
  rw [hx]
  clear hx
  go_enter Try.func17, Try.ntmps17
  go_wp2
  go_ret
  exact ⟨rfl, (Below.refl _ _).alloc (Nat.le_refl _) _⟩
end Go.Proofs.Ytejdlhafdnpcmaa
