import Derived.Test.YtejdlhafdnpcmaaNw
namespace Go.Proofs.Ytejdlhafdnpcmaa
open Go.RowKit
set_option linter.unusedVariables false
set_option maxRecDepth 100000 in
set_option maxHeartbeats 2000000 in
theorem rname_1 (w : World) : Calls Try.prog 17 #[.int .i64 1] w fun e w' => e = .returned (.string (nmI 1)) ∧ Below w.heap.size w w' := by
  have hx : nmI 1 = ⟨#[110, 111, 112]⟩ := by decide +kernel
  rw [hx]
  clear hx
  go_enter Try.func17, Try.ntmps17
  go_wp2
  go_ret
  exact ⟨rfl, (Below.refl _ _).alloc (Nat.le_refl _) _⟩
set_option maxRecDepth 100000 in
set_option maxHeartbeats 2000000 in
theorem rname_5 (w : World) : Calls Try.prog 17 #[.int .i64 5] w fun e w' => e = .returned (.string (nmI 5)) ∧ Below w.heap.size w w' := by
  have hx : nmI 5 = ⟨#[115, 117, 98, 105]⟩ := by decide +kernel
  rw [hx]
  clear hx
  go_enter Try.func17, Try.ntmps17
  go_wp2
  go_ret
  exact ⟨rfl, (Below.refl _ _).alloc (Nat.le_refl _) _⟩
set_option maxRecDepth 100000 in
set_option maxHeartbeats 2000000 in
theorem rname_9 (w : World) : Calls Try.prog 17 #[.int .i64 9] w fun e w' => e = .returned (.string (nmI 9)) ∧ Below w.heap.size w w' := by
  have hx : nmI 9 = ⟨#[115, 117, 98, 115]⟩ := by decide +kernel
  rw [hx]
  clear hx
  go_enter Try.func17, Try.ntmps17
  go_wp2
  go_ret
  exact ⟨rfl, (Below.refl _ _).alloc (Nat.le_refl _) _⟩
set_option maxRecDepth 100000 in
set_option maxHeartbeats 2000000 in
theorem rname_13 (w : World) : Calls Try.prog 17 #[.int .i64 13] w fun e w' => e = .returned (.string (nmI 13)) ∧ Below w.heap.size w w' := by
  have hx : nmI 13 = ⟨#[109, 97, 100, 100]⟩ := by decide +kernel
  rw [hx]
  clear hx
  go_enter Try.func17, Try.ntmps17
  go_wp2
  go_ret
  exact ⟨rfl, (Below.refl _ _).alloc (Nat.le_refl _) _⟩
set_option maxRecDepth 100000 in
set_option maxHeartbeats 2000000 in
theorem rname_17 (w : World) : Calls Try.prog 17 #[.int .i64 17] w fun e w' => e = .returned (.string (nmI 17)) ∧ Below w.heap.size w w' := by
  have hx : nmI 17 = ⟨#[108, 115, 114, 118]⟩ := by decide +kernel
  rw [hx]
  clear hx
  go_enter Try.func17, Try.ntmps17
  go_wp2
  go_ret
  exact ⟨rfl, (Below.refl _ _).alloc (Nat.le_refl _) _⟩
set_option maxRecDepth 100000 in
set_option maxHeartbeats 2000000 in
theorem rname_21 (w : World) : Calls Try.prog 17 #[.int .i64 21] w fun e w' => e = .returned (.string (nmI 21)) ∧ Below w.heap.size w w' := by
  have hx : nmI 21 = ⟨#[98, 46]⟩ := by decide +kernel
  rw [hx]
  clear hx
  go_enter Try.func17, Try.ntmps17
  go_wp2
  go_ret
  exact ⟨rfl, (Below.refl _ _).alloc (Nat.le_refl _) _⟩
set_option maxRecDepth 100000 in
set_option maxHeartbeats 2000000 in
theorem rname_25 (w : World) : Calls Try.prog 17 #[.int .i64 25] w fun e w' => e = .returned (.string (nmI 25)) ∧ Below w.heap.size w w' := by
  have hx : nmI 25 = ⟨#[98, 114]⟩ := by decide +kernel
  rw [hx]
  clear hx
  go_enter Try.func17, Try.ntmps17
  go_wp2
  go_ret
  exact ⟨rfl, (Below.refl _ _).alloc (Nat.le_refl _) _⟩
set_option maxRecDepth 100000 in
set_option maxHeartbeats 2000000 in
theorem rname_29 (w : World) : Calls Try.prog 17 #[.int .i64 29] w fun e w' => e = .returned (.string (nmI 29)) ∧ Below w.heap.size w w' := by
  have hx : nmI 29 = ⟨#[115, 116, 114]⟩ := by decide +kernel
  rw [hx]
  clear hx
  go_enter Try.func17, Try.ntmps17
  go_wp2
  go_ret
  exact ⟨rfl, (Below.refl _ _).alloc (Nat.le_refl _) _⟩
set_option maxRecDepth 100000 in
set_option maxHeartbeats 2000000 in
theorem rname_33 (w : World) : Calls Try.prog 17 #[.int .i64 33] w fun e w' => e = .returned (.string (nmI 33)) ∧ Below w.heap.size w w' := by
  have hx : nmI 33 = ⟨#[108, 100, 97, 114]⟩ := by decide +kernel
  rw [hx]
  clear hx
  go_enter Try.func17, Try.ntmps17
  go_wp2
  go_ret
  exact ⟨rfl, (Below.refl _ _).alloc (Nat.le_refl _) _⟩
set_option maxRecDepth 100000 in
set_option maxHeartbeats 2000000 in
theorem rname_37 (w : World) : Calls Try.prog 17 #[.int .i64 37] w fun e w' => e = .returned (.string (nmI 37)) ∧ Below w.heap.size w w' := by
  have hx : nmI 37 = ⟨#[100, 109, 98]⟩ := by decide +kernel
  rw [hx]
  clear hx
  go_enter Try.func17, Try.ntmps17
  go_wp2
  go_ret
  exact ⟨rfl, (Below.refl _ _).alloc (Nat.le_refl _) _⟩
set_option maxRecDepth 100000 in
set_option maxHeartbeats 2000000 in
theorem rname_41 (w : World) : Calls Try.prog 17 #[.int .i64 41] w fun e w' => e = .returned (.string (nmI 41)) ∧ Below w.heap.size w w' := by
  have hx : nmI 41 = ⟨#[105, 99]⟩ := by decide +kernel
  rw [hx]
  clear hx
  go_enter Try.func17, Try.ntmps17
  go_wp2
  go_ret
  exact ⟨rfl, (Below.refl _ _).alloc (Nat.le_refl _) _⟩
end Go.Proofs.Ytejdlhafdnpcmaa
