import Derived.Test.YtejdlhafdnpcmaaNw
namespace Go.Proofs.Ytejdlhafdnpcmaa
open Go.RowKit
set_option linter.unusedVariables false
set_option maxRecDepth 100000 in
set_option maxHeartbeats 2000000 in
theorem rname_n (op : Int) (w : World) (h : op < 0 ∨ 42 < op) : Calls Try.prog 17 #[.int .i64 op] w fun e w' => e = .returned (.string (nmI op)) ∧ Below w.heap.size w w' := by
  have hx : nmI op = ⟨#[]⟩ := by rw [nmI, if_neg (by omega)]
  rw [hx]
  clear hx
  rcases h with h | h
  · go_enter Try.func17, Try.ntmps17
    go_wp2
    go_ret
    exact ⟨rfl, (Below.refl _ _).alloc (Nat.le_refl _) _⟩
  · have h0 : 0 ≤ op := by omega
    have h1 : ¬ op < 0 := by omega
    have h2 : (43 : Int) ≤ op := by omega
    go_enter Try.func17, Try.ntmps17
    go_wp2
    go_ret
    exact ⟨rfl, (Below.refl _ _).alloc (Nat.le_refl _) _⟩
set_option maxRecDepth 100000 in
set_option maxHeartbeats 2000000 in
theorem rname_3 (w : World) : Calls Try.prog 17 #[.int .i64 3] w fun e w' => e = .returned (.string (nmI 3)) ∧ Below w.heap.size w w' := by
  have hx : nmI 3 = ⟨#[109, 111, 118, 107]⟩ := by decide +kernel
  rw [hx]
  clear hx
  go_enter Try.func17, Try.ntmps17
  go_wp2
  go_ret
  exact ⟨rfl, (Below.refl _ _).alloc (Nat.le_refl _) _⟩
set_option maxRecDepth 100000 in
set_option maxHeartbeats 2000000 in
theorem rname_7 (w : World) : Calls Try.prog 17 #[.int .i64 7] w fun e w' => e = .returned (.string (nmI 7)) ∧ Below w.heap.size w w' := by
  have hx : nmI 7 = ⟨#[97, 100, 100]⟩ := by decide +kernel
  rw [hx]
  clear hx
  go_enter Try.func17, Try.ntmps17
  go_wp2
  go_ret
  exact ⟨rfl, (Below.refl _ _).alloc (Nat.le_refl _) _⟩
set_option maxRecDepth 100000 in
set_option maxHeartbeats 2000000 in
theorem rname_11 (w : World) : Calls Try.prog 17 #[.int .i64 11] w fun e w' => e = .returned (.string (nmI 11)) ∧ Below w.heap.size w w' := by
  have hx : nmI 11 = ⟨#[111, 114, 114]⟩ := by decide +kernel
  rw [hx]
  clear hx
  go_enter Try.func17, Try.ntmps17
  go_wp2
  go_ret
  exact ⟨rfl, (Below.refl _ _).alloc (Nat.le_refl _) _⟩
set_option maxRecDepth 100000 in
set_option maxHeartbeats 2000000 in
theorem rname_15 (w : World) : Calls Try.prog 17 #[.int .i64 15] w fun e w' => e = .returned (.string (nmI 15)) ∧ Below w.heap.size w w' := by
  have hx : nmI 15 = ⟨#[115, 100, 105, 118]⟩ := by decide +kernel
  rw [hx]
  clear hx
  go_enter Try.func17, Try.ntmps17
  go_wp2
  go_ret
  exact ⟨rfl, (Below.refl _ _).alloc (Nat.le_refl _) _⟩
set_option maxRecDepth 100000 in
set_option maxHeartbeats 2000000 in
theorem rname_19 (w : World) : Calls Try.prog 17 #[.int .i64 19] w fun e w' => e = .returned (.string (nmI 19)) ∧ Below w.heap.size w w' := by
  have hx : nmI 19 = ⟨#[99, 115, 105, 110, 99]⟩ := by decide +kernel
  rw [hx]
  clear hx
  go_enter Try.func17, Try.ntmps17
  go_wp2
  go_ret
  exact ⟨rfl, (Below.refl _ _).alloc (Nat.le_refl _) _⟩
set_option maxRecDepth 100000 in
set_option maxHeartbeats 2000000 in
theorem rname_23 (w : World) : Calls Try.prog 17 #[.int .i64 23] w fun e w' => e = .returned (.string (nmI 23)) ∧ Below w.heap.size w w' := by
  have hx : nmI 23 = ⟨#[99, 98, 110, 122]⟩ := by decide +kernel
  rw [hx]
  clear hx
  go_enter Try.func17, Try.ntmps17
  go_wp2
  go_ret
  exact ⟨rfl, (Below.refl _ _).alloc (Nat.le_refl _) _⟩
set_option maxRecDepth 100000 in
set_option maxHeartbeats 2000000 in
theorem rname_27 (w : World) : Calls Try.prog 17 #[.int .i64 27] w fun e w' => e = .returned (.string (nmI 27)) ∧ Below w.heap.size w w' := by
  have hx : nmI 27 = ⟨#[114, 101, 116]⟩ := by decide +kernel
  rw [hx]
  clear hx
  go_enter Try.func17, Try.ntmps17
  go_wp2
  go_ret
  exact ⟨rfl, (Below.refl _ _).alloc (Nat.le_refl _) _⟩
set_option maxRecDepth 100000 in
set_option maxHeartbeats 2000000 in
theorem rname_31 (w : World) : Calls Try.prog 17 #[.int .i64 31] w fun e w' => e = .returned (.string (nmI 31)) ∧ Below w.heap.size w w' := by
  have hx : nmI 31 = ⟨#[108, 100, 114, 114]⟩ := by decide +kernel
  rw [hx]
  clear hx
  go_enter Try.func17, Try.ntmps17
  go_wp2
  go_ret
  exact ⟨rfl, (Below.refl _ _).alloc (Nat.le_refl _) _⟩
set_option maxRecDepth 100000 in
set_option maxHeartbeats 2000000 in
theorem rname_35 (w : World) : Calls Try.prog 17 #[.int .i64 35] w fun e w' => e = .returned (.string (nmI 35)) ∧ Below w.heap.size w w' := by
  have hx : nmI 35 = ⟨#[108, 100, 120, 114]⟩ := by decide +kernel
  rw [hx]
  clear hx
  go_enter Try.func17, Try.ntmps17
  go_wp2
  go_ret
  exact ⟨rfl, (Below.refl _ _).alloc (Nat.le_refl _) _⟩
set_option maxRecDepth 100000 in
set_option maxHeartbeats 2000000 in
theorem rname_39 (w : World) : Calls Try.prog 17 #[.int .i64 39] w fun e w' => e = .returned (.string (nmI 39)) ∧ Below w.heap.size w w' := by
  have hx : nmI 39 = ⟨#[105, 115, 98]⟩ := by decide +kernel
  rw [hx]
  clear hx
  go_enter Try.func17, Try.ntmps17
  go_wp2
  go_ret
  exact ⟨rfl, (Below.refl _ _).alloc (Nat.le_refl _) _⟩
end Go.Proofs.Ytejdlhafdnpcmaa
