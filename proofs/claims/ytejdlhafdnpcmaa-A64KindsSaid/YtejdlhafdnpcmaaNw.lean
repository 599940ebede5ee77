import Derived.Test.YtejdlhafdnpcmaaKn
namespace Go.Proofs.Ytejdlhafdnpcmaa
open Go.RowKit
set_option linter.unusedVariables false
theorem nm_size : ∀ n, n < 43 → 0 < (nm n).size ∧ (nm n).size ≤ 10 := by decide +kernel
theorem nm_bytes : ∀ n, n < 43 → ∀ i, (h : i < (nm n).size) → (97 ≤ (nm n)[i].toNat ∧ (nm n)[i].toNat ≤ 122) ∨ ((nm n)[i].toNat = 46 ∧ n = 21 ∧ i + 1 = (nm n).size) := by decide +kernel
theorem nm_beq : ∀ n, n < 43 → ∀ m, m < 43 → ((nm n).toList == (nm m).toList) = decide (n = m) := by decide +kernel
theorem nm_bne : ∀ n, n < 43 → ((nm n).toList == (⟨#[]⟩ : ByteArray).toList) = false ∧ (nm n).toList.isEmpty = false := by decide +kernel
/-- The name, of any number. -/
def nmI (a : Int) : ByteArray := if 0 ≤ a ∧ a ≤ 42 then nm a.toNat else ⟨#[]⟩
theorem name_any (a : Int) (w : World) : Calls Try.prog 16 #[.int .i64 a] w fun e w' => e = .returned (.string (nmI a)) ∧ w' = w := by
  by_cases h : 0 ≤ a ∧ a ≤ 42
  · obtain ⟨n, rfl⟩ := Int.eq_ofNat_of_zero_le h.1
    rw [nmI, if_pos h]
    exact name_y n w (by omega)
  · rw [nmI, if_neg h]
    exact name_n a w (by omega)
set_option maxRecDepth 100000 in
set_option maxHeartbeats 2000000 in
theorem names_n (a b : Int) (w : World) (h : a < 0 ∨ 42 < a) : Calls Try.prog 6 #[.int .i64 a, .int .i64 b] w fun e w' => e = .returned (.bool true) ∧ Below w.heap.size w w' := by
  have hx : nmI a = ⟨#[]⟩ := by rw [nmI, if_neg (by omega)]
  have HX := Lib.hid (fun w => by have := name_any a w; rw [hx] at this; exact this : ∀ w, Calls Try.prog 16 #[.int .i64 a] w fun e w' => e = .returned (.string ⟨#[]⟩) ∧ w' = w)
  clear hx
  obtain ⟨Y, hY⟩ : ∃ Y, nmI b = Y := ⟨_, rfl⟩
  have HY := Lib.hid (fun w => by have := name_any b w; rw [hY] at this; exact this : ∀ w, Calls Try.prog 16 #[.int .i64 b] w fun e w' => e = .returned (.string Y) ∧ w' = w)
  clear hY
  rcases h with h | h
  · go_enter Try.func6, Try.ntmps6
    go_wp2_with (first | (go_at_call 8; refine (known_c _).mono ?_; rintro e w1 ⟨rfl, hb1⟩; have HB1 := Lib.hid hb1; clear hb1) | (go_at_call 16; (with_reducible refine (HX.out _).mono ?_); rintro e w' ⟨rfl, rfl⟩) | (go_at_call 16; (with_reducible refine (HY.out _).mono ?_); rintro e w' ⟨rfl, rfl⟩))
    go_loop [7] (fun i => i = .int .i64 0) (fun i => 0)
    case atStart => rfl
    case round =>
      subst hrel
      go_wp2
      go_ret
      exact ⟨rfl, HB1.out⟩
  · have h0 : ¬ a < 0 := by omega
    go_enter Try.func6, Try.ntmps6
    go_wp2_with (first | (go_at_call 8; refine (known_c _).mono ?_; rintro e w1 ⟨rfl, hb1⟩; have HB1 := Lib.hid hb1; clear hb1) | (go_at_call 16; (with_reducible refine (HX.out _).mono ?_); rintro e w' ⟨rfl, rfl⟩) | (go_at_call 16; (with_reducible refine (HY.out _).mono ?_); rintro e w' ⟨rfl, rfl⟩))
    go_loop [7] (fun i => i = .int .i64 0) (fun i => 0)
    case atStart => rfl
    case round =>
      subst hrel
      go_wp2
      go_ret
      exact ⟨rfl, HB1.out⟩
set_option maxRecDepth 100000 in
set_option maxHeartbeats 2000000 in
theorem names_y (n : Nat) (b : Int) (w : World) (h : n ≤ 42) : Calls Try.prog 6 #[.int .i64 n, .int .i64 b] w fun e w' => e = .returned (.bool true) ∧ Below w.heap.size w w' := by
  obtain ⟨X, hX⟩ : ∃ X, nmI n = X := ⟨_, rfl⟩
  obtain ⟨Y, hY⟩ : ∃ Y, nmI b = Y := ⟨_, rfl⟩
  have HX := Lib.hid (fun w => by have := name_any n w; rw [hX] at this; exact this : ∀ w, Calls Try.prog 16 #[.int .i64 n] w fun e w' => e = .returned (.string X) ∧ w' = w)
  have HY := Lib.hid (fun w => by have := name_any b w; rw [hY] at this; exact this : ∀ w, Calls Try.prog 16 #[.int .i64 b] w fun e w' => e = .returned (.string Y) ∧ w' = w)
  have hXn : X = nm n := by rw [← hX, nmI, if_pos (by omega)]; rfl
  have hsz : 0 < X.size ∧ X.size ≤ 10 := by rw [hXn]; exact nm_size n (by omega)
  have HBY := Lib.hid (by rw [hXn]; exact nm_bytes n (by omega) : ∀ i, (h : i < X.size) → (97 ≤ X[i].toNat ∧ X[i].toNat ≤ 122) ∨ (X[i].toNat = 46 ∧ n = 21 ∧ i + 1 = X.size))
  have hE : (X.toList == (⟨#[]⟩ : ByteArray).toList) = false ∧ X.toList.isEmpty = false := by rw [hXn]; exact nm_bne n (by omega)
  obtain ⟨hE, hE2⟩ := hE
  have hE3 : (!X.toList.isEmpty) = true := by rw [hE2]; rfl
  have hg : decide ((42 : Int) < (n : Int)) = false := by simp; omega
  have hP : ((X.toList == Y.toList) = true ∧ ((n : Int) == b) = true) ∨ ((X.toList == Y.toList) = false ∧ ((n : Int) == b) = false) := by
    rw [hXn, ← hY, nmI]
    split
    · rename_i hb
      rw [nm_beq n (by omega) b.toNat (by omega)]
      by_cases e : n = b.toNat
      · exact .inl ⟨by simpa using e, by simp; omega⟩
      · exact .inr ⟨by simpa using e, by simp; omega⟩
    · exact .inr ⟨(nm_bne n (by omega)).1, by simp; omega⟩
  have HP := Lib.hid hP
  obtain ⟨hs0, hs1⟩ := hsz
  clear hP hXn hX hY
  go_enter Try.func6, Try.ntmps6
  go_wp2_with (first | (go_at_call 8; refine (known_c _).mono ?_; rintro e w1 ⟨rfl, hb1⟩; have HB1 := Lib.hid hb1; clear hb1) | (go_at_call 16; (with_reducible refine (HX.out _).mono ?_); rintro e w' ⟨rfl, rfl⟩) | (go_at_call 16; (with_reducible refine (HY.out _).mono ?_); rintro e w' ⟨rfl, rfl⟩))
  go_loop [7] (fun i => ∃ k : Nat, k ≤ X.size ∧ i = .int .i64 k) (fun i => X.size - (intOf i).toNat)
  case atStart => exact ⟨0, by omega, rfl⟩
  case round =>
    obtain ⟨k, hk, rfl⟩ := hrel
    by_cases hlt : k < X.size
    · rcases HBY.out k hlt with ⟨l1, l2⟩ | ⟨l1, l2, l3⟩
      · go_wp2
        exact ⟨⟨k + 1, by omega, by go_num⟩, by simp [intOf]; omega⟩
      · subst l2
        have l4 : (X[k].toNat : Int) = 46 := by omega
        have l5 : (X.size : Int) - 1 = k := by omega
        go_wp2
        exact ⟨⟨k + 1, by omega, by go_num⟩, by simp [intOf]; omega⟩
    · rcases HP.out with ⟨p1, p2⟩ | ⟨p1, p2⟩
      · go_wp2
        go_ret
        exact ⟨rfl, HB1.out⟩
      · go_wp2
        go_ret
        exact ⟨rfl, HB1.out⟩
end Go.Proofs.Ytejdlhafdnpcmaa
