import Derived.Test.YtnbpgoacooddjaaELy
import Derived.Laws.BitsAllLaws
namespace Go.Proofs.Ytnbpgoacooddjaa.Fr
end Go.Proofs.Ytnbpgoacooddjaa.Fr
namespace Go.Proofs.Ytnbpgoacooddjaa.En
open Go.Proofs.Ytnbpgoacooddjaa.Fr
open Go.RowKit
set_option linter.unusedVariables false
theorem Z_bit {X lo n : Nat} (h : X / 2 ^ lo % 2 ^ n = 0) (i : Nat) (h1 : lo ≤ i) (h2 : i < lo + n) : X.testBit i = false := by
  have h3 : (X / 2 ^ lo % 2 ^ n).testBit (i - lo) = false := by rw [h]; simp
  rw [Nat.testBit_mod_two_pow, Nat.testBit_div_two_pow, Nat.sub_add_cancel h1] at h3
  simpa [show i - lo < n by omega] using h3
theorem bit_Z {X lo n : Nat} (h : ∀ i, lo ≤ i → i < lo + n → X.testBit i = false) : X / 2 ^ lo % 2 ^ n = 0 := by
  apply Nat.eq_of_testBit_eq
  intro i
  rw [Nat.testBit_mod_two_pow, Nat.testBit_div_two_pow, Nat.zero_testBit]
  by_cases h1 : i < n
  · simp [h1, h (i + lo) (by omega) (by omega)]
  · simp [h1]
theorem or_putN {X lo n V : Nat} (hX : X < 4294967296) (hln : lo + n ≤ 32) (hV : V < 2 ^ n) (hz : X / 2 ^ lo % 2 ^ n = 0) : X ||| V * 2 ^ lo = putN X lo n V := by
  apply Nat.eq_of_testBit_eq
  intro i
  rw [putN_testBit _ _ _ _ _ hX hln, Nat.testBit_or, ← Nat.shiftLeft_eq, Nat.testBit_shiftLeft]
  by_cases h1 : lo ≤ i ∧ i < lo + n
  · rw [if_pos h1, Z_bit hz i h1.1 h1.2]
    simp [h1.1]
  · rw [if_neg h1]
    by_cases h2 : lo ≤ i
    · have : V.testBit (i - lo) = false := Nat.testBit_lt_two_pow (Nat.lt_of_lt_of_le hV (Nat.pow_le_pow_right (by decide) (by omega)))
      simp [this]
    · simp [h2]
theorem putS_nat (X V : Int) (lo n : Nat) (hln : lo + n ≤ 32) (hn : 1 ≤ n) : putS X lo n V = ((putN X.toNat lo n V.toNat : Nat) : Int) := by
  unfold putS
  rw [if_pos (by omega)]
  simp
theorem or_put (X V : Int) (lo n : Nat) (hX : 0 ≤ X ∧ X < 4294967296) (h0 : 0 ≤ V) (hV : V.toNat < 2 ^ n) (hln : lo + n ≤ 32) (hn : 1 ≤ n) (hz : X.toNat / 2 ^ lo % 2 ^ n = 0) : bits .or .u32 X (V * ((2 ^ lo : Nat) : Int)) = putS X lo n V := by
  rw [putS_nat X V lo n hln hn, ← or_putN (by omega) hln hV hz]
  obtain ⟨x, rfl⟩ := Int.eq_ofNat_of_zero_le hX.1
  obtain ⟨v, rfl⟩ := Int.eq_ofNat_of_zero_le h0
  simp only [Int.toNat_natCast] at *
  have hb := part_lt lo n v hln
  rw [Nat.mod_eq_of_lt hV] at hb
  rw [← u32_or_nat x (v * 2 ^ lo) (by omega) hb, Int.natCast_mul]
theorem zput (X V : Int) (lo n lo2 n2 : Nat) (hX : 0 ≤ X ∧ X < 4294967296) (hln : lo + n ≤ 32) (hn : 1 ≤ n) (hd : lo2 + n2 ≤ lo ∨ lo + n ≤ lo2) (hz : X.toNat / 2 ^ lo2 % 2 ^ n2 = 0) : (putS X lo n V).toNat / 2 ^ lo2 % 2 ^ n2 = 0 := by
  rw [putS_nat X V lo n hln hn, Int.toNat_natCast]
  refine bit_Z fun i h1 h2 => ?_
  rw [putN_testBit _ _ _ _ _ (by omega) hln, if_neg (by omega)]
  exact Z_bit hz i h1 h2
theorem or_21_2 (X V : Int) (hX : 0 ≤ X ∧ X < 4294967296) (h0 : 0 ≤ V) (h1 : V < 4) (hz : X.toNat / 2 ^ 21 % 2 ^ 2 = 0) : bits .or .u32 X (V * 2097152) = putS X 21 2 V := by
  have h2 : V.toNat < 2 ^ 2 := by
    rw [show (2 : Nat) ^ 2 = 4 from by decide]
    omega
  have := or_put X V 21 2 hX h0 h2 (by decide) (by decide) hz
  simpa using this
theorem or_5_16 (X V : Int) (hX : 0 ≤ X ∧ X < 4294967296) (h0 : 0 ≤ V) (h1 : V < 65536) (hz : X.toNat / 2 ^ 5 % 2 ^ 16 = 0) : bits .or .u32 X (V * 32) = putS X 5 16 V := by
  have h2 : V.toNat < 2 ^ 16 := by
    rw [show (2 : Nat) ^ 16 = 65536 from by decide]
    omega
  have := or_put X V 5 16 hX h0 h2 (by decide) (by decide) hz
  simpa using this
theorem or_0_5 (X V : Int) (hX : 0 ≤ X ∧ X < 4294967296) (h0 : 0 ≤ V) (h1 : V < 32) (hz : X.toNat / 2 ^ 0 % 2 ^ 5 = 0) : bits .or .u32 X V = putS X 0 5 V := by
  have h2 : V.toNat < 2 ^ 5 := by
    rw [show (2 : Nat) ^ 5 = 32 from by decide]
    omega
  have := or_put X V 0 5 hX h0 h2 (by decide) (by decide) hz
  simpa using this
theorem or_10_12 (X V : Int) (hX : 0 ≤ X ∧ X < 4294967296) (h0 : 0 ≤ V) (h1 : V < 4096) (hz : X.toNat / 2 ^ 10 % 2 ^ 12 = 0) : bits .or .u32 X (V * 1024) = putS X 10 12 V := by
  have h2 : V.toNat < 2 ^ 12 := by
    rw [show (2 : Nat) ^ 12 = 4096 from by decide]
    omega
  have := or_put X V 10 12 hX h0 h2 (by decide) (by decide) hz
  simpa using this
theorem or_5_5 (X V : Int) (hX : 0 ≤ X ∧ X < 4294967296) (h0 : 0 ≤ V) (h1 : V < 32) (hz : X.toNat / 2 ^ 5 % 2 ^ 5 = 0) : bits .or .u32 X (V * 32) = putS X 5 5 V := by
  have h2 : V.toNat < 2 ^ 5 := by
    rw [show (2 : Nat) ^ 5 = 32 from by decide]
    omega
  have := or_put X V 5 5 hX h0 h2 (by decide) (by decide) hz
  simpa using this
theorem or_16_5 (X V : Int) (hX : 0 ≤ X ∧ X < 4294967296) (h0 : 0 ≤ V) (h1 : V < 32) (hz : X.toNat / 2 ^ 16 % 2 ^ 5 = 0) : bits .or .u32 X (V * 65536) = putS X 16 5 V := by
  have h2 : V.toNat < 2 ^ 5 := by
    rw [show (2 : Nat) ^ 5 = 32 from by decide]
    omega
  have := or_put X V 16 5 hX h0 h2 (by decide) (by decide) hz
  simpa using this
theorem or_10_5 (X V : Int) (hX : 0 ≤ X ∧ X < 4294967296) (h0 : 0 ≤ V) (h1 : V < 32) (hz : X.toNat / 2 ^ 10 % 2 ^ 5 = 0) : bits .or .u32 X (V * 1024) = putS X 10 5 V := by
  have h2 : V.toNat < 2 ^ 5 := by
    rw [show (2 : Nat) ^ 5 = 32 from by decide]
    omega
  have := or_put X V 10 5 hX h0 h2 (by decide) (by decide) hz
  simpa using this
theorem or_12_4 (X V : Int) (hX : 0 ≤ X ∧ X < 4294967296) (h0 : 0 ≤ V) (h1 : V < 16) (hz : X.toNat / 2 ^ 12 % 2 ^ 4 = 0) : bits .or .u32 X (V * 4096) = putS X 12 4 V := by
  have h2 : V.toNat < 2 ^ 4 := by
    rw [show (2 : Nat) ^ 4 = 16 from by decide]
    omega
  have := or_put X V 12 4 hX h0 h2 (by decide) (by decide) hz
  simpa using this
theorem or_0_4 (X V : Int) (hX : 0 ≤ X ∧ X < 4294967296) (h0 : 0 ≤ V) (h1 : V < 16) (hz : X.toNat / 2 ^ 0 % 2 ^ 4 = 0) : bits .or .u32 X V = putS X 0 4 V := by
  have h2 : V.toNat < 2 ^ 4 := by
    rw [show (2 : Nat) ^ 4 = 16 from by decide]
    omega
  have := or_put X V 0 4 hX h0 h2 (by decide) (by decide) hz
  simpa using this
theorem or_0_26 (X V : Int) (hX : 0 ≤ X ∧ X < 4294967296) (h0 : 0 ≤ V) (h1 : V < 67108864) (hz : X.toNat / 2 ^ 0 % 2 ^ 26 = 0) : bits .or .u32 X V = putS X 0 26 V := by
  have h2 : V.toNat < 2 ^ 26 := by
    rw [show (2 : Nat) ^ 26 = 67108864 from by decide]
    omega
  have := or_put X V 0 26 hX h0 h2 (by decide) (by decide) hz
  simpa using this
theorem or_5_19 (X V : Int) (hX : 0 ≤ X ∧ X < 4294967296) (h0 : 0 ≤ V) (h1 : V < 524288) (hz : X.toNat / 2 ^ 5 % 2 ^ 19 = 0) : bits .or .u32 X (V * 32) = putS X 5 19 V := by
  have h2 : V.toNat < 2 ^ 19 := by
    rw [show (2 : Nat) ^ 19 = 524288 from by decide]
    omega
  have := or_put X V 5 19 hX h0 h2 (by decide) (by decide) hz
  simpa using this
theorem or_0_16 (X V : Int) (hX : 0 ≤ X ∧ X < 4294967296) (h0 : 0 ≤ V) (h1 : V < 65536) (hz : X.toNat / 2 ^ 0 % 2 ^ 16 = 0) : bits .or .u32 X V = putS X 0 16 V := by
  have h2 : V.toNat < 2 ^ 16 := by
    rw [show (2 : Nat) ^ 16 = 65536 from by decide]
    omega
  have := or_put X V 0 16 hX h0 h2 (by decide) (by decide) hz
  simpa using this
theorem putS_mod (X V : Int) (lo n : Nat) (hln : lo + n ≤ 32) (hn : 1 ≤ n) (h0 : 0 ≤ V) : putS X lo n (V % ((2 ^ n : Nat) : Int)) = putS X lo n V := by
  rw [putS_nat _ _ _ _ hln hn, putS_nat _ _ _ _ hln hn]
  obtain ⟨v, rfl⟩ := Int.eq_ofNat_of_zero_le h0
  have : ((v : Int) % ((2 ^ n : Nat) : Int)).toNat = v % 2 ^ n := by first | rw [← Int.natCast_emod, Int.toNat_natCast] | rw [← Int.ofNat_emod, Int.toNat_natCast]
  rw [this]
  simp [putN]
theorem tdiv4 (i : Int) (h : i % 4 = 0) : i.tdiv 4 = i / 4 := by
  obtain ⟨j, rfl⟩ : ∃ j, i = 4 * j := ⟨i / 4, by omega⟩
  rw [Int.mul_tdiv_cancel_left j (by decide)]
  omega
theorem far_l (B i : Int) (hB : 0 ≤ B ∧ B < 4294967296) (hz : B.toNat / 2 ^ 0 % 2 ^ 26 = 0) (h : i % 4 = 0) : bits .or .u32 B (bits .and .u32 (i.tdiv 4 % 4294967296) 67108863) = putS B 0 26 (i / 4 % 4294967296) := by
  rw [tdiv4 i h]
  have ha := and_mask32 (i / 4 % 4294967296) 26 (by decide) (by omega) (by omega)
  rw [show ((2 : Int) ^ 26 - 1) = 67108863 from by decide, show ((2 : Int) ^ 26) = 67108864 from by decide] at ha
  rw [ha, or_0_26 B _ hB (by omega) (by omega) hz]
  have := putS_mod B (i / 4 % 4294967296) 0 26 (by decide) (by decide) (by omega)
  simpa using this
theorem near_l (B i : Int) (hB : 0 ≤ B ∧ B < 4294967296) (hz : B.toNat / 2 ^ 5 % 2 ^ 19 = 0) (h : i % 4 = 0) : bits .or .u32 B (bits .and .u32 (i.tdiv 4 % 4294967296) 524287 * 32 % 4294967296) = putS B 5 19 (i / 4 % 4294967296) := by
  rw [tdiv4 i h]
  have ha := and_mask32 (i / 4 % 4294967296) 19 (by decide) (by omega) (by omega)
  rw [show ((2 : Int) ^ 19 - 1) = 524287 from by decide, show ((2 : Int) ^ 19) = 524288 from by decide] at ha
  have hm : i / 4 % 4294967296 % 524288 * 32 % 4294967296 = i / 4 % 4294967296 % 524288 * 32 := by omega
  rw [ha, hm, or_5_19 B _ hB (by omega) (by omega) hz]
  have := putS_mod B (i / 4 % 4294967296) 5 19 (by decide) (by decide) (by omega)
  simpa using this
theorem put_zero (i : Int) (h : 0 ≤ i ∧ i ≤ 65535) : putS 0 0 16 i = i := by
  rw [← or_0_16 0 i (by decide) h.1 (by omega) (by decide)]
  obtain ⟨v, rfl⟩ := Int.eq_ofNat_of_zero_le h.1
  have := u32_or_nat 0 v (by decide) (by omega)
  simpa using this
end Go.Proofs.Ytnbpgoacooddjaa.En
