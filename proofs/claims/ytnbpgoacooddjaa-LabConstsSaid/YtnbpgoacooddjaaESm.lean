import Derived.Test.YtnbpgoacooddjaaEMa
namespace Go.Proofs.Ytnbpgoacooddjaa.Fr
end Go.Proofs.Ytnbpgoacooddjaa.Fr
namespace Go.Proofs.Ytnbpgoacooddjaa.En
open Go.Proofs.Ytnbpgoacooddjaa.Fr
open Go.RowKit
set_option linter.unusedVariables false

def sextS (x : Int) (n : Nat) : Int := if x % 2 ^ n < 2 ^ (n - 1) then x % 2 ^ n else x % 2 ^ n - 2 ^ n

theorem pows (n : Nat) (h1 : 1 ≤ n) (h2 : n ≤ 64) : (2 : Int) ^ n = 2 * 2 ^ (n - 1) ∧ (2 : Int) ^ n * 2 ^ (64 - n) = 18446744073709551616 ∧ (2 : Int) ^ (n - 1) * 2 ^ (64 - n) = 9223372036854775808 := by
  refine ⟨?_, ?_, ?_⟩
  · obtain ⟨m, rfl⟩ : ∃ m, n = m + 1 := ⟨n - 1, by omega⟩
    rw [Int.pow_succ, Int.mul_comm]; simp
  · rw [← Int.pow_add, show n + (64 - n) = 64 by omega]; decide
  · rw [← Int.pow_add, show n - 1 + (64 - n) = 63 by omega]; decide

theorem sextS_range (x : Int) (n : Nat) (h1 : 1 ≤ n) (h2 : n ≤ 64) : -(2 ^ (n - 1)) ≤ sextS x n ∧ sextS x n < 2 ^ (n - 1) := by
  obtain ⟨p1, _, _⟩ := pows n h1 h2
  have hp := pow_pos' (n - 1)
  have h3 := Int.emod_nonneg x (show (2 : Int) ^ n ≠ 0 by omega)
  have h4 := Int.emod_lt_of_pos x (show (0 : Int) < 2 ^ n by omega)
  unfold sextS
  split <;> omega

theorem sext_bits (x : Int) (n : Nat) (h1 : 1 ≤ n) (h2 : n ≤ 64) (hx : 0 ≤ x) : wrap64 (IntKind.u64.wrap (x * 2 ^ (64 - n))) / 2 ^ (64 - n) = sextS x n := by
  obtain ⟨p1, p2, p3⟩ := pows n h1 h2
  have hp := pow_pos' (n - 1)
  have hk := pow_pos' (64 - n)
  have h3 := Int.emod_nonneg x (show (2 : Int) ^ n ≠ 0 by omega)
  have h4 := Int.emod_lt_of_pos x (show (0 : Int) < 2 ^ n by omega)
  have e : x * 2 ^ (64 - n) % 18446744073709551616 = x % 2 ^ n * 2 ^ (64 - n) := by
    rw [← p2, Int.mul_comm x, Int.mul_comm ((2 : Int) ^ n), Int.mul_emod_mul_of_pos _ _ hk, Int.mul_comm]
  rw [IntKind.wrap_u64, e]
  unfold sextS
  generalize x % 2 ^ n = u at *
  generalize (2 : Int) ^ (64 - n) = K at *
  generalize (2 : Int) ^ (n - 1) = H at *
  generalize (2 : Int) ^ n = N at *
  have hu0 : 0 ≤ u * K := Int.mul_nonneg h3 (by omega)
  have hu1 : u * K < N * K := Int.mul_lt_mul_of_pos_right h4 hk
  by_cases hc : u < H
  · have hl : u * K < H * K := Int.mul_lt_mul_of_pos_right hc hk
    rw [if_pos hc, wrap64_sgn _ hu0 (by omega)]
    unfold sgn
    rw [if_pos (by omega), Int.mul_ediv_cancel _ (by omega)]
  · have hl : H * K ≤ u * K := Int.mul_le_mul_of_nonneg_right (by omega) (by omega)
    rw [if_neg hc, wrap64_sgn _ hu0 (by omega)]
    unfold sgn
    rw [if_neg (by omega)]
    have e2 : u * K - 18446744073709551616 = (u - N) * K := by rw [Int.sub_mul]; omega
    rw [e2, Int.mul_ediv_cancel _ (by omega)]

theorem top_bit (u : Int) (n : Nat) (h1 : 1 ≤ n) (h2 : n ≤ 64) (h3 : 0 ≤ u) (h4 : u < 2 ^ n) : (u / 2 ^ (n - 1) = 1) ↔ ¬ u < 2 ^ (n - 1) := by
  obtain ⟨p1, _, _⟩ := pows n h1 h2
  have hp := pow_pos' (n - 1)
  generalize (2 : Int) ^ (n - 1) = H at *
  constructor
  · intro h hc
    rw [Int.ediv_eq_zero_of_lt h3 hc] at h; omega
  · intro h
    have a1 : 1 ≤ u / H := Int.le_ediv_of_mul_le hp (by omega)
    have a2 : u / H < 2 := Int.ediv_lt_of_lt_mul hp (by omega)
    omega

def fitsS (v : Int) (n : Nat) : Bool := decide (-(2 ^ (n - 1)) ≤ v ∧ v < 2 ^ (n - 1))

theorem fits_sext (v : Int) (n : Nat) (h1 : 1 ≤ n) (h2 : n ≤ 64) : (sextS (v % 18446744073709551616) n == v) = fitsS v n := by
  obtain ⟨p1, p2, p3⟩ := pows n h1 h2
  have hr := sextS_range (v % 18446744073709551616) n h1 h2
  have hk := pow_pos' (64 - n)
  have hp := pow_pos' (n - 1)
  have em : v % 18446744073709551616 % 2 ^ n = v % 2 ^ n := Int.emod_emod_of_dvd v ⟨2 ^ (64 - n), p2.symm⟩
  have h3 := Int.emod_nonneg v (show (2 : Int) ^ n ≠ 0 by omega)
  have h4 := Int.emod_lt_of_pos v (show (0 : Int) < 2 ^ n by omega)
  unfold fitsS
  rw [Bool.eq_iff_iff, beq_iff_eq, decide_eq_true_eq]
  constructor
  · intro h; rw [h] at hr; exact hr
  · intro ⟨g1, g2⟩
    unfold sextS
    rw [em]
    by_cases hv : 0 ≤ v
    · have : v % 2 ^ n = v := Int.emod_eq_of_lt hv (by omega)
      rw [this, if_pos g2]
    · have : v % 2 ^ n = v + 2 ^ n := by
        rw [← Int.add_emod_right, Int.emod_eq_of_lt (by omega) (by omega)]
      rw [this, if_neg (by omega)]; omega

theorem not_i64 (x : Int) (h : -9223372036854775808 ≤ x) (h' : x < 9223372036854775808) : bits .xor .i64 (-1) x = -1 - x := by
  have hm : BitVec.ofInt 64 (-1 : Int) = BitVec.allOnes 64 := by decide
  show IntKind.i64.wrap ((BitVec.ofInt 64 (-1) ^^^ BitVec.ofInt 64 x).toNat : Int) = _
  rw [hm, BitVec.allOnes_xor, BitVec.toNat_not, BitVec.toNat_ofInt, IntKind.wrap_i64, show (2 : Nat) ^ 64 = 18446744073709551616 from rfl]
  omega
end Go.Proofs.Ytnbpgoacooddjaa.En
