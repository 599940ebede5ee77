import Derived.WalkKit
import Derived.Laws.BitsAllLaws
namespace Go.Proofs.Ytnbpgoacooddjaa.Fr
end Go.Proofs.Ytnbpgoacooddjaa.Fr
namespace Go.Proofs.Ytnbpgoacooddjaa.En
open Go.Proofs.Ytnbpgoacooddjaa.Fr
open Go.RowKit
set_option linter.unusedVariables false

/-! ### Fields of words, as natural numbers -/
def putN (X lo n V : Nat) : Nat := (X &&& (4294967295 - (2 ^ n - 1) * 2 ^ lo)) ||| V % 2 ^ n * 2 ^ lo

theorem mask_shift_lt (lo n : Nat) (h : lo + n ≤ 32) : (2 ^ n - 1) * 2 ^ lo < 4294967296 := by
  have h1 : 0 < 2 ^ lo := Nat.pow_pos (by decide)
  have h3 : 0 < 2 ^ n := Nat.pow_pos (by decide)
  have h2 : 2 ^ n * 2 ^ lo ≤ 2 ^ 32 := by rw [← Nat.pow_add]; exact Nat.pow_le_pow_right (by decide) (by omega)
  rw [show (2 : Nat) ^ 32 = 4294967296 from rfl] at h2
  have h4 : (2 ^ n - 1) * 2 ^ lo = 2 ^ n * 2 ^ lo - 2 ^ lo := by rw [Nat.sub_mul, Nat.one_mul]
  rw [h4]; omega

theorem part_lt (lo n V : Nat) (h : lo + n ≤ 32) : V % 2 ^ n * 2 ^ lo < 4294967296 := by
  have h1 := Nat.mod_lt V (Nat.pow_pos (n := n) (show 0 < 2 by decide))
  have h2 := mask_shift_lt lo n h
  have h3 : V % 2 ^ n * 2 ^ lo ≤ (2 ^ n - 1) * 2 ^ lo := Nat.mul_le_mul_right _ (by omega)
  omega

theorem part_bits (lo n V : Nat) (h : lo + n ≤ 32) : (V * 2 ^ lo % 4294967296) &&& ((2 ^ n - 1) * 2 ^ lo) = V % 2 ^ n * 2 ^ lo := by
  rw [show (4294967296 : Nat) = 2 ^ 32 from rfl, ← Nat.shiftLeft_eq, ← Nat.shiftLeft_eq, ← Nat.shiftLeft_eq]
  apply Nat.eq_of_testBit_eq
  intro i
  rw [Nat.testBit_and, Nat.testBit_mod_two_pow, Nat.testBit_shiftLeft, Nat.testBit_shiftLeft, Nat.testBit_shiftLeft, Nat.testBit_two_pow_sub_one, Nat.testBit_mod_two_pow]
  by_cases h1 : lo ≤ i
  · by_cases h2 : i - lo < n
    · have h3 : i < 32 := by omega
      simp [h1, h2, h3]
    · simp [h2]
  · simp [h1]

theorem putN_testBit (X lo n V i : Nat) (hX : X < 4294967296) (h : lo + n ≤ 32) :
    (putN X lo n V).testBit i = if lo ≤ i ∧ i < lo + n then V.testBit (i - lo) else X.testBit i := by
  unfold putN
  have hM := mask_shift_lt lo n h
  have e : 4294967295 - (2 ^ n - 1) * 2 ^ lo = 2 ^ 32 - 1 - (2 ^ n - 1) * 2 ^ lo := rfl
  rw [e, Nat.testBit_or, Nat.testBit_and, ← Nat.shiftLeft_eq, ← Nat.shiftLeft_eq, Nat.testBit_shiftLeft, Nat.testBit_mod_two_pow]
  have hn : (2 ^ 32 - 1 - (2 ^ n - 1) <<< lo).testBit i = (decide (i < 32) && !((2 ^ n - 1) <<< lo).testBit i) := by
    have := Nat.testBit_two_pow_sub_succ (x := (2 ^ n - 1) <<< lo) (n := 32) (by rw [Nat.shiftLeft_eq]; exact hM) i
    rw [← this]; congr 1; omega
  rw [hn, Nat.testBit_shiftLeft, Nat.testBit_two_pow_sub_one]
  have hXi : ¬ i < 32 → X.testBit i = false := fun h32 => Nat.testBit_lt_two_pow (Nat.lt_of_lt_of_le hX (by
    rw [show (4294967296 : Nat) = 2 ^ 32 from rfl]; exact Nat.pow_le_pow_right (by decide) (by omega)))
  by_cases h1 : lo ≤ i
  · by_cases h2 : i - lo < n
    · have h3 : lo ≤ i ∧ i < lo + n := by omega
      have h4 : i < 32 := by omega
      simp [h1, h2, h3, h4]
    · have h3 : ¬ (lo ≤ i ∧ i < lo + n) := by omega
      rw [if_neg h3]
      by_cases h4 : i < 32
      · simp [h1, h2, h4]
      · simp [h2, h4, hXi h4]
  · have h3 : ¬ (lo ≤ i ∧ i < lo + n) := by omega
    rw [if_neg h3]
    have h4 : i < 32 := by omega
    simp [h1, h4]

theorem putN_lt (X lo n V : Nat) (hX : X < 4294967296) (h : lo + n ≤ 32) : putN X lo n V < 4294967296 := by
  unfold putN
  have h1 : X &&& (4294967295 - (2 ^ n - 1) * 2 ^ lo) < 2 ^ 32 := Nat.lt_of_le_of_lt Nat.and_le_left hX
  have h2 : V % 2 ^ n * 2 ^ lo < 2 ^ 32 := part_lt lo n V h
  exact Nat.or_lt_two_pow h1 h2

theorem field_putN (X lo n V : Nat) (hX : X < 4294967296) (h : lo + n ≤ 32) : putN X lo n V / 2 ^ lo % 2 ^ n = V % 2 ^ n := by
  apply Nat.eq_of_testBit_eq
  intro i
  rw [Nat.testBit_mod_two_pow, Nat.testBit_mod_two_pow, Nat.testBit_div_two_pow, putN_testBit _ _ _ _ _ hX h]
  by_cases h1 : i < n
  · have h2 : lo ≤ i + lo ∧ i + lo < lo + n := by omega
    rw [if_pos h2, Nat.add_sub_cancel]
  · simp [h1]

theorem putN_back (X lo n V : Nat) (hX : X < 4294967296) (h : lo + n ≤ 32) : putN (putN X lo n V) lo n (X / 2 ^ lo % 2 ^ n) = X := by
  apply Nat.eq_of_testBit_eq
  intro i
  rw [putN_testBit _ _ _ _ _ (putN_lt _ _ _ _ hX h) h]
  by_cases h1 : lo ≤ i ∧ i < lo + n
  · rw [if_pos h1, Nat.testBit_mod_two_pow, Nat.testBit_div_two_pow]
    have h2 : i - lo < n := by omega
    have h3 : i - lo + lo = i := by omega
    simp [h2, h3]
  · rw [if_neg h1, putN_testBit _ _ _ _ _ hX h, if_neg h1]

theorem pow_le32 (n : Nat) (h : n ≤ 32) : (2 : Int) ^ n ≤ 4294967296 := by
  have : 2 ^ n ≤ 2 ^ 32 := Nat.pow_le_pow_right (by decide) h
  rw [show (2 : Nat) ^ 32 = 4294967296 from rfl] at this
  have hc : (2 : Int) ^ n = ((2 ^ n : Nat) : Int) := by simp
  omega

theorem mask_cast (lo n : Nat) (h : lo + n ≤ 32) : ((2 : Int) ^ n - 1) * 2 ^ lo = (((2 ^ n - 1) * 2 ^ lo : Nat) : Int) := by
  have h3 : 0 < 2 ^ n := Nat.pow_pos (by decide)
  rw [Int.natCast_mul, Int.natCast_sub h3]; simp

theorem put_bits (X lo n V : Nat) (hX : X < 4294967296) (h : lo + n ≤ 32) :
    bits .or .u32 (bits .andNot .u32 (X : Int) (((2 : Int) ^ n - 1) * 2 ^ lo % 4294967296)) ((V : Int) % 2 ^ n * 2 ^ lo % 4294967296) = ((putN X lo n V : Nat) : Int) := by
  have h1 := mask_shift_lt lo n h
  have h2 := part_lt lo n V h
  have e2 : ((V : Int) % 2 ^ n * 2 ^ lo) = ((V % 2 ^ n * 2 ^ lo : Nat) : Int) := by simp
  rw [mask_cast lo n h, e2, Int.emod_eq_of_lt (by omega) (by omega), Int.emod_eq_of_lt (by omega) (by omega), u32_andNot_nat _ _ hX h1]
  have h4 : X &&& (4294967295 - (2 ^ n - 1) * 2 ^ lo) < 4294967296 := Nat.lt_of_le_of_lt Nat.and_le_left hX
  rw [u32_or_nat _ _ h4 h2]
  rfl

theorem put_ref (X lo n V : Nat) (hX : X < 4294967296) (h : lo + n ≤ 32) :
    bits .or .u32 (bits .andNot .u32 (X : Int) (IntKind.u64.wrap (((2 : Int) ^ n - 1) * 2 ^ lo) % 4294967296))
      (bits .and .u32 (IntKind.u64.wrap ((V : Int) * 2 ^ lo) % 4294967296) (IntKind.u64.wrap (((2 : Int) ^ n - 1) * 2 ^ lo) % 4294967296)) = ((putN X lo n V : Nat) : Int) := by
  have h1 := mask_shift_lt lo n h
  have h2 := part_lt lo n V h
  have e2 : IntKind.u64.wrap ((V : Int) * 2 ^ lo) % 4294967296 = ((V * 2 ^ lo % 4294967296 : Nat) : Int) := by
    rw [IntKind.wrap_u64]
    have : ((V : Int) * 2 ^ lo) = ((V * 2 ^ lo : Nat) : Int) := by simp
    rw [this]; omega
  have e1 : IntKind.u64.wrap (((2 : Int) ^ n - 1) * 2 ^ lo) % 4294967296 = (((2 ^ n - 1) * 2 ^ lo : Nat) : Int) := by
    rw [IntKind.wrap_u64, mask_cast lo n h]; omega
  rw [e1, e2, u32_andNot_nat _ _ hX h1, u32_and_nat _ _ (Nat.mod_lt _ (by decide)) h1, part_bits lo n V h]
  have h4 : X &&& (4294967295 - (2 ^ n - 1) * 2 ^ lo) < 4294967296 := Nat.lt_of_le_of_lt Nat.and_le_left hX
  rw [u32_or_nat _ _ h4 h2]
  rfl
end Go.Proofs.Ytnbpgoacooddjaa.En
