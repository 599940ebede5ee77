import Derived.WalkKit
import Derived.Laws.BitsAllLaws
namespace Go.Proofs.Ytnbpgoacooddjaa.Fr
end Go.Proofs.Ytnbpgoacooddjaa.Fr
namespace Go.Proofs.Ytnbpgoacooddjaa.En
open Go.Proofs.Ytnbpgoacooddjaa.Fr
open Go.RowKit
set_option linter.unusedVariables false

/-! ### Shifts -/
def sgn (a : Int) : Int := if a < 9223372036854775808 then a else a - 18446744073709551616

def shS (k a : Int) (n : Nat) : Int :=
  if k = 0 then a * 2 ^ n % 18446744073709551616 else if k = 1 then a / 2 ^ n else if k = 2 then sgn a / 2 ^ n % 18446744073709551616 else a

theorem pow_pos' (n : Nat) : (0 : Int) < 2 ^ n := Int.pow_pos (by decide)

theorem sgn_range (a : Int) (h : 0 ≤ a) (h' : a < 18446744073709551616) : -9223372036854775808 ≤ sgn a ∧ sgn a < 9223372036854775808 := by
  unfold sgn; split <;> omega

theorem sdiv_range (t d : Int) (hd : 0 < d) (h : -9223372036854775808 ≤ t) (h' : t < 9223372036854775808) : -9223372036854775808 ≤ t / d ∧ t / d < 9223372036854775808 :=
  ⟨Int.le_ediv_of_mul_le hd (by omega), Int.ediv_lt_of_lt_mul hd (by omega)⟩

theorem sgn_mod (t : Int) (h : -9223372036854775808 ≤ t) (h' : t < 9223372036854775808) : sgn (t % 18446744073709551616) = t := by
  unfold sgn; split <;> omega

theorem udiv_range (t d : Int) (hd : 0 < d) (h : 0 ≤ t) (h' : t < 18446744073709551616) : 0 ≤ t / d ∧ t / d < 18446744073709551616 :=
  ⟨Int.ediv_nonneg h (Int.le_of_lt hd), Int.ediv_lt_of_lt_mul hd (by omega)⟩

theorem shS_range (k a : Int) (n : Nat) (h : 0 ≤ a) (h' : a < 18446744073709551616) : 0 ≤ shS k a n ∧ shS k a n < 18446744073709551616 := by
  unfold shS
  have := udiv_range a (2 ^ n) (pow_pos' n) h h'
  split
  · omega
  · split
    · exact this
    · split
      · omega
      · exact ⟨h, h'⟩

theorem shS_zero (k a : Int) (h : 0 ≤ a) (h' : a < 18446744073709551616) : shS k a 0 = a := by
  unfold shS sgn
  simp only [Int.pow_zero, Int.mul_one, Int.ediv_one]
  repeat' split
  all_goals omega

theorem shS_add (k a : Int) (m n : Nat) (h : 0 ≤ a) (h' : a < 18446744073709551616) : shS k (shS k a m) n = shS k a (m + n) := by
  unfold shS
  by_cases h0 : k = 0
  · rw [if_pos h0, if_pos h0, if_pos h0, Int.mul_emod, Int.emod_emod_of_dvd _ (Int.dvd_refl _), ← Int.mul_emod, Int.mul_assoc, ← Int.pow_add]
  · by_cases h1 : k = 1
    · rw [if_neg h0, if_pos h1, if_neg h0, if_pos h1, if_neg h0, if_pos h1, Int.pow_add, Int.ediv_ediv_of_nonneg (Int.le_of_lt (pow_pos' m))]
    · by_cases h2 : k = 2
      · rw [if_neg h0, if_neg h1, if_pos h2, if_neg h0, if_neg h1, if_pos h2, if_neg h0, if_neg h1, if_pos h2]
        have hs := sgn_range a h h'
        have hd := sdiv_range (sgn a) (2 ^ m) (pow_pos' m) hs.1 hs.2
        rw [sgn_mod _ hd.1 hd.2, Int.pow_add, Int.ediv_ediv_of_nonneg (Int.le_of_lt (pow_pos' m))]
      · rw [if_neg h0, if_neg h1, if_neg h2, if_neg h0, if_neg h1, if_neg h2, if_neg h0, if_neg h1, if_neg h2]

theorem wrap64_sgn (a : Int) (h : 0 ≤ a) (h' : a < 18446744073709551616) : wrap64 a = sgn a := by
  unfold wrap64 sgn; split <;> omega

/-! ### 'and 63' -/
theorem and63 (b : Int) (h : 0 ≤ b) (h' : b < 18446744073709551616) : bits .and .u64 b 63 = b % 64 := by
  rw [u64_and b 63 h h' (by decide) (by decide)]
  have : (63 : Int).toNat = 2 ^ 6 - 1 := rfl
  rw [this, Nat.and_two_pow_sub_one_eq_mod]
  omega

/-! ### Long division -/
theorem or_step (r b : Nat) (hr : r < 18446744073709551616) (hb : b < 2) :
    bits .or .u64 (((r * 2) % 18446744073709551616 : Nat) : Int) (b : Int) = (((2 * r + b) % 18446744073709551616 : Nat) : Int) := by
  rw [u64_or_nat _ _ (Nat.mod_lt _ (by decide)) (by omega)]
  rw [nat_join 1 (r * 2 % 18446744073709551616) b (by omega) (by omega)]
  congr 1
  omega

theorem or_bit (q j : Nat) (hj : j < 64) (hq : q * 2 ^ (j + 1) < 18446744073709551616) :
    bits .or .u64 ((q * 2 ^ (j + 1) : Nat) : Int) ((2 ^ j : Nat) : Int) = (((2 * q + 1) * 2 ^ j : Nat) : Int) := by
  have hp : 2 ^ j < 18446744073709551616 := Nat.lt_of_lt_of_le (Nat.pow_lt_pow_right (by decide) hj) (by decide)
  rw [u64_or_nat _ _ hq hp]
  rw [nat_join (j + 1) _ _ (Nat.mul_mod_left _ _) (Nat.pow_lt_pow_right (by decide) (by omega))]
  rw [Nat.add_mul, Nat.pow_succ]
  congr 1
  have : q * (2 ^ j * 2) = 2 * q * 2 ^ j := by rw [Nat.mul_comm (2 ^ j) 2, ← Nat.mul_assoc, Nat.mul_comm q 2]
  omega

theorem half_step (X j : Nat) : X / 2 ^ j = 2 * (X / 2 ^ (j + 1)) + X / 2 ^ j % 2 := by
  rw [Nat.pow_succ, ← Nat.div_div_eq_div_mul]; omega

theorem div_step (A b Y : Nat) (hY : 0 < Y) (hb : b < 2) :
    (2 * A + b) / Y = 2 * (A / Y) + (if Y ≤ 2 * (A % Y) + b then 1 else 0) ∧ (2 * A + b) % Y = 2 * (A % Y) + b - (if Y ≤ 2 * (A % Y) + b then Y else 0) := by
  have hm := Nat.mod_lt A hY
  have hA : A = Y * (A / Y) + A % Y := (Nat.div_add_mod A Y).symm
  generalize A / Y = Q at *
  generalize A % Y = r at *
  subst hA
  split
  · have e : 2 * (Y * Q + r) + b = (2 * r + b - Y) + Y * (2 * Q + 1) := by
      rw [Nat.mul_add, Nat.mul_add, Nat.mul_one, ← Nat.mul_assoc, ← Nat.mul_assoc, Nat.mul_comm 2 Y]; omega
    rw [e, Nat.add_mul_div_left _ _ hY, Nat.add_mul_mod_self_left, Nat.div_eq_of_lt (by omega), Nat.mod_eq_of_lt (by omega)]
    omega
  · have e : 2 * (Y * Q + r) + b = (2 * r + b) + Y * (2 * Q) := by
      rw [Nat.mul_add, ← Nat.mul_assoc, ← Nat.mul_assoc, Nat.mul_comm 2 Y]; omega
    rw [e, Nat.add_mul_div_left _ _ hY, Nat.add_mul_mod_self_left, Nat.div_eq_of_lt (by omega), Nat.mod_eq_of_lt (by omega)]
    omega

def divS (a b : Int) : Int := if b = 0 then 0 else wrap64 (a.tdiv b)

theorem divS_pp (X Y : Nat) (hY : 0 < Y) : divS (X : Int) (Y : Int) = wrap64 ((X / Y : Nat) : Int) := by
  unfold divS; rw [if_neg (by omega)]; rfl
theorem divS_np (X Y : Nat) (hY : 0 < Y) : divS (-(X : Int)) (Y : Int) = wrap64 (-((X / Y : Nat) : Int)) := by
  unfold divS; rw [if_neg (by omega), Int.neg_tdiv]; rfl
theorem divS_pn (X Y : Nat) (hY : 0 < Y) : divS (X : Int) (-(Y : Int)) = wrap64 (-((X / Y : Nat) : Int)) := by
  unfold divS; rw [if_neg (by omega), Int.tdiv_neg]; rfl
theorem divS_nn (X Y : Nat) (hY : 0 < Y) : divS (-(X : Int)) (-(Y : Int)) = wrap64 ((X / Y : Nat) : Int) := by
  unfold divS; rw [if_neg (by omega), Int.tdiv_neg, Int.neg_tdiv, Int.neg_neg]; rfl

theorem and_top (x : Int) (h : 0 ≤ x) (h' : x < 18446744073709551616) : bits .and .u64 x 9223372036854775808 = x / 9223372036854775808 * 9223372036854775808 := by
  rw [u64_and x _ h h' (by decide) (by decide)]
  have : (9223372036854775808 : Int).toNat = 2 ^ 63 := rfl
  rw [this, nat_bit]
  omega

theorem sar_one (x : Int) (h : 0 ≤ x) (h' : x < 18446744073709551616) :
    bits .or .u64 (x / 2) (bits .and .u64 x 9223372036854775808) = shS 2 x 1 := by
  rw [and_top x h h', u64_or _ _ (by omega) (by omega) (by omega) (by omega)]
  rw [Nat.or_comm, nat_join 63 _ _ (by omega) (by omega)]
  unfold shS sgn
  rw [if_neg (by decide), if_neg (by decide), if_pos rfl]
  split <;> simp <;> omega

theorem step_shl (a : Int) (j : Nat) (h : 0 ≤ a) (h' : a < 18446744073709551616) : IntKind.u64.wrap (shS 0 a j * 2) = shS 0 a (j + 1) := by
  rw [← shS_add 0 a j 1 h h', IntKind.wrap_u64]; unfold shS; simp
theorem step_shr (a : Int) (j : Nat) (h : 0 ≤ a) (h' : a < 18446744073709551616) : shS 1 a j / 2 = shS 1 a (j + 1) := by
  rw [← shS_add 1 a j 1 h h']; unfold shS; simp
theorem step_sar (a : Int) (j : Nat) (h : 0 ≤ a) (h' : a < 18446744073709551616) :
    bits .or .u64 (shS 2 a j / 2) (bits .and .u64 (shS 2 a j) 9223372036854775808) = shS 2 a (j + 1) := by
  rw [← shS_add 2 a j 1 h h', sar_one _ (shS_range 2 a j h h').1 (shS_range 2 a j h h').2]
theorem step_oth (k a : Int) (j : Nat) (h0 : ¬ k = 0) (h1 : ¬ k = 1) (h2 : ¬ k = 2) : shS k a j = shS k a (j + 1) := by
  unfold shS; simp [h0, h1, h2]

/-! ### Masks and fields -/
theorem and_mask (x : Int) (n : Nat) (hn : n ≤ 64) (h : 0 ≤ x) (h' : x < 18446744073709551616) : bits .and .u64 x ((2 : Int) ^ n - 1) = x % 2 ^ n := by
  have hp : (2 : Int) ^ n = ((2 ^ n : Nat) : Int) := by simp
  have hl : 2 ^ n ≤ 2 ^ 64 := Nat.pow_le_pow_right (by decide) hn
  rw [show (2 : Nat) ^ 64 = 18446744073709551616 from rfl] at hl
  have hpos : 0 < 2 ^ n := Nat.pow_pos (by decide)
  rw [u64_and x _ h h' (by omega) (by omega)]
  have : ((2 : Int) ^ n - 1).toNat = 2 ^ n - 1 := by omega
  rw [this, Nat.and_two_pow_sub_one_eq_mod, hp, Int.natCast_emod, Int.toNat_of_nonneg h]

theorem and_mask32 (x : Int) (n : Nat) (hn : n ≤ 32) (h : 0 ≤ x) (h' : x < 4294967296) : bits .and .u32 x ((2 : Int) ^ n - 1) = x % 2 ^ n := by
  have hp : (2 : Int) ^ n = ((2 ^ n : Nat) : Int) := by simp
  have hl : 2 ^ n ≤ 2 ^ 32 := Nat.pow_le_pow_right (by decide) hn
  rw [show (2 : Nat) ^ 32 = 4294967296 from rfl] at hl
  have hpos : 0 < 2 ^ n := Nat.pow_pos (by decide)
  rw [u32_and x _ h h' (by omega) (by omega)]
  have : ((2 : Int) ^ n - 1).toNat = 2 ^ n - 1 := by omega
  rw [this, Nat.and_two_pow_sub_one_eq_mod, hp, Int.natCast_emod, Int.toNat_of_nonneg h]

/-! ### The round of the long division -/
def DivRel (X Y j : Nat) (q r : Int) : Prop := q = ((X / 2 ^ j / Y * 2 ^ j : Nat) : Int) ∧ r = ((X / 2 ^ j % Y : Nat) : Int)

theorem DivRel.start (X Y : Nat) (hX : X < 18446744073709551616) : DivRel X Y 64 0 0 := by
  have : X / 2 ^ 64 = 0 := Nat.div_eq_of_lt (by simpa using hX)
  unfold DivRel; rw [this]; simp

theorem DivRel.last (X Y : Nat) (q r : Int) (h : DivRel X Y 0 q r) : q = ((X / Y : Nat) : Int) := by
  unfold DivRel at h; simp at h; simpa using h.1

theorem DivRel.rb (X Y j : Nat) (q r : Int) (h : DivRel X Y j q r) (hY : 0 < Y) : 0 ≤ r ∧ r < (Y : Int) := by
  have := Nat.mod_lt (X / 2 ^ j) hY
  rw [h.2]; omega

theorem DivRel.qb (X Y j : Nat) (q r : Int) (h : DivRel X Y j q r) : 0 ≤ q ∧ q ≤ (X : Int) := by
  have h1 : X / 2 ^ j / Y * 2 ^ j ≤ X := Nat.le_trans (Nat.mul_le_mul_right _ (Nat.div_le_self _ _)) (Nat.div_mul_le_self _ _)
  rw [h.1]; omega

theorem and_one (x : Nat) (h : x < 18446744073709551616) : bits .and .u64 (x : Int) 1 = ((x % 2 : Nat) : Int) := by
  have := u64_and_nat x 1 h (by decide)
  rw [nat_mask1] at this
  exact this

theorem div_round (X Y j : Nat) (hY : 0 < Y) (hX : X < 18446744073709551616) (hY' : Y < 18446744073709551616) (hj : j < 64) (q r : Int) (h : DivRel X Y (j + 1) q r) :
    ∃ t : Int, bits .or .u64 (IntKind.u64.wrap (r * 2)) (bits .and .u64 ((X : Int) / 2 ^ j) 1) = t ∧ (0 ≤ t ∧ t < 18446744073709551616) ∧
      ((r / 9223372036854775808 = 1 ∨ (Y : Int) ≤ t) → DivRel X Y j (bits .or .u64 q (IntKind.u64.wrap (2 ^ j))) (IntKind.u64.wrap (t - Y))) ∧
      (¬ (r / 9223372036854775808 = 1 ∨ (Y : Int) ≤ t) → DivRel X Y j q t) := by
  have hrb := h.rb _ _ _ _ _ hY
  have hqb := h.qb
  obtain ⟨hq, hr⟩ := h
  have hp : 2 ^ j < 18446744073709551616 := Nat.lt_of_lt_of_le (Nat.pow_lt_pow_right (by decide) hj) (by decide)
  have hpp : 0 < 2 ^ j := Nat.pow_pos (by decide)
  have hXj : X / 2 ^ j < 18446744073709551616 := Nat.lt_of_le_of_lt (Nat.div_le_self _ _) hX
  have e1 : ((X : Int) / 2 ^ j) = ((X / 2 ^ j : Nat) : Int) := by simp
  have ew : IntKind.u64.wrap ((2 : Int) ^ j) = ((2 ^ j : Nat) : Int) := by
    have : ((2 : Int) ^ j) = ((2 ^ j : Nat) : Int) := by simp
    rw [IntKind.wrap_u64, this]; omega
  rw [e1, and_one _ hXj]
  have hs := half_step X j
  have hd := div_step (X / 2 ^ (j + 1)) (X / 2 ^ j % 2) Y hY (by omega)
  rw [← hs] at hd
  obtain ⟨d1, d2⟩ := hd
  have hqs : q = ((X / 2 ^ (j + 1) / Y * 2 ^ (j + 1) : Nat) : Int) := hq
  generalize hA : X / 2 ^ (j + 1) / Y = Q at *
  generalize hR : X / 2 ^ (j + 1) % Y = R at *
  generalize hB : X / 2 ^ j % 2 = b at *
  have hb : b < 2 := by omega
  have e2 : IntKind.u64.wrap (r * 2) = ((R * 2 % 18446744073709551616 : Nat) : Int) := by rw [hr, IntKind.wrap_u64]; omega
  rw [e2, or_step R b (by omega) hb]
  refine ⟨_, rfl, by omega, ?_, ?_⟩
  · intro hc
    have hle : Y ≤ 2 * R + b := by omega
    rw [if_pos hle] at d1 d2
    refine ⟨?_, ?_⟩
    · rw [d1, ew, hqs, or_bit Q j hj (by omega)]
    · rw [d2, IntKind.wrap_u64]; omega
  · intro hc
    have hle : ¬ Y ≤ 2 * R + b := by omega
    rw [if_neg hle] at d1 d2
    refine ⟨?_, ?_⟩
    · rw [d1, hqs, Nat.pow_succ, Nat.add_zero]; congr 1
      rw [Nat.mul_comm (2 ^ j) 2, ← Nat.mul_assoc, Nat.mul_comm Q 2]
    · rw [d2]; omega
end Go.Proofs.Ytnbpgoacooddjaa.En
