import Derived.Test.YtnbpgoacooddjaaEGd
import Derived.Test.YtnbpgoacooddjaaEDk
import Derived.Test.YtnbpgoacooddjaaEDl
namespace Go.Proofs.Ytnbpgoacooddjaa.Fr
end Go.Proofs.Ytnbpgoacooddjaa.Fr
namespace Go.Proofs.Ytnbpgoacooddjaa.En
open Go.Proofs.Ytnbpgoacooddjaa.Fr
open Go.ChangeShapes Go.WideShapes Go.ChangeAt Go.RowKit
set_option linter.unusedVariables false
/-! ### Masks and bits -/
theorem and_nat (x M C : Int) (hx : 0 ≤ x) (hx' : x < 4294967296) (h1 : 0 ≤ M) (h2 : M < 4294967296) (hC : 0 ≤ C) : bits .and .u32 x M = C ↔ x.toNat &&& M.toNat = C.toNat := by
  rw [u32_and x M hx hx' h1 h2]
  constructor
  · intro h; omega
  · intro h; omega
theorem bit_of (x M C : Int) (k : Nat) (hx : 0 ≤ x) (hx' : x < 4294967296) (hh : decide (0 ≤ M) && decide (M < 4294967296) && decide (0 ≤ C) && M.toNat.testBit k = true) (h : bits .and .u32 x M = C) : x.toNat.testBit k = C.toNat.testBit k := by
  simp only [Bool.and_eq_true, decide_eq_true_eq] at hh
  obtain ⟨⟨⟨h1, h2⟩, h3⟩, h4⟩ := hh
  have := congrArg (fun z : Nat => z.testBit k) ((and_nat x M C hx hx' h1 h2 h3).1 h)
  simp only [Nat.testBit_and, h4, Bool.and_true] at this
  exact this
theorem high_bit (z : Nat) (h : z < 4294967296) (i : Nat) (hi : ¬ i < 32) : z.testBit i = false := by
  have h2 : (2 : Nat) ^ 32 ≤ 2 ^ i := Nat.pow_le_pow_right (by decide) (by omega)
  have h3 : (2 : Nat) ^ 32 = 4294967296 := rfl
  exact Nat.testBit_lt_two_pow (by omega)
def mc (M C : Int) : Bool := decide (0 ≤ M) && decide (M < 4294967296) && decide (0 ≤ C) && decide (C < 4294967296) && decide (C.toNat &&& M.toNat = C.toNat)
/-- A mask and one bit say that a word agrees with an op's base. -/
theorem mask_of (x M C : Int) (hx : 0 ≤ x) (hx' : x < 4294967296) (hh : mc M C = true) (h : ∀ i, i < 32 → M.toNat.testBit i = true → x.toNat.testBit i = C.toNat.testBit i) : bits .and .u32 x M = C := by
  unfold mc at hh
  simp only [Bool.and_eq_true, decide_eq_true_eq] at hh
  obtain ⟨⟨⟨⟨h1, h2⟩, h3⟩, h4⟩, h5⟩ := hh
  refine (and_nat x M C hx hx' h1 h2 h3).2 ?_
  apply Nat.eq_of_testBit_eq
  intro i
  rw [Nat.testBit_and]
  by_cases hi : i < 32
  · rcases hm : M.toNat.testBit i
    · have := congrArg (fun z : Nat => z.testBit i) h5
      simp only [Nat.testBit_and, hm, Bool.and_false] at this
      rw [Bool.and_false]; exact this
    · rw [h i hi hm, Bool.and_true]
  · rw [high_bit M.toNat (by omega) i hi, high_bit C.toNat (by omega) i hi, Bool.and_false]
/-- The mask of an op. -/
def maskOk (o : Nat) (M C : Int) (p : Nat → Bool) : Bool := mc M C && (List.range 32).all fun i => (outside (posL.getD o []) i == (M.toNat.testBit i || p i)) && (!M.toNat.testBit i || ((baseL.getD o 0).toNat.testBit i == C.toNat.testBit i))
theorem mask_agree (o : Nat) (x M C : Int) (p : Nat → Bool) (hx : 0 ≤ x) (hx' : x < 4294967296) (hk : maskOk o M C p = true) (h : bits .and .u32 x M = C) (hp : ∀ i, i < 32 → p i = true → x.toNat.testBit i = (baseL.getD o 0).toNat.testBit i) : Agree o x := by
  unfold maskOk at hk
  rw [Bool.and_eq_true, List.all_eq_true] at hk
  obtain ⟨hh, hk⟩ := hk
  intro i hi ho
  have hki := hk i (by simpa using hi)
  simp only [ho, Bool.and_eq_true, beq_iff_eq, Bool.or_eq_true, Bool.not_eq_true'] at hki
  obtain ⟨k1, k2⟩ := hki
  rcases hm : M.toNat.testBit i
  · rw [hm, Bool.false_or] at k1
    exact hp i hi k1.symm
  · rcases k2 with k2 | k2
    · rw [hm] at k2; cases k2
    · rw [k2]
      refine bit_of x M C i hx hx' ?_ h
      unfold mc at hh
      simp only [Bool.and_eq_true, decide_eq_true_eq] at hh ⊢
      exact ⟨⟨⟨hh.1.1.1.1, hh.1.1.1.2⟩, hh.1.1.2⟩, hm⟩
theorem agree_mask (o : Nat) (x M C : Int) (p : Nat → Bool) (hx : 0 ≤ x) (hx' : x < 4294967296) (hk : maskOk o M C p = true) (h : Agree o x) : bits .and .u32 x M = C := by
  unfold maskOk at hk
  rw [Bool.and_eq_true, List.all_eq_true] at hk
  obtain ⟨hh, hk⟩ := hk
  refine mask_of x M C hx hx' hh fun i hi hm => ?_
  have hki := hk i (by simpa using hi)
  simp only [hm, Bool.and_eq_true, beq_iff_eq, Bool.or_eq_true, Bool.not_eq_true', Bool.true_or] at hki
  obtain ⟨k1, k2⟩ := hki
  rcases k2 with k2 | k2
  · cases k2
  · rw [← k2]; exact h i hi k1
def noP : Nat → Bool := fun _ => false
theorem mask_agree0 (o : Nat) (x M : Int) (hx : 0 ≤ x) (hx' : x < 4294967296) (hk : maskOk o M (baseL.getD o 0) noP = true) (h : bits .and .u32 x M = baseL.getD o 0) : Agree o x :=
  mask_agree o x M _ noP hx hx' hk h fun i hi hp => by cases hp
theorem bit_fd (x : Int) (k : Nat) (hx : 0 ≤ x) : x.toNat.testBit k = decide (fd x k 1 = 1) := by
  rw [fd_nat x k 1 hx, Nat.testBit_eq_decide_div_mod_eq]
  simp only [show (2 : Nat) ^ 1 = 2 from rfl]
  congr 1
  apply propext
  omega
theorem mask_agree1 (o : Nat) (x M C : Int) (k : Nat) (b : Int) (hx : 0 ≤ x) (hx' : x < 4294967296) (hk : maskOk o M C (fun i => i == k) = true) (hb : (baseL.getD o 0).toNat.testBit k = decide (b = 1)) (h : bits .and .u32 x M = C) (hf : fd x k 1 = b) : Agree o x :=
  mask_agree o x M C _ hx hx' hk h fun i hi hp => by
    have : i = k := by simpa using hp
    subst this
    rw [bit_fd x i hx, hb, hf]
theorem fd1_or (x : Int) (k : Nat) : fd x k 1 = 0 ∨ fd x k 1 = 1 := by
  have : 0 ≤ fd x k 1 ∧ fd x k 1 < 2 := fd_range x k 1
  omega
theorem and1_fd (x : Int) (k : Nat) (hx : 0 ≤ x) (hx' : x < 4294967296) : bits .and .u32 (x / 2 ^ k) 1 = fd x k 1 := by
  have hq0 : 0 ≤ x / 2 ^ k := Int.ediv_nonneg hx (Int.le_of_lt (pow_pos' k))
  have hq1 : x / 2 ^ k ≤ x := Int.ediv_le_self _ hx
  rw [u32_and _ _ hq0 (by omega) (by decide) (by decide)]
  unfold fd
  generalize x / 2 ^ k = y at hq0
  obtain ⟨Y, rfl⟩ := Int.eq_ofNat_of_zero_le hq0
  rw [show (1 : Int).toNat = 2 ^ 1 - 1 from rfl, Int.toNat_natCast, Nat.and_two_pow_sub_one_eq_mod]
  simp
/-- What a word's instruction is. -/
def DecP (x o d n m a c i : Int) : Prop :=
  (∃ j : Nat, 1 ≤ j ∧ j < 43 ∧ o = (j : Int) ∧ okN j d n m a c i = true ∧ wordN j d n m a c i = x) ∨
  ((o = 0 ∧ d = 0 ∧ n = 0 ∧ m = 0 ∧ a = 0 ∧ c = 0 ∧ i = fd x 0 16) ∧ ∀ j : Nat, 1 ≤ j → j < 43 → ∀ d n m a c i, okN j d n m a c i = true → wordN j d n m a c i ≠ x)
/-- What dec.Ins answers. -/
def DI (x o d n m a c i : Int) : Prop := (∀ w, Calls Try.prog 24 #[.int .u32 x] w fun e w' => e = .returned (I7 o d n m a c i) ∧ Below w.heap.size w w') ∧ DecP x o d n m a c i
def DA (x : Int) : Prop := ∃ o d n m a c i, DI x o d n m a c i
theorem ag (j : Nat) (hj : j < 43) (x : Int) : (∃ d n m a c i, wordN j d n m a c i = x) → Agree j x := fun ⟨d, n, m, a, c, i, h⟩ => word_agree j hj d n m a c i x h
theorem few_p (x : Int) (hx : 0 ≤ x) (hx' : x < 4294967296) (hno : ∀ j : Nat, 1 ≤ j → j < 43 → (j = 25 ∨ j = 26 ∨ j = 27 ∨ j = 33 ∨ j = 34 ∨ j = 35 ∨ j = 40 ∨ j = 41 ∨ j = 1 ∨ j = 37 ∨ j = 38 ∨ j = 39) ∨ ∀ d n m a c i, okN j d n m a c i = true → wordN j d n m a c i ≠ x) :
    ∃ o d n m a c i, fewS x (bits .and .u32 x 4294966303) (bits .and .u32 x 4294966272) (bits .and .u32 x 4294967264) = I7 o d n m a c i ∧ DecP x o d n m a c i := by
  unfold fewS
  by_cases q25 : bits .and .u32 x 4294966303 = 3592355840
  · rw [if_pos q25]
    exact ⟨_, _, _, _, _, _, _, rfl, .inl ⟨25, by decide, by decide, rfl, hit_25 x hx hx' (mask_agree0 25 x 4294966303 hx hx' (by decide +kernel) q25)⟩⟩
  rw [if_neg q25]
  by_cases q26 : bits .and .u32 x 4294966303 = 3594452992
  · rw [if_pos q26]
    exact ⟨_, _, _, _, _, _, _, rfl, .inl ⟨26, by decide, by decide, rfl, hit_26 x hx hx' (mask_agree0 26 x 4294966303 hx hx' (by decide +kernel) q26)⟩⟩
  rw [if_neg q26]
  by_cases q27 : bits .and .u32 x 4294966303 = 3596550144
  · rw [if_pos q27]
    exact ⟨_, _, _, _, _, _, _, rfl, .inl ⟨27, by decide, by decide, rfl, hit_27 x hx hx' (mask_agree0 27 x 4294966303 hx hx' (by decide +kernel) q27)⟩⟩
  rw [if_neg q27]
  by_cases q33 : bits .and .u32 x 4294966272 = 3370122240
  · rw [if_pos q33]
    exact ⟨_, _, _, _, _, _, _, rfl, .inl ⟨33, by decide, by decide, rfl, hit_33 x hx hx' (mask_agree0 33 x 4294966272 hx hx' (by decide +kernel) q33)⟩⟩
  rw [if_neg q33]
  by_cases q34 : bits .and .u32 x 4294966272 = 3365927936
  · rw [if_pos q34]
    exact ⟨_, _, _, _, _, _, _, rfl, .inl ⟨34, by decide, by decide, rfl, hit_34 x hx hx' (mask_agree0 34 x 4294966272 hx hx' (by decide +kernel) q34)⟩⟩
  rw [if_neg q34]
  by_cases q35 : bits .and .u32 x 4294966272 = 3361700864
  · rw [if_pos q35]
    exact ⟨_, _, _, _, _, _, _, rfl, .inl ⟨35, by decide, by decide, rfl, hit_35 x hx hx' (mask_agree0 35 x 4294966272 hx hx' (by decide +kernel) q35)⟩⟩
  rw [if_neg q35]
  by_cases q40 : bits .and .u32 x 4294967264 = 3574299424
  · rw [if_pos q40]
    exact ⟨_, _, _, _, _, _, _, rfl, .inl ⟨40, by decide, by decide, rfl, hit_40 x hx hx' (mask_agree0 40 x 4294967264 hx hx' (by decide +kernel) q40)⟩⟩
  rw [if_neg q40]
  by_cases q41 : bits .and .u32 x 4294967264 = 3574297888
  · rw [if_pos q41]
    exact ⟨_, _, _, _, _, _, _, rfl, .inl ⟨41, by decide, by decide, rfl, hit_41 x hx hx' (mask_agree0 41 x 4294967264 hx hx' (by decide +kernel) q41)⟩⟩
  rw [if_neg q41]
  by_cases q1 : x = 3573751839
  · rw [if_pos q1]
    exact ⟨_, _, _, _, _, _, _, rfl, .inl ⟨1, by decide, by decide, rfl, by decide, by rw [q1]; decide +kernel⟩⟩
  rw [if_neg q1]
  by_cases q370 : x = 3573758911
  · rw [if_pos q370]
    exact ⟨_, _, _, _, _, _, _, rfl, .inl ⟨37, by decide, by decide, rfl, by decide, by rw [q370]; decide +kernel⟩⟩
  rw [if_neg q370]
  by_cases q371 : x = 3573758399
  · rw [if_pos q371]
    exact ⟨_, _, _, _, _, _, _, rfl, .inl ⟨37, by decide, by decide, rfl, by decide, by rw [q371]; decide +kernel⟩⟩
  rw [if_neg q371]
  by_cases q372 : x = 3573758655
  · rw [if_pos q372]
    exact ⟨_, _, _, _, _, _, _, rfl, .inl ⟨37, by decide, by decide, rfl, by decide, by rw [q372]; decide +kernel⟩⟩
  rw [if_neg q372]
  by_cases q38 : x = 3573758879
  · rw [if_pos q38]
    exact ⟨_, _, _, _, _, _, _, rfl, .inl ⟨38, by decide, by decide, rfl, by decide, by rw [q38]; decide +kernel⟩⟩
  rw [if_neg q38]
  by_cases q39 : x = 3573759967
  · rw [if_pos q39]
    exact ⟨_, _, _, _, _, _, _, rfl, .inl ⟨39, by decide, by decide, rfl, by decide, by rw [q39]; decide +kernel⟩⟩
  rw [if_neg q39]
  refine ⟨_, _, _, _, _, _, _, rfl, .inr ⟨⟨rfl, rfl, rfl, rfl, rfl, rfl, rfl⟩, fun j h1 h43 => ?_⟩⟩
  rcases hno j h1 h43 with h | h
  · intro d n m a c i hok hw
    have hA := ag j h43 x ⟨d, n, m, a, c, i, hw⟩
    rcases h with rfl | rfl | rfl | rfl | rfl | rfl | rfl | rfl | rfl | rfl | rfl | rfl
    · exact q25 (agree_mask 25 x 4294966303 3592355840 noP hx hx' (by decide +kernel) hA)
    · exact q26 (agree_mask 26 x 4294966303 3594452992 noP hx hx' (by decide +kernel) hA)
    · exact q27 (agree_mask 27 x 4294966303 3596550144 noP hx hx' (by decide +kernel) hA)
    · exact q33 (agree_mask 33 x 4294966272 3370122240 noP hx hx' (by decide +kernel) hA)
    · exact q34 (agree_mask 34 x 4294966272 3365927936 noP hx hx' (by decide +kernel) hA)
    · exact q35 (agree_mask 35 x 4294966272 3361700864 noP hx hx' (by decide +kernel) hA)
    · exact q40 (agree_mask 40 x 4294967264 3574299424 noP hx hx' (by decide +kernel) hA)
    · exact q41 (agree_mask 41 x 4294967264 3574297888 noP hx hx' (by decide +kernel) hA)
    · exact q1 hw.symm
    · have h' : ok_37 d n m a c i = true := hok
      simp only [ok_37, wi, Bool.and_eq_true, decide_eq_true_eq, beq_iff_eq] at h'
      obtain ⟨⟨⟨⟨⟨rfl, rfl⟩, rfl⟩, rfl⟩, rfl⟩, h0, h2⟩ := h'
      have : i = 0 ∨ i = 1 ∨ i = 2 := by omega
      rcases this with rfl | rfl | rfl
      · exact q370 (hw.symm.trans (by decide +kernel))
      · exact q371 (hw.symm.trans (by decide +kernel))
      · exact q372 (hw.symm.trans (by decide +kernel))
    · exact q38 hw.symm
    · exact q39 hw.symm
  · exact h
theorem wn_or (v : Int) : wnS v = 0 ∨ v = 2432696320 ∨ v = 3506438144 ∨ v = 4043309056 ∨ v = 4181721088 ∨ v = 4177526784 ∨ v = 960495616 := by
  unfold wnS
  repeat' split
  all_goals (first | (left; rfl) | (right; simp only [*, true_or, or_true]))
theorem of_or (v : Int) : of3S v = 0 ∨ v = 2332033024 ∨ v = 3405774848 ∨ v = 3942645760 ∨ v = 2315255808 ∨ v = 2852126720 ∨ v = 3388997632 ∨ v = 2596277248 ∨ v = 2596282368 ∨ v = 2596283392 ∨ v = 2596284416 ∨ v = 4167071744 ∨ v = 4162877440 := by
  unfold of3S
  repeat' split
  all_goals (first | (left; rfl) | (right; simp only [*, true_or, or_true]))
theorem beq_no {a b : Int} (h : ¬ a = b) : (a == b) = false := by simpa using h
theorem beq_yes {a b : Int} (h : a = b) : (a == b) = true := by simpa using h
theorem dec_g (x : Int) (hx : 0 ≤ x) (hx' : x < 4294967296) (c1 : bits .and .u32 x 4278190096 = 1409286144) (hf : ¬ fd x 0 4 < 14) : DA x := by
  have b31 : x.toNat.testBit 31 = false := (bit_of x _ _ 31 hx hx' (by decide +kernel) c1).trans (by decide +kernel)
  have b30 : x.toNat.testBit 30 = true := (bit_of x _ _ 30 hx hx' (by decide +kernel) c1).trans (by decide +kernel)
  have c2 : ¬ bits .and .u32 x 4261412864 = 3019898880 := fun h => absurd ((bit_of x _ _ 31 hx hx' (by decide +kernel) h).symm.trans b31) (by decide +kernel)
  have c3 : ¬ bits .and .u32 x 2080374784 = 335544320 := fun h => absurd ((bit_of x _ _ 30 hx hx' (by decide +kernel) h).symm.trans b30) (by decide +kernel)
  have c4 : ¬ bits .and .u32 x 3749707776 = 3531603968 := fun h => absurd ((bit_of x _ _ 31 hx hx' (by decide +kernel) h).symm.trans b31) (by decide +kernel)
  have c5 : ¬ bits .and .u32 x 4292873216 = 2592080896 := fun h => absurd ((bit_of x _ _ 31 hx hx' (by decide +kernel) h).symm.trans b31) (by decide +kernel)
  have c6 : ¬ bits .and .u32 x 4292870144 = 2600468480 := fun h => absurd ((bit_of x _ _ 31 hx hx' (by decide +kernel) h).symm.trans b31) (by decide +kernel)
  have c7 : ¬ bits .and .u32 x 4292934656 = 3355474944 := fun h => absurd ((bit_of x _ _ 31 hx hx' (by decide +kernel) h).symm.trans b31) (by decide +kernel)
  have c8 : ¬ bits .and .u32 x 4292870175 = 3556769793 := fun h => absurd ((bit_of x _ _ 31 hx hx' (by decide +kernel) h).symm.trans b31) (by decide +kernel)
  have nw : wnS (bits .and .u32 x 4290772992) = 0 := by
    rcases wn_or (bits .and .u32 x 4290772992) with h | h | h | h | h | h | h
    · exact h
    · exact absurd ((bit_of x _ _ 31 hx hx' (by decide +kernel) h).symm.trans b31) (by decide +kernel)
    · exact absurd ((bit_of x _ _ 31 hx hx' (by decide +kernel) h).symm.trans b31) (by decide +kernel)
    · exact absurd ((bit_of x _ _ 31 hx hx' (by decide +kernel) h).symm.trans b31) (by decide +kernel)
    · exact absurd ((bit_of x _ _ 31 hx hx' (by decide +kernel) h).symm.trans b31) (by decide +kernel)
    · exact absurd ((bit_of x _ _ 31 hx hx' (by decide +kernel) h).symm.trans b31) (by decide +kernel)
    · exact absurd ((bit_of x _ _ 30 hx hx' (by decide +kernel) h).symm.trans b30) (by decide +kernel)
  have nt : of3S (bits .and .u32 x 4292934656) = 0 := by
    rcases of_or (bits .and .u32 x 4292934656) with h | h | h | h | h | h | h | h | h | h | h | h | h
    · exact h
    · exact absurd ((bit_of x _ _ 31 hx hx' (by decide +kernel) h).symm.trans b31) (by decide +kernel)
    · exact absurd ((bit_of x _ _ 31 hx hx' (by decide +kernel) h).symm.trans b31) (by decide +kernel)
    · exact absurd ((bit_of x _ _ 31 hx hx' (by decide +kernel) h).symm.trans b31) (by decide +kernel)
    · exact absurd ((bit_of x _ _ 31 hx hx' (by decide +kernel) h).symm.trans b31) (by decide +kernel)
    · exact absurd ((bit_of x _ _ 31 hx hx' (by decide +kernel) h).symm.trans b31) (by decide +kernel)
    · exact absurd ((bit_of x _ _ 31 hx hx' (by decide +kernel) h).symm.trans b31) (by decide +kernel)
    · exact absurd ((bit_of x _ _ 31 hx hx' (by decide +kernel) h).symm.trans b31) (by decide +kernel)
    · exact absurd ((bit_of x _ _ 31 hx hx' (by decide +kernel) h).symm.trans b31) (by decide +kernel)
    · exact absurd ((bit_of x _ _ 31 hx hx' (by decide +kernel) h).symm.trans b31) (by decide +kernel)
    · exact absurd ((bit_of x _ _ 31 hx hx' (by decide +kernel) h).symm.trans b31) (by decide +kernel)
    · exact absurd ((bit_of x _ _ 31 hx hx' (by decide +kernel) h).symm.trans b31) (by decide +kernel)
    · exact absurd ((bit_of x _ _ 31 hx hx' (by decide +kernel) h).symm.trans b31) (by decide +kernel)
  have hno := few_p x hx hx' (fun j h1 h43 => by
      have : j = 1 ∨ j = 2 ∨ j = 3 ∨ j = 4 ∨ j = 5 ∨ j = 6 ∨ j = 7 ∨ j = 8 ∨ j = 9 ∨ j = 10 ∨ j = 11 ∨ j = 12 ∨ j = 13 ∨ j = 14 ∨ j = 15 ∨ j = 16 ∨ j = 17 ∨ j = 18 ∨ j = 19 ∨ j = 20 ∨ j = 21 ∨ j = 22 ∨ j = 23 ∨ j = 24 ∨ j = 25 ∨ j = 26 ∨ j = 27 ∨ j = 28 ∨ j = 29 ∨ j = 30 ∨ j = 31 ∨ j = 32 ∨ j = 33 ∨ j = 34 ∨ j = 35 ∨ j = 36 ∨ j = 37 ∨ j = 38 ∨ j = 39 ∨ j = 40 ∨ j = 41 ∨ j = 42 := by omega
      rcases this with rfl | rfl | rfl | rfl | rfl | rfl | rfl | rfl | rfl | rfl | rfl | rfl | rfl | rfl | rfl | rfl | rfl | rfl | rfl | rfl | rfl | rfl | rfl | rfl | rfl | rfl | rfl | rfl | rfl | rfl | rfl | rfl | rfl | rfl | rfl | rfl | rfl | rfl | rfl | rfl | rfl | rfl
      · exact .inl (by decide)
      · refine .inr fun d n m a c i hok hw => ?_
        have hA := agree_mask 2 x 3749707776 3531603968 (fun i => i == 29) hx hx' (by decide +kernel) (ag 2 (by decide) x ⟨d, n, m, a, c, i, hw⟩)
        exact c4 hA
      · refine .inr fun d n m a c i hok hw => ?_
        have hA := agree_mask 3 x 3749707776 3531603968 (fun i => i == 29) hx hx' (by decide +kernel) (ag 3 (by decide) x ⟨d, n, m, a, c, i, hw⟩)
        exact c4 hA
      · refine .inr fun d n m a c i hok hw => ?_
        have hA := agree_mask 4 x 4290772992 2432696320 noP hx hx' (by decide +kernel) (ag 4 (by decide) x ⟨d, n, m, a, c, i, hw⟩)
        rw [hA] at nw; exact absurd nw (by decide)
      · refine .inr fun d n m a c i hok hw => ?_
        have hA := agree_mask 5 x 4290772992 3506438144 noP hx hx' (by decide +kernel) (ag 5 (by decide) x ⟨d, n, m, a, c, i, hw⟩)
        rw [hA] at nw; exact absurd nw (by decide)
      · refine .inr fun d n m a c i hok hw => ?_
        have hA := agree_mask 6 x 4290772992 4043309056 noP hx hx' (by decide +kernel) (ag 6 (by decide) x ⟨d, n, m, a, c, i, hw⟩)
        rw [hA] at nw; exact absurd nw (by decide)
      · refine .inr fun d n m a c i hok hw => ?_
        have hA := agree_mask 7 x 4292934656 2332033024 noP hx hx' (by decide +kernel) (ag 7 (by decide) x ⟨d, n, m, a, c, i, hw⟩)
        rw [hA] at nt; exact absurd nt (by decide)
      · refine .inr fun d n m a c i hok hw => ?_
        have hA := agree_mask 8 x 4292934656 3405774848 noP hx hx' (by decide +kernel) (ag 8 (by decide) x ⟨d, n, m, a, c, i, hw⟩)
        rw [hA] at nt; exact absurd nt (by decide)
      · refine .inr fun d n m a c i hok hw => ?_
        have hA := agree_mask 9 x 4292934656 3942645760 noP hx hx' (by decide +kernel) (ag 9 (by decide) x ⟨d, n, m, a, c, i, hw⟩)
        rw [hA] at nt; exact absurd nt (by decide)
      · refine .inr fun d n m a c i hok hw => ?_
        have hA := agree_mask 10 x 4292934656 2315255808 noP hx hx' (by decide +kernel) (ag 10 (by decide) x ⟨d, n, m, a, c, i, hw⟩)
        rw [hA] at nt; exact absurd nt (by decide)
      · refine .inr fun d n m a c i hok hw => ?_
        have hA := agree_mask 11 x 4292934656 2852126720 noP hx hx' (by decide +kernel) (ag 11 (by decide) x ⟨d, n, m, a, c, i, hw⟩)
        rw [hA] at nt; exact absurd nt (by decide)
      · refine .inr fun d n m a c i hok hw => ?_
        have hA := agree_mask 12 x 4292934656 3388997632 noP hx hx' (by decide +kernel) (ag 12 (by decide) x ⟨d, n, m, a, c, i, hw⟩)
        rw [hA] at nt; exact absurd nt (by decide)
      · refine .inr fun d n m a c i hok hw => ?_
        have hA := agree_mask 13 x 4292870144 2600468480 (fun i => i == 15) hx hx' (by decide +kernel) (ag 13 (by decide) x ⟨d, n, m, a, c, i, hw⟩)
        exact c6 hA
      · refine .inr fun d n m a c i hok hw => ?_
        have hA := agree_mask 14 x 4292870144 2600468480 (fun i => i == 15) hx hx' (by decide +kernel) (ag 14 (by decide) x ⟨d, n, m, a, c, i, hw⟩)
        exact c6 hA
      · refine .inr fun d n m a c i hok hw => ?_
        have hA := agree_mask 15 x 4292934656 2596277248 noP hx hx' (by decide +kernel) (ag 15 (by decide) x ⟨d, n, m, a, c, i, hw⟩)
        rw [hA] at nt; exact absurd nt (by decide)
      · refine .inr fun d n m a c i hok hw => ?_
        have hA := agree_mask 16 x 4292934656 2596282368 noP hx hx' (by decide +kernel) (ag 16 (by decide) x ⟨d, n, m, a, c, i, hw⟩)
        rw [hA] at nt; exact absurd nt (by decide)
      · refine .inr fun d n m a c i hok hw => ?_
        have hA := agree_mask 17 x 4292934656 2596283392 noP hx hx' (by decide +kernel) (ag 17 (by decide) x ⟨d, n, m, a, c, i, hw⟩)
        rw [hA] at nt; exact absurd nt (by decide)
      · refine .inr fun d n m a c i hok hw => ?_
        have hA := agree_mask 18 x 4292934656 2596284416 noP hx hx' (by decide +kernel) (ag 18 (by decide) x ⟨d, n, m, a, c, i, hw⟩)
        rw [hA] at nt; exact absurd nt (by decide)
      · refine .inr fun d n m a c i hok hw => ?_
        have hA := agree_mask 19 x 4292873216 2592080896 noP hx hx' (by decide +kernel) (ag 19 (by decide) x ⟨d, n, m, a, c, i, hw⟩)
        exact c5 hA
      · refine .inr fun d n m a c i hok hw => ?_
        have hA := agree_mask 20 x 2080374784 335544320 (fun i => i == 31) hx hx' (by decide +kernel) (ag 20 (by decide) x ⟨d, n, m, a, c, i, hw⟩)
        exact c3 hA
      · refine .inr fun d n m a c i hok hw => ?_
        exact hf (field21 d n m a c i x hok hw hx)
      · refine .inr fun d n m a c i hok hw => ?_
        have hA := agree_mask 22 x 4261412864 3019898880 (fun i => i == 24) hx hx' (by decide +kernel) (ag 22 (by decide) x ⟨d, n, m, a, c, i, hw⟩)
        exact c2 hA
      · refine .inr fun d n m a c i hok hw => ?_
        have hA := agree_mask 23 x 4261412864 3019898880 (fun i => i == 24) hx hx' (by decide +kernel) (ag 23 (by decide) x ⟨d, n, m, a, c, i, hw⟩)
        exact c2 hA
      · refine .inr fun d n m a c i hok hw => ?_
        have hA := agree_mask 24 x 2080374784 335544320 (fun i => i == 31) hx hx' (by decide +kernel) (ag 24 (by decide) x ⟨d, n, m, a, c, i, hw⟩)
        exact c3 hA
      · exact .inl (by decide)
      · exact .inl (by decide)
      · exact .inl (by decide)
      · refine .inr fun d n m a c i hok hw => ?_
        have hA := agree_mask 28 x 4290772992 4181721088 noP hx hx' (by decide +kernel) (ag 28 (by decide) x ⟨d, n, m, a, c, i, hw⟩)
        rw [hA] at nw; exact absurd nw (by decide)
      · refine .inr fun d n m a c i hok hw => ?_
        have hA := agree_mask 29 x 4290772992 4177526784 noP hx hx' (by decide +kernel) (ag 29 (by decide) x ⟨d, n, m, a, c, i, hw⟩)
        rw [hA] at nw; exact absurd nw (by decide)
      · refine .inr fun d n m a c i hok hw => ?_
        have hA := agree_mask 30 x 4290772992 960495616 noP hx hx' (by decide +kernel) (ag 30 (by decide) x ⟨d, n, m, a, c, i, hw⟩)
        rw [hA] at nw; exact absurd nw (by decide)
      · refine .inr fun d n m a c i hok hw => ?_
        have hA := agree_mask 31 x 4292934656 4167071744 noP hx hx' (by decide +kernel) (ag 31 (by decide) x ⟨d, n, m, a, c, i, hw⟩)
        rw [hA] at nt; exact absurd nt (by decide)
      · refine .inr fun d n m a c i hok hw => ?_
        have hA := agree_mask 32 x 4292934656 4162877440 noP hx hx' (by decide +kernel) (ag 32 (by decide) x ⟨d, n, m, a, c, i, hw⟩)
        rw [hA] at nt; exact absurd nt (by decide)
      · exact .inl (by decide)
      · exact .inl (by decide)
      · exact .inl (by decide)
      · refine .inr fun d n m a c i hok hw => ?_
        have hA := agree_mask 36 x 4292934656 3355474944 noP hx hx' (by decide +kernel) (ag 36 (by decide) x ⟨d, n, m, a, c, i, hw⟩)
        exact c7 hA
      · exact .inl (by decide)
      · exact .inl (by decide)
      · exact .inl (by decide)
      · exact .inl (by decide)
      · exact .inl (by decide)
      · refine .inr fun d n m a c i hok hw => ?_
        have hA := agree_mask 42 x 4292870175 3556769793 noP hx hx' (by decide +kernel) (ag 42 (by decide) x ⟨d, n, m, a, c, i, hw⟩)
        exact c8 hA)
  obtain ⟨o, d, n, m, a, c, i, hq, hP⟩ := hno
  exact ⟨o, d, n, m, a, c, i, fun w => dins_g x _ _ _ _ _ _ _ _ o d n m a c i w hx hx' rfl (beq_yes c1) (by omega) rfl (beq_no c2) rfl (beq_no c3) rfl (beq_no c4) rfl (beq_no c5) rfl (beq_no c6) rfl (beq_no c7) rfl (beq_no c8) nw nt hq, hP⟩
theorem dec_or (x : Int) (hx : 0 ≤ x) (hx' : x < 4294967296) : DA x := by
  by_cases c1 : bits .and .u32 x 4278190096 = 1409286144
  · by_cases hf : fd x 0 4 < 14
    · exact ⟨_, _, _, _, _, _, _, fun w => dins_1 x _ w hx hx' rfl (beq_yes c1) hf, .inl ⟨21, by decide, by decide, rfl, hit_21 x hx hx' (mask_agree0 21 x 4278190096 hx hx' (by decide +kernel) c1) hf⟩⟩
    · exact dec_g x hx hx' c1 hf
  by_cases c2 : bits .and .u32 x 4261412864 = 3019898880
  · rcases fd1_or x 24 with h | h
    · have hd := fun w => dins_2 x _ _ w hx hx' rfl (beq_no c1) rfl (beq_yes c2)
      rw [h] at hd
      exact ⟨_, _, _, _, _, _, _, fun w => hd w, .inl ⟨22, by decide, by decide, rfl, hit_22 x hx hx' (mask_agree1 22 x 4261412864 3019898880 24 0 hx hx' (by decide +kernel) (by decide +kernel) c2 h)⟩⟩
    · have hd := fun w => dins_2 x _ _ w hx hx' rfl (beq_no c1) rfl (beq_yes c2)
      rw [h] at hd
      exact ⟨_, _, _, _, _, _, _, fun w => hd w, .inl ⟨23, by decide, by decide, rfl, hit_23 x hx hx' (mask_agree1 23 x 4261412864 3019898880 24 1 hx hx' (by decide +kernel) (by decide +kernel) c2 h)⟩⟩
  by_cases c3 : bits .and .u32 x 2080374784 = 335544320
  · rcases fd1_or x 31 with h | h
    · have hz : x / 2147483648 = 0 := by have h' := h; unfold fd at h'; simp only [show (2 : Int) ^ 31 = 2147483648 from rfl, show (2 : Int) ^ 1 = 2 from rfl] at h'; omega
      exact ⟨_, _, _, _, _, _, _, fun w => dins_3 x _ _ _ true w hx hx' rfl (beq_no c1) rfl (beq_no c2) rfl (beq_yes c3) (beq_yes hz), .inl ⟨20, by decide, by decide, rfl, hit_20 x hx hx' (mask_agree1 20 x 2080374784 335544320 31 0 hx hx' (by decide +kernel) (by decide +kernel) c3 h)⟩⟩
    · have hz : ¬ x / 2147483648 = 0 := by have h' := h; unfold fd at h'; simp only [show (2 : Int) ^ 31 = 2147483648 from rfl, show (2 : Int) ^ 1 = 2 from rfl] at h'; omega
      exact ⟨_, _, _, _, _, _, _, fun w => dins_3 x _ _ _ false w hx hx' rfl (beq_no c1) rfl (beq_no c2) rfl (beq_yes c3) (beq_no hz), .inl ⟨24, by decide, by decide, rfl, hit_24 x hx hx' (mask_agree1 24 x 2080374784 335544320 31 1 hx hx' (by decide +kernel) (by decide +kernel) c3 h)⟩⟩
  by_cases c4 : bits .and .u32 x 3749707776 = 3531603968
  · rcases fd1_or x 29 with h | h
    · have hq : bits .and .u32 (x / 536870912) 1 = 0 := (and1_fd x 29 hx hx').trans h
      exact ⟨_, _, _, _, _, _, _, fun w => dins_4 x _ _ _ _ 0 hq true w hx hx' rfl (beq_no c1) rfl (beq_no c2) rfl (beq_no c3) rfl (beq_yes c4) rfl, .inl ⟨2, by decide, by decide, rfl, hit_2 x hx hx' (mask_agree1 2 x 3749707776 3531603968 29 0 hx hx' (by decide +kernel) (by decide +kernel) c4 h)⟩⟩
    · have hq : bits .and .u32 (x / 536870912) 1 = 1 := (and1_fd x 29 hx hx').trans h
      exact ⟨_, _, _, _, _, _, _, fun w => dins_4 x _ _ _ _ 1 hq false w hx hx' rfl (beq_no c1) rfl (beq_no c2) rfl (beq_no c3) rfl (beq_yes c4) rfl, .inl ⟨3, by decide, by decide, rfl, hit_3 x hx hx' (mask_agree1 3 x 3749707776 3531603968 29 1 hx hx' (by decide +kernel) (by decide +kernel) c4 h)⟩⟩
  by_cases c5 : bits .and .u32 x 4292873216 = 2592080896
  · exact ⟨_, _, _, _, _, _, _, fun w => dins_5 x _ _ _ _ _ w hx hx' rfl (beq_no c1) rfl (beq_no c2) rfl (beq_no c3) rfl (beq_no c4) rfl (beq_yes c5), .inl ⟨19, by decide, by decide, rfl, hit_19 x hx hx' (mask_agree0 19 x 4292873216 hx hx' (by decide +kernel) c5)⟩⟩
  by_cases c6 : bits .and .u32 x 4292870144 = 2600468480
  · rcases fd1_or x 15 with h | h
    · have hq : bits .and .u32 (x / 32768) 1 = 0 := (and1_fd x 15 hx hx').trans h
      exact ⟨_, _, _, _, _, _, _, fun w => dins_6 x _ _ _ _ _ _ 0 hq true w hx hx' rfl (beq_no c1) rfl (beq_no c2) rfl (beq_no c3) rfl (beq_no c4) rfl (beq_no c5) rfl (beq_yes c6) rfl, .inl ⟨13, by decide, by decide, rfl, hit_13 x hx hx' (mask_agree1 13 x 4292870144 2600468480 15 0 hx hx' (by decide +kernel) (by decide +kernel) c6 h)⟩⟩
    · have hq : bits .and .u32 (x / 32768) 1 = 1 := (and1_fd x 15 hx hx').trans h
      exact ⟨_, _, _, _, _, _, _, fun w => dins_6 x _ _ _ _ _ _ 1 hq false w hx hx' rfl (beq_no c1) rfl (beq_no c2) rfl (beq_no c3) rfl (beq_no c4) rfl (beq_no c5) rfl (beq_yes c6) rfl, .inl ⟨14, by decide, by decide, rfl, hit_14 x hx hx' (mask_agree1 14 x 4292870144 2600468480 15 1 hx hx' (by decide +kernel) (by decide +kernel) c6 h)⟩⟩
  by_cases c7 : bits .and .u32 x 4292934656 = 3355474944
  · exact ⟨_, _, _, _, _, _, _, fun w => dins_7 x _ _ _ _ _ _ _ w hx hx' rfl (beq_no c1) rfl (beq_no c2) rfl (beq_no c3) rfl (beq_no c4) rfl (beq_no c5) rfl (beq_no c6) rfl (beq_yes c7), .inl ⟨36, by decide, by decide, rfl, hit_36 x hx hx' (mask_agree0 36 x 4292934656 hx hx' (by decide +kernel) c7)⟩⟩
  by_cases c8 : bits .and .u32 x 4292870175 = 3556769793
  · exact ⟨_, _, _, _, _, _, _, fun w => dins_8 x _ _ _ _ _ _ _ _ w hx hx' rfl (beq_no c1) rfl (beq_no c2) rfl (beq_no c3) rfl (beq_no c4) rfl (beq_no c5) rfl (beq_no c6) rfl (beq_no c7) rfl (beq_yes c8), .inl ⟨42, by decide, by decide, rfl, hit_42 x hx hx' (mask_agree0 42 x 4292870175 hx hx' (by decide +kernel) c8)⟩⟩
  rcases wn_or (bits .and .u32 x 4290772992) with nw | h | h | h | h | h | h
  rotate_left
  · exact ⟨_, _, _, _, _, _, _, fun w => dins_n1 x _ _ _ _ _ _ _ _ 4 w hx hx' rfl (beq_no c1) rfl (beq_no c2) rfl (beq_no c3) rfl (beq_no c4) rfl (beq_no c5) rfl (beq_no c6) rfl (beq_no c7) rfl (beq_no c8) (by rw [h]; rfl) rfl rfl, .inl ⟨4, by decide, by decide, rfl, hit_4 x hx hx' (mask_agree0 4 x 4290772992 hx hx' (by decide +kernel) h)⟩⟩
  · exact ⟨_, _, _, _, _, _, _, fun w => dins_n1 x _ _ _ _ _ _ _ _ 5 w hx hx' rfl (beq_no c1) rfl (beq_no c2) rfl (beq_no c3) rfl (beq_no c4) rfl (beq_no c5) rfl (beq_no c6) rfl (beq_no c7) rfl (beq_no c8) (by rw [h]; rfl) rfl rfl, .inl ⟨5, by decide, by decide, rfl, hit_5 x hx hx' (mask_agree0 5 x 4290772992 hx hx' (by decide +kernel) h)⟩⟩
  · exact ⟨_, _, _, _, _, _, _, fun w => dins_n1 x _ _ _ _ _ _ _ _ 6 w hx hx' rfl (beq_no c1) rfl (beq_no c2) rfl (beq_no c3) rfl (beq_no c4) rfl (beq_no c5) rfl (beq_no c6) rfl (beq_no c7) rfl (beq_no c8) (by rw [h]; rfl) rfl rfl, .inl ⟨6, by decide, by decide, rfl, hit_6 x hx hx' (mask_agree0 6 x 4290772992 hx hx' (by decide +kernel) h)⟩⟩
  · exact ⟨_, _, _, _, _, _, _, fun w => dins_n8 x _ _ _ _ _ _ _ _ 28 w hx hx' rfl (beq_no c1) rfl (beq_no c2) rfl (beq_no c3) rfl (beq_no c4) rfl (beq_no c5) rfl (beq_no c6) rfl (beq_no c7) rfl (beq_no c8) (by rw [h]; rfl) rfl rfl, .inl ⟨28, by decide, by decide, rfl, hit_28 x hx hx' (mask_agree0 28 x 4290772992 hx hx' (by decide +kernel) h)⟩⟩
  · exact ⟨_, _, _, _, _, _, _, fun w => dins_n8 x _ _ _ _ _ _ _ _ 29 w hx hx' rfl (beq_no c1) rfl (beq_no c2) rfl (beq_no c3) rfl (beq_no c4) rfl (beq_no c5) rfl (beq_no c6) rfl (beq_no c7) rfl (beq_no c8) (by rw [h]; rfl) rfl rfl, .inl ⟨29, by decide, by decide, rfl, hit_29 x hx hx' (mask_agree0 29 x 4290772992 hx hx' (by decide +kernel) h)⟩⟩
  · exact ⟨_, _, _, _, _, _, _, fun w => dins_n1 x _ _ _ _ _ _ _ _ 30 w hx hx' rfl (beq_no c1) rfl (beq_no c2) rfl (beq_no c3) rfl (beq_no c4) rfl (beq_no c5) rfl (beq_no c6) rfl (beq_no c7) rfl (beq_no c8) (by rw [h]; rfl) rfl rfl, .inl ⟨30, by decide, by decide, rfl, hit_30 x hx hx' (mask_agree0 30 x 4290772992 hx hx' (by decide +kernel) h)⟩⟩
  rcases of_or (bits .and .u32 x 4292934656) with nt | h | h | h | h | h | h | h | h | h | h | h | h
  rotate_left
  · exact ⟨_, _, _, _, _, _, _, fun w => dins_t x _ _ _ _ _ _ _ _ 7 w hx hx' rfl (beq_no c1) rfl (beq_no c2) rfl (beq_no c3) rfl (beq_no c4) rfl (beq_no c5) rfl (beq_no c6) rfl (beq_no c7) rfl (beq_no c8) nw (by rw [h]; rfl) rfl, .inl ⟨7, by decide, by decide, rfl, hit_7 x hx hx' (mask_agree0 7 x 4292934656 hx hx' (by decide +kernel) h)⟩⟩
  · exact ⟨_, _, _, _, _, _, _, fun w => dins_t x _ _ _ _ _ _ _ _ 8 w hx hx' rfl (beq_no c1) rfl (beq_no c2) rfl (beq_no c3) rfl (beq_no c4) rfl (beq_no c5) rfl (beq_no c6) rfl (beq_no c7) rfl (beq_no c8) nw (by rw [h]; rfl) rfl, .inl ⟨8, by decide, by decide, rfl, hit_8 x hx hx' (mask_agree0 8 x 4292934656 hx hx' (by decide +kernel) h)⟩⟩
  · exact ⟨_, _, _, _, _, _, _, fun w => dins_t x _ _ _ _ _ _ _ _ 9 w hx hx' rfl (beq_no c1) rfl (beq_no c2) rfl (beq_no c3) rfl (beq_no c4) rfl (beq_no c5) rfl (beq_no c6) rfl (beq_no c7) rfl (beq_no c8) nw (by rw [h]; rfl) rfl, .inl ⟨9, by decide, by decide, rfl, hit_9 x hx hx' (mask_agree0 9 x 4292934656 hx hx' (by decide +kernel) h)⟩⟩
  · exact ⟨_, _, _, _, _, _, _, fun w => dins_t x _ _ _ _ _ _ _ _ 10 w hx hx' rfl (beq_no c1) rfl (beq_no c2) rfl (beq_no c3) rfl (beq_no c4) rfl (beq_no c5) rfl (beq_no c6) rfl (beq_no c7) rfl (beq_no c8) nw (by rw [h]; rfl) rfl, .inl ⟨10, by decide, by decide, rfl, hit_10 x hx hx' (mask_agree0 10 x 4292934656 hx hx' (by decide +kernel) h)⟩⟩
  · exact ⟨_, _, _, _, _, _, _, fun w => dins_t x _ _ _ _ _ _ _ _ 11 w hx hx' rfl (beq_no c1) rfl (beq_no c2) rfl (beq_no c3) rfl (beq_no c4) rfl (beq_no c5) rfl (beq_no c6) rfl (beq_no c7) rfl (beq_no c8) nw (by rw [h]; rfl) rfl, .inl ⟨11, by decide, by decide, rfl, hit_11 x hx hx' (mask_agree0 11 x 4292934656 hx hx' (by decide +kernel) h)⟩⟩
  · exact ⟨_, _, _, _, _, _, _, fun w => dins_t x _ _ _ _ _ _ _ _ 12 w hx hx' rfl (beq_no c1) rfl (beq_no c2) rfl (beq_no c3) rfl (beq_no c4) rfl (beq_no c5) rfl (beq_no c6) rfl (beq_no c7) rfl (beq_no c8) nw (by rw [h]; rfl) rfl, .inl ⟨12, by decide, by decide, rfl, hit_12 x hx hx' (mask_agree0 12 x 4292934656 hx hx' (by decide +kernel) h)⟩⟩
  · exact ⟨_, _, _, _, _, _, _, fun w => dins_t x _ _ _ _ _ _ _ _ 15 w hx hx' rfl (beq_no c1) rfl (beq_no c2) rfl (beq_no c3) rfl (beq_no c4) rfl (beq_no c5) rfl (beq_no c6) rfl (beq_no c7) rfl (beq_no c8) nw (by rw [h]; rfl) rfl, .inl ⟨15, by decide, by decide, rfl, hit_15 x hx hx' (mask_agree0 15 x 4292934656 hx hx' (by decide +kernel) h)⟩⟩
  · exact ⟨_, _, _, _, _, _, _, fun w => dins_t x _ _ _ _ _ _ _ _ 16 w hx hx' rfl (beq_no c1) rfl (beq_no c2) rfl (beq_no c3) rfl (beq_no c4) rfl (beq_no c5) rfl (beq_no c6) rfl (beq_no c7) rfl (beq_no c8) nw (by rw [h]; rfl) rfl, .inl ⟨16, by decide, by decide, rfl, hit_16 x hx hx' (mask_agree0 16 x 4292934656 hx hx' (by decide +kernel) h)⟩⟩
  · exact ⟨_, _, _, _, _, _, _, fun w => dins_t x _ _ _ _ _ _ _ _ 17 w hx hx' rfl (beq_no c1) rfl (beq_no c2) rfl (beq_no c3) rfl (beq_no c4) rfl (beq_no c5) rfl (beq_no c6) rfl (beq_no c7) rfl (beq_no c8) nw (by rw [h]; rfl) rfl, .inl ⟨17, by decide, by decide, rfl, hit_17 x hx hx' (mask_agree0 17 x 4292934656 hx hx' (by decide +kernel) h)⟩⟩
  · exact ⟨_, _, _, _, _, _, _, fun w => dins_t x _ _ _ _ _ _ _ _ 18 w hx hx' rfl (beq_no c1) rfl (beq_no c2) rfl (beq_no c3) rfl (beq_no c4) rfl (beq_no c5) rfl (beq_no c6) rfl (beq_no c7) rfl (beq_no c8) nw (by rw [h]; rfl) rfl, .inl ⟨18, by decide, by decide, rfl, hit_18 x hx hx' (mask_agree0 18 x 4292934656 hx hx' (by decide +kernel) h)⟩⟩
  · exact ⟨_, _, _, _, _, _, _, fun w => dins_t x _ _ _ _ _ _ _ _ 31 w hx hx' rfl (beq_no c1) rfl (beq_no c2) rfl (beq_no c3) rfl (beq_no c4) rfl (beq_no c5) rfl (beq_no c6) rfl (beq_no c7) rfl (beq_no c8) nw (by rw [h]; rfl) rfl, .inl ⟨31, by decide, by decide, rfl, hit_31 x hx hx' (mask_agree0 31 x 4292934656 hx hx' (by decide +kernel) h)⟩⟩
  · exact ⟨_, _, _, _, _, _, _, fun w => dins_t x _ _ _ _ _ _ _ _ 32 w hx hx' rfl (beq_no c1) rfl (beq_no c2) rfl (beq_no c3) rfl (beq_no c4) rfl (beq_no c5) rfl (beq_no c6) rfl (beq_no c7) rfl (beq_no c8) nw (by rw [h]; rfl) rfl, .inl ⟨32, by decide, by decide, rfl, hit_32 x hx hx' (mask_agree0 32 x 4292934656 hx hx' (by decide +kernel) h)⟩⟩
  have hno := few_p x hx hx' (fun j h1 h43 => by
      have : j = 1 ∨ j = 2 ∨ j = 3 ∨ j = 4 ∨ j = 5 ∨ j = 6 ∨ j = 7 ∨ j = 8 ∨ j = 9 ∨ j = 10 ∨ j = 11 ∨ j = 12 ∨ j = 13 ∨ j = 14 ∨ j = 15 ∨ j = 16 ∨ j = 17 ∨ j = 18 ∨ j = 19 ∨ j = 20 ∨ j = 21 ∨ j = 22 ∨ j = 23 ∨ j = 24 ∨ j = 25 ∨ j = 26 ∨ j = 27 ∨ j = 28 ∨ j = 29 ∨ j = 30 ∨ j = 31 ∨ j = 32 ∨ j = 33 ∨ j = 34 ∨ j = 35 ∨ j = 36 ∨ j = 37 ∨ j = 38 ∨ j = 39 ∨ j = 40 ∨ j = 41 ∨ j = 42 := by omega
      rcases this with rfl | rfl | rfl | rfl | rfl | rfl | rfl | rfl | rfl | rfl | rfl | rfl | rfl | rfl | rfl | rfl | rfl | rfl | rfl | rfl | rfl | rfl | rfl | rfl | rfl | rfl | rfl | rfl | rfl | rfl | rfl | rfl | rfl | rfl | rfl | rfl | rfl | rfl | rfl | rfl | rfl | rfl
      · exact .inl (by decide)
      · refine .inr fun d n m a c i hok hw => ?_
        have hA := agree_mask 2 x 3749707776 3531603968 (fun i => i == 29) hx hx' (by decide +kernel) (ag 2 (by decide) x ⟨d, n, m, a, c, i, hw⟩)
        exact c4 hA
      · refine .inr fun d n m a c i hok hw => ?_
        have hA := agree_mask 3 x 3749707776 3531603968 (fun i => i == 29) hx hx' (by decide +kernel) (ag 3 (by decide) x ⟨d, n, m, a, c, i, hw⟩)
        exact c4 hA
      · refine .inr fun d n m a c i hok hw => ?_
        have hA := agree_mask 4 x 4290772992 2432696320 noP hx hx' (by decide +kernel) (ag 4 (by decide) x ⟨d, n, m, a, c, i, hw⟩)
        rw [hA] at nw; exact absurd nw (by decide)
      · refine .inr fun d n m a c i hok hw => ?_
        have hA := agree_mask 5 x 4290772992 3506438144 noP hx hx' (by decide +kernel) (ag 5 (by decide) x ⟨d, n, m, a, c, i, hw⟩)
        rw [hA] at nw; exact absurd nw (by decide)
      · refine .inr fun d n m a c i hok hw => ?_
        have hA := agree_mask 6 x 4290772992 4043309056 noP hx hx' (by decide +kernel) (ag 6 (by decide) x ⟨d, n, m, a, c, i, hw⟩)
        rw [hA] at nw; exact absurd nw (by decide)
      · refine .inr fun d n m a c i hok hw => ?_
        have hA := agree_mask 7 x 4292934656 2332033024 noP hx hx' (by decide +kernel) (ag 7 (by decide) x ⟨d, n, m, a, c, i, hw⟩)
        rw [hA] at nt; exact absurd nt (by decide)
      · refine .inr fun d n m a c i hok hw => ?_
        have hA := agree_mask 8 x 4292934656 3405774848 noP hx hx' (by decide +kernel) (ag 8 (by decide) x ⟨d, n, m, a, c, i, hw⟩)
        rw [hA] at nt; exact absurd nt (by decide)
      · refine .inr fun d n m a c i hok hw => ?_
        have hA := agree_mask 9 x 4292934656 3942645760 noP hx hx' (by decide +kernel) (ag 9 (by decide) x ⟨d, n, m, a, c, i, hw⟩)
        rw [hA] at nt; exact absurd nt (by decide)
      · refine .inr fun d n m a c i hok hw => ?_
        have hA := agree_mask 10 x 4292934656 2315255808 noP hx hx' (by decide +kernel) (ag 10 (by decide) x ⟨d, n, m, a, c, i, hw⟩)
        rw [hA] at nt; exact absurd nt (by decide)
      · refine .inr fun d n m a c i hok hw => ?_
        have hA := agree_mask 11 x 4292934656 2852126720 noP hx hx' (by decide +kernel) (ag 11 (by decide) x ⟨d, n, m, a, c, i, hw⟩)
        rw [hA] at nt; exact absurd nt (by decide)
      · refine .inr fun d n m a c i hok hw => ?_
        have hA := agree_mask 12 x 4292934656 3388997632 noP hx hx' (by decide +kernel) (ag 12 (by decide) x ⟨d, n, m, a, c, i, hw⟩)
        rw [hA] at nt; exact absurd nt (by decide)
      · refine .inr fun d n m a c i hok hw => ?_
        have hA := agree_mask 13 x 4292870144 2600468480 (fun i => i == 15) hx hx' (by decide +kernel) (ag 13 (by decide) x ⟨d, n, m, a, c, i, hw⟩)
        exact c6 hA
      · refine .inr fun d n m a c i hok hw => ?_
        have hA := agree_mask 14 x 4292870144 2600468480 (fun i => i == 15) hx hx' (by decide +kernel) (ag 14 (by decide) x ⟨d, n, m, a, c, i, hw⟩)
        exact c6 hA
      · refine .inr fun d n m a c i hok hw => ?_
        have hA := agree_mask 15 x 4292934656 2596277248 noP hx hx' (by decide +kernel) (ag 15 (by decide) x ⟨d, n, m, a, c, i, hw⟩)
        rw [hA] at nt; exact absurd nt (by decide)
      · refine .inr fun d n m a c i hok hw => ?_
        have hA := agree_mask 16 x 4292934656 2596282368 noP hx hx' (by decide +kernel) (ag 16 (by decide) x ⟨d, n, m, a, c, i, hw⟩)
        rw [hA] at nt; exact absurd nt (by decide)
      · refine .inr fun d n m a c i hok hw => ?_
        have hA := agree_mask 17 x 4292934656 2596283392 noP hx hx' (by decide +kernel) (ag 17 (by decide) x ⟨d, n, m, a, c, i, hw⟩)
        rw [hA] at nt; exact absurd nt (by decide)
      · refine .inr fun d n m a c i hok hw => ?_
        have hA := agree_mask 18 x 4292934656 2596284416 noP hx hx' (by decide +kernel) (ag 18 (by decide) x ⟨d, n, m, a, c, i, hw⟩)
        rw [hA] at nt; exact absurd nt (by decide)
      · refine .inr fun d n m a c i hok hw => ?_
        have hA := agree_mask 19 x 4292873216 2592080896 noP hx hx' (by decide +kernel) (ag 19 (by decide) x ⟨d, n, m, a, c, i, hw⟩)
        exact c5 hA
      · refine .inr fun d n m a c i hok hw => ?_
        have hA := agree_mask 20 x 2080374784 335544320 (fun i => i == 31) hx hx' (by decide +kernel) (ag 20 (by decide) x ⟨d, n, m, a, c, i, hw⟩)
        exact c3 hA
      · refine .inr fun d n m a c i hok hw => ?_
        have hA := agree_mask 21 x 4278190096 1409286144 noP hx hx' (by decide +kernel) (ag 21 (by decide) x ⟨d, n, m, a, c, i, hw⟩)
        exact c1 hA
      · refine .inr fun d n m a c i hok hw => ?_
        have hA := agree_mask 22 x 4261412864 3019898880 (fun i => i == 24) hx hx' (by decide +kernel) (ag 22 (by decide) x ⟨d, n, m, a, c, i, hw⟩)
        exact c2 hA
      · refine .inr fun d n m a c i hok hw => ?_
        have hA := agree_mask 23 x 4261412864 3019898880 (fun i => i == 24) hx hx' (by decide +kernel) (ag 23 (by decide) x ⟨d, n, m, a, c, i, hw⟩)
        exact c2 hA
      · refine .inr fun d n m a c i hok hw => ?_
        have hA := agree_mask 24 x 2080374784 335544320 (fun i => i == 31) hx hx' (by decide +kernel) (ag 24 (by decide) x ⟨d, n, m, a, c, i, hw⟩)
        exact c3 hA
      · exact .inl (by decide)
      · exact .inl (by decide)
      · exact .inl (by decide)
      · refine .inr fun d n m a c i hok hw => ?_
        have hA := agree_mask 28 x 4290772992 4181721088 noP hx hx' (by decide +kernel) (ag 28 (by decide) x ⟨d, n, m, a, c, i, hw⟩)
        rw [hA] at nw; exact absurd nw (by decide)
      · refine .inr fun d n m a c i hok hw => ?_
        have hA := agree_mask 29 x 4290772992 4177526784 noP hx hx' (by decide +kernel) (ag 29 (by decide) x ⟨d, n, m, a, c, i, hw⟩)
        rw [hA] at nw; exact absurd nw (by decide)
      · refine .inr fun d n m a c i hok hw => ?_
        have hA := agree_mask 30 x 4290772992 960495616 noP hx hx' (by decide +kernel) (ag 30 (by decide) x ⟨d, n, m, a, c, i, hw⟩)
        rw [hA] at nw; exact absurd nw (by decide)
      · refine .inr fun d n m a c i hok hw => ?_
        have hA := agree_mask 31 x 4292934656 4167071744 noP hx hx' (by decide +kernel) (ag 31 (by decide) x ⟨d, n, m, a, c, i, hw⟩)
        rw [hA] at nt; exact absurd nt (by decide)
      · refine .inr fun d n m a c i hok hw => ?_
        have hA := agree_mask 32 x 4292934656 4162877440 noP hx hx' (by decide +kernel) (ag 32 (by decide) x ⟨d, n, m, a, c, i, hw⟩)
        rw [hA] at nt; exact absurd nt (by decide)
      · exact .inl (by decide)
      · exact .inl (by decide)
      · exact .inl (by decide)
      · refine .inr fun d n m a c i hok hw => ?_
        have hA := agree_mask 36 x 4292934656 3355474944 noP hx hx' (by decide +kernel) (ag 36 (by decide) x ⟨d, n, m, a, c, i, hw⟩)
        exact c7 hA
      · exact .inl (by decide)
      · exact .inl (by decide)
      · exact .inl (by decide)
      · exact .inl (by decide)
      · exact .inl (by decide)
      · refine .inr fun d n m a c i hok hw => ?_
        have hA := agree_mask 42 x 4292870175 3556769793 noP hx hx' (by decide +kernel) (ag 42 (by decide) x ⟨d, n, m, a, c, i, hw⟩)
        exact c8 hA)
  obtain ⟨o, d, n, m, a, c, i, hq, hP⟩ := hno
  exact ⟨o, d, n, m, a, c, i, fun w => dins_f x _ _ _ _ _ _ _ _ o d n m a c i w hx hx' rfl (beq_no c1) rfl (beq_no c2) rfl (beq_no c3) rfl (beq_no c4) rfl (beq_no c5) rfl (beq_no c6) rfl (beq_no c7) rfl (beq_no c8) nw nt hq, hP⟩
end Go.Proofs.Ytnbpgoacooddjaa.En
