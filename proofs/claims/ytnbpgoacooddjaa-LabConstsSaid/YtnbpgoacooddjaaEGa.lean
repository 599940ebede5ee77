import Derived.Test.YtnbpgoacooddjaaEEu
import Derived.Test.YtnbpgoacooddjaaEDf
namespace Go.Proofs.Ytnbpgoacooddjaa.Fr
end Go.Proofs.Ytnbpgoacooddjaa.Fr
namespace Go.Proofs.Ytnbpgoacooddjaa.En
open Go.Proofs.Ytnbpgoacooddjaa.Fr
open Go.ChangeShapes Go.WideShapes Go.ChangeAt Go.RowKit
set_option linter.unusedVariables false
/-- A word is one whose fields are its own, and whose bits outside them are its own. -/
theorem lays_eq (x : Int) (hx : 0 ≤ x ∧ x < 4294967296) : ∀ (l : List (Nat × Nat × Int)) (X : Int), 0 ≤ X ∧ X < 4294967296 → fits l →
    (∀ f ∈ l, f.2.2.toNat % 2 ^ f.2.1 = x.toNat / 2 ^ f.1 % 2 ^ f.2.1) →
    (∀ i, i < 32 → (∀ f ∈ l, i < f.1 ∨ f.1 + f.2.1 ≤ i) → x.toNat.testBit i = X.toNat.testBit i) → lays X l = x
  | [], X, h, hf, hv, ho => by
    have e : X.toNat = x.toNat := by
      apply Nat.eq_of_testBit_eq
      intro i
      by_cases hi : i < 32
      · exact (ho i hi (by simp)).symm
      · have h2 : (2 : Nat) ^ 32 ≤ 2 ^ i := Nat.pow_le_pow_right (by decide) (by omega)
        have h3 : (2 : Nat) ^ 32 = 4294967296 := rfl
        rw [Nat.testBit_lt_two_pow (x := X.toNat) (by omega), Nat.testBit_lt_two_pow (x := x.toNat) (by omega)]
    show X = x
    omega
  | f :: l, X, h, hf, hv, ho => by
    have h1 := hf f (by simp)
    refine lays_eq x hx l (putS X f.1 f.2.1 f.2.2) (putS_lt X f.1 f.2.1 f.2.2 h.1 h.2) (fun g hg => hf g (by simp [hg])) (fun g hg => hv g (by simp [hg])) ?_
    intro i hi hout
    rw [putS_toNat X f.2.2 f.1 f.2.1 h1.1 h1.2, putN_testBit _ _ _ _ _ (by omega) h1.1]
    split
    · rename_i hin
      have hh := congrArg (fun z : Nat => z.testBit (i - f.1)) (hv f (by simp))
      simp only [Nat.testBit_mod_two_pow, Nat.testBit_div_two_pow] at hh
      rw [show decide (i - f.1 < f.2.1) = true from decide_eq_true (by omega), Bool.true_and, Bool.true_and, show i - f.1 + f.1 = i from by omega] at hh
      exact hh.symm
    · rename_i hin
      exact ho i hi fun g hg => by
        rcases List.mem_cons.mp hg with rfl | hg
        · omega
        · exact hout g hg
/-- Outside an op's fields a word is the op's base. -/
def Agree (o : Nat) (x : Int) : Prop := ∀ i, i < 32 → outside (posL.getD o []) i = true → x.toNat.testBit i = (baseL.getD o 0).toNat.testBit i
theorem base_range (o : Nat) (ho : o < 43) : 0 ≤ baseL.getD o 0 ∧ baseL.getD o 0 < 4294967296 := by
  have := base_all
  rw [List.all_eq_true] at this
  have := this o (by simpa using ho)
  simpa using this
theorem word_agree (o : Nat) (ho : o < 43) (d n m a c i x : Int) (h : wordN o d n m a c i = x) : Agree o x := by
  obtain ⟨l, hl, hw⟩ := wordN_lays o ho d n m a c i
  intro j hj hout
  rw [← h, hw]
  exact lays_bit l _ (base_range o ho) (fits_of o ho l hl) j (out_of l j (by rw [hl]; exact hout))
theorem lays_hit (o : Nat) (ho : o < 43) (x : Int) (hx : 0 ≤ x ∧ x < 4294967296) (l : List (Nat × Nat × Int)) (hl : pos l = posL.getD o []) (hv : ∀ f ∈ l, f.2.2.toNat % 2 ^ f.2.1 = x.toNat / 2 ^ f.1 % 2 ^ f.2.1) (h : Agree o x) : lays (baseL.getD o 0) l = x := by
  refine lays_eq x hx l _ (base_range o ho) (fits_of o ho l hl) hv fun i hi hout => h i hi ?_
  rw [← hl]
  unfold outside pos
  rw [List.all_eq_true]
  intro g hg
  obtain ⟨f, hf, rfl⟩ := List.mem_map.mp hg
  have := hout f hf
  simp only [Bool.or_eq_true, decide_eq_true_eq]
  exact this
theorem fd_nat (x : Int) (lo n : Nat) (hx : 0 ≤ x) : fd x lo n = ((x.toNat / 2 ^ lo % 2 ^ n : Nat) : Int) := by
  unfold fd
  obtain ⟨X, rfl⟩ := Int.eq_ofNat_of_zero_le hx
  simp
theorem fd_val (x : Int) (lo n : Nat) (hx : 0 ≤ x) : (fd x lo n).toNat % 2 ^ n = x.toNat / 2 ^ lo % 2 ^ n := by
  rw [fd_nat x lo n hx, Int.toNat_natCast, Nat.mod_mod]
theorem fd8_val (x : Int) (hx : 0 ≤ x) : (fd x 10 12 * 8 / 8).toNat % 2 ^ 12 = x.toNat / 2 ^ 10 % 2 ^ 12 := by
  rw [show fd x 10 12 * 8 / 8 = fd x 10 12 from by omega]; exact fd_val x 10 12 hx
theorem sext_val26 (f : Int) (h : 0 ≤ f ∧ f < 67108864) : (sextS f 26 * 4 / 4 % 4294967296).toNat % 2 ^ 26 = f.toNat % 2 ^ 26 ∧ -134217728 ≤ sextS f 26 * 4 ∧ sextS f 26 * 4 ≤ 134217724 := by
  unfold sextS
  simp only [show (2 : Int) ^ 26 = 67108864 from rfl, show (2 : Int) ^ (26 - 1) = 33554432 from rfl, show (2 : Nat) ^ 26 = 67108864 from rfl]
  split <;> omega
theorem sext_val19 (f : Int) (h : 0 ≤ f ∧ f < 524288) : (sextS f 19 * 4 / 4 % 4294967296).toNat % 2 ^ 19 = f.toNat % 2 ^ 19 ∧ -1048576 ≤ sextS f 19 * 4 ∧ sextS f 19 * 4 ≤ 1048572 := by
  unfold sextS
  simp only [show (2 : Int) ^ 19 = 524288 from rfl, show (2 : Int) ^ (19 - 1) = 262144 from rfl, show (2 : Nat) ^ 19 = 524288 from rfl]
  split <;> omega
theorem off26_val (x : Int) (hx : 0 ≤ x) : (off x 0 26 / 4 % 4294967296).toNat % 2 ^ 26 = x.toNat / 2 ^ 0 % 2 ^ 26 := by
  unfold off
  rw [(sext_val26 (fd x 0 26) (fd_range x 0 26)).1]; exact fd_val x 0 26 hx
theorem off19_val (x : Int) (hx : 0 ≤ x) : (off x 5 19 / 4 % 4294967296).toNat % 2 ^ 19 = x.toNat / 2 ^ 5 % 2 ^ 19 := by
  unfold off
  rw [(sext_val19 (fd x 5 19) (fd_range x 5 19)).1]; exact fd_val x 5 19 hx
theorem off26_in (x : Int) : wm (off x 0 26) (-134217728) 134217724 4 = true := by
  have := (sext_val26 (fd x 0 26) (fd_range x 0 26)).2
  unfold wm wi off
  simp only [Bool.and_eq_true, decide_eq_true_eq, beq_iff_eq]
  omega
theorem off19_in (x : Int) : wm (off x 5 19) (-1048576) 1048572 4 = true := by
  have := (sext_val19 (fd x 5 19) (fd_range x 5 19)).2
  unfold wm wi off
  simp only [Bool.and_eq_true, decide_eq_true_eq, beq_iff_eq]
  omega
theorem fd_in (x : Int) (lo n : Nat) (k : Int) (h : k = 2 ^ n - 1) : wi (fd x lo n) 0 k = true := by
  have := fd_range x lo n
  unfold wi
  simp only [decide_eq_true_eq]
  omega
theorem and6 {a b c d e f : Bool} (h1 : a = true) (h2 : b = true) (h3 : c = true) (h4 : d = true) (h5 : e = true) (h6 : f = true) : (a && b && c && d && e && f) = true := by
  subst h1 h2 h3 h4 h5 h6; rfl
theorem fd8_in (x : Int) : wm (fd x 10 12 * 8) 0 32760 8 = true := by
  have : 0 ≤ fd x 10 12 ∧ fd x 10 12 < 4096 := fd_range x 10 12
  unfold wm wi
  simp only [Bool.and_eq_true, decide_eq_true_eq, beq_iff_eq]
  omega
theorem hit_1 (x : Int) (hx : 0 ≤ x) (hx' : x < 4294967296) (h : Agree 1 x) : okN 1 0 0 0 0 0 0 = true ∧ wordN 1 0 0 0 0 0 0 = x := by
  constructor
  · rfl
  · refine Eq.trans (b := lays (baseL.getD 1 0) []) rfl (lays_hit 1 (by decide) x ⟨hx, hx'⟩ _ rfl ?_ h)
    intro f hf
    cases hf
theorem hit_2 (x : Int) (hx : 0 ≤ x) (hx' : x < 4294967296) (h : Agree 2 x) : okN 2 (fd x 0 5) 0 (fd x 21 2) 0 0 (fd x 5 16) = true ∧ wordN 2 (fd x 0 5) 0 (fd x 21 2) 0 0 (fd x 5 16) = x := by
  constructor
  · show ok_2 (fd x 0 5) 0 (fd x 21 2) 0 0 (fd x 5 16) = true
    unfold ok_2
    exact and6 (fd_in x 0 5 31 rfl) rfl (fd_in x 21 2 3 rfl) rfl rfl (fd_in x 5 16 65535 rfl)
  · refine Eq.trans (b := lays (baseL.getD 2 0) [(21, 2, (fd x 21 2)), (5, 16, (fd x 5 16)), (0, 5, (fd x 0 5))]) rfl (lays_hit 2 (by decide) x ⟨hx, hx'⟩ _ rfl ?_ h)
    intro f hf
    simp only [List.mem_cons, List.not_mem_nil, or_false] at hf
    rcases hf with rfl | rfl | rfl
    · exact fd_val x 21 2 hx
    · exact fd_val x 5 16 hx
    · exact fd_val x 0 5 hx
theorem hit_3 (x : Int) (hx : 0 ≤ x) (hx' : x < 4294967296) (h : Agree 3 x) : okN 3 (fd x 0 5) 0 (fd x 21 2) 0 0 (fd x 5 16) = true ∧ wordN 3 (fd x 0 5) 0 (fd x 21 2) 0 0 (fd x 5 16) = x := by
  constructor
  · show ok_3 (fd x 0 5) 0 (fd x 21 2) 0 0 (fd x 5 16) = true
    unfold ok_3
    exact and6 (fd_in x 0 5 31 rfl) rfl (fd_in x 21 2 3 rfl) rfl rfl (fd_in x 5 16 65535 rfl)
  · refine Eq.trans (b := lays (baseL.getD 3 0) [(21, 2, (fd x 21 2)), (5, 16, (fd x 5 16)), (0, 5, (fd x 0 5))]) rfl (lays_hit 3 (by decide) x ⟨hx, hx'⟩ _ rfl ?_ h)
    intro f hf
    simp only [List.mem_cons, List.not_mem_nil, or_false] at hf
    rcases hf with rfl | rfl | rfl
    · exact fd_val x 21 2 hx
    · exact fd_val x 5 16 hx
    · exact fd_val x 0 5 hx
theorem hit_4 (x : Int) (hx : 0 ≤ x) (hx' : x < 4294967296) (h : Agree 4 x) : okN 4 (fd x 0 5) (fd x 5 5) 0 0 0 (fd x 10 12) = true ∧ wordN 4 (fd x 0 5) (fd x 5 5) 0 0 0 (fd x 10 12) = x := by
  constructor
  · show ok_4 (fd x 0 5) (fd x 5 5) 0 0 0 (fd x 10 12) = true
    unfold ok_4
    exact and6 (fd_in x 0 5 31 rfl) (fd_in x 5 5 31 rfl) rfl rfl rfl (fd_in x 10 12 4095 rfl)
  · refine Eq.trans (b := lays (baseL.getD 4 0) [(10, 12, (fd x 10 12)), (5, 5, (fd x 5 5)), (0, 5, (fd x 0 5))]) rfl (lays_hit 4 (by decide) x ⟨hx, hx'⟩ _ rfl ?_ h)
    intro f hf
    simp only [List.mem_cons, List.not_mem_nil, or_false] at hf
    rcases hf with rfl | rfl | rfl
    · exact fd_val x 10 12 hx
    · exact fd_val x 5 5 hx
    · exact fd_val x 0 5 hx
theorem hit_5 (x : Int) (hx : 0 ≤ x) (hx' : x < 4294967296) (h : Agree 5 x) : okN 5 (fd x 0 5) (fd x 5 5) 0 0 0 (fd x 10 12) = true ∧ wordN 5 (fd x 0 5) (fd x 5 5) 0 0 0 (fd x 10 12) = x := by
  constructor
  · show ok_5 (fd x 0 5) (fd x 5 5) 0 0 0 (fd x 10 12) = true
    unfold ok_5
    exact and6 (fd_in x 0 5 31 rfl) (fd_in x 5 5 31 rfl) rfl rfl rfl (fd_in x 10 12 4095 rfl)
  · refine Eq.trans (b := lays (baseL.getD 5 0) [(10, 12, (fd x 10 12)), (5, 5, (fd x 5 5)), (0, 5, (fd x 0 5))]) rfl (lays_hit 5 (by decide) x ⟨hx, hx'⟩ _ rfl ?_ h)
    intro f hf
    simp only [List.mem_cons, List.not_mem_nil, or_false] at hf
    rcases hf with rfl | rfl | rfl
    · exact fd_val x 10 12 hx
    · exact fd_val x 5 5 hx
    · exact fd_val x 0 5 hx
theorem hit_6 (x : Int) (hx : 0 ≤ x) (hx' : x < 4294967296) (h : Agree 6 x) : okN 6 (fd x 0 5) (fd x 5 5) 0 0 0 (fd x 10 12) = true ∧ wordN 6 (fd x 0 5) (fd x 5 5) 0 0 0 (fd x 10 12) = x := by
  constructor
  · show ok_6 (fd x 0 5) (fd x 5 5) 0 0 0 (fd x 10 12) = true
    unfold ok_6
    exact and6 (fd_in x 0 5 31 rfl) (fd_in x 5 5 31 rfl) rfl rfl rfl (fd_in x 10 12 4095 rfl)
  · refine Eq.trans (b := lays (baseL.getD 6 0) [(10, 12, (fd x 10 12)), (5, 5, (fd x 5 5)), (0, 5, (fd x 0 5))]) rfl (lays_hit 6 (by decide) x ⟨hx, hx'⟩ _ rfl ?_ h)
    intro f hf
    simp only [List.mem_cons, List.not_mem_nil, or_false] at hf
    rcases hf with rfl | rfl | rfl
    · exact fd_val x 10 12 hx
    · exact fd_val x 5 5 hx
    · exact fd_val x 0 5 hx
theorem hit_7 (x : Int) (hx : 0 ≤ x) (hx' : x < 4294967296) (h : Agree 7 x) : okN 7 (fd x 0 5) (fd x 5 5) (fd x 16 5) 0 0 0 = true ∧ wordN 7 (fd x 0 5) (fd x 5 5) (fd x 16 5) 0 0 0 = x := by
  constructor
  · show ok_7 (fd x 0 5) (fd x 5 5) (fd x 16 5) 0 0 0 = true
    unfold ok_7
    exact and6 (fd_in x 0 5 31 rfl) (fd_in x 5 5 31 rfl) (fd_in x 16 5 31 rfl) rfl rfl rfl
  · refine Eq.trans (b := lays (baseL.getD 7 0) [(16, 5, (fd x 16 5)), (5, 5, (fd x 5 5)), (0, 5, (fd x 0 5))]) rfl (lays_hit 7 (by decide) x ⟨hx, hx'⟩ _ rfl ?_ h)
    intro f hf
    simp only [List.mem_cons, List.not_mem_nil, or_false] at hf
    rcases hf with rfl | rfl | rfl
    · exact fd_val x 16 5 hx
    · exact fd_val x 5 5 hx
    · exact fd_val x 0 5 hx
theorem hit_8 (x : Int) (hx : 0 ≤ x) (hx' : x < 4294967296) (h : Agree 8 x) : okN 8 (fd x 0 5) (fd x 5 5) (fd x 16 5) 0 0 0 = true ∧ wordN 8 (fd x 0 5) (fd x 5 5) (fd x 16 5) 0 0 0 = x := by
  constructor
  · show ok_8 (fd x 0 5) (fd x 5 5) (fd x 16 5) 0 0 0 = true
    unfold ok_8
    exact and6 (fd_in x 0 5 31 rfl) (fd_in x 5 5 31 rfl) (fd_in x 16 5 31 rfl) rfl rfl rfl
  · refine Eq.trans (b := lays (baseL.getD 8 0) [(16, 5, (fd x 16 5)), (5, 5, (fd x 5 5)), (0, 5, (fd x 0 5))]) rfl (lays_hit 8 (by decide) x ⟨hx, hx'⟩ _ rfl ?_ h)
    intro f hf
    simp only [List.mem_cons, List.not_mem_nil, or_false] at hf
    rcases hf with rfl | rfl | rfl
    · exact fd_val x 16 5 hx
    · exact fd_val x 5 5 hx
    · exact fd_val x 0 5 hx
theorem hit_9 (x : Int) (hx : 0 ≤ x) (hx' : x < 4294967296) (h : Agree 9 x) : okN 9 (fd x 0 5) (fd x 5 5) (fd x 16 5) 0 0 0 = true ∧ wordN 9 (fd x 0 5) (fd x 5 5) (fd x 16 5) 0 0 0 = x := by
  constructor
  · show ok_9 (fd x 0 5) (fd x 5 5) (fd x 16 5) 0 0 0 = true
    unfold ok_9
    exact and6 (fd_in x 0 5 31 rfl) (fd_in x 5 5 31 rfl) (fd_in x 16 5 31 rfl) rfl rfl rfl
  · refine Eq.trans (b := lays (baseL.getD 9 0) [(16, 5, (fd x 16 5)), (5, 5, (fd x 5 5)), (0, 5, (fd x 0 5))]) rfl (lays_hit 9 (by decide) x ⟨hx, hx'⟩ _ rfl ?_ h)
    intro f hf
    simp only [List.mem_cons, List.not_mem_nil, or_false] at hf
    rcases hf with rfl | rfl | rfl
    · exact fd_val x 16 5 hx
    · exact fd_val x 5 5 hx
    · exact fd_val x 0 5 hx
theorem hit_10 (x : Int) (hx : 0 ≤ x) (hx' : x < 4294967296) (h : Agree 10 x) : okN 10 (fd x 0 5) (fd x 5 5) (fd x 16 5) 0 0 0 = true ∧ wordN 10 (fd x 0 5) (fd x 5 5) (fd x 16 5) 0 0 0 = x := by
  constructor
  · show ok_10 (fd x 0 5) (fd x 5 5) (fd x 16 5) 0 0 0 = true
    unfold ok_10
    exact and6 (fd_in x 0 5 31 rfl) (fd_in x 5 5 31 rfl) (fd_in x 16 5 31 rfl) rfl rfl rfl
  · refine Eq.trans (b := lays (baseL.getD 10 0) [(16, 5, (fd x 16 5)), (5, 5, (fd x 5 5)), (0, 5, (fd x 0 5))]) rfl (lays_hit 10 (by decide) x ⟨hx, hx'⟩ _ rfl ?_ h)
    intro f hf
    simp only [List.mem_cons, List.not_mem_nil, or_false] at hf
    rcases hf with rfl | rfl | rfl
    · exact fd_val x 16 5 hx
    · exact fd_val x 5 5 hx
    · exact fd_val x 0 5 hx
theorem hit_11 (x : Int) (hx : 0 ≤ x) (hx' : x < 4294967296) (h : Agree 11 x) : okN 11 (fd x 0 5) (fd x 5 5) (fd x 16 5) 0 0 0 = true ∧ wordN 11 (fd x 0 5) (fd x 5 5) (fd x 16 5) 0 0 0 = x := by
  constructor
  · show ok_11 (fd x 0 5) (fd x 5 5) (fd x 16 5) 0 0 0 = true
    unfold ok_11
    exact and6 (fd_in x 0 5 31 rfl) (fd_in x 5 5 31 rfl) (fd_in x 16 5 31 rfl) rfl rfl rfl
  · refine Eq.trans (b := lays (baseL.getD 11 0) [(16, 5, (fd x 16 5)), (5, 5, (fd x 5 5)), (0, 5, (fd x 0 5))]) rfl (lays_hit 11 (by decide) x ⟨hx, hx'⟩ _ rfl ?_ h)
    intro f hf
    simp only [List.mem_cons, List.not_mem_nil, or_false] at hf
    rcases hf with rfl | rfl | rfl
    · exact fd_val x 16 5 hx
    · exact fd_val x 5 5 hx
    · exact fd_val x 0 5 hx
theorem hit_12 (x : Int) (hx : 0 ≤ x) (hx' : x < 4294967296) (h : Agree 12 x) : okN 12 (fd x 0 5) (fd x 5 5) (fd x 16 5) 0 0 0 = true ∧ wordN 12 (fd x 0 5) (fd x 5 5) (fd x 16 5) 0 0 0 = x := by
  constructor
  · show ok_12 (fd x 0 5) (fd x 5 5) (fd x 16 5) 0 0 0 = true
    unfold ok_12
    exact and6 (fd_in x 0 5 31 rfl) (fd_in x 5 5 31 rfl) (fd_in x 16 5 31 rfl) rfl rfl rfl
  · refine Eq.trans (b := lays (baseL.getD 12 0) [(16, 5, (fd x 16 5)), (5, 5, (fd x 5 5)), (0, 5, (fd x 0 5))]) rfl (lays_hit 12 (by decide) x ⟨hx, hx'⟩ _ rfl ?_ h)
    intro f hf
    simp only [List.mem_cons, List.not_mem_nil, or_false] at hf
    rcases hf with rfl | rfl | rfl
    · exact fd_val x 16 5 hx
    · exact fd_val x 5 5 hx
    · exact fd_val x 0 5 hx
theorem hit_13 (x : Int) (hx : 0 ≤ x) (hx' : x < 4294967296) (h : Agree 13 x) : okN 13 (fd x 0 5) (fd x 5 5) (fd x 16 5) (fd x 10 5) 0 0 = true ∧ wordN 13 (fd x 0 5) (fd x 5 5) (fd x 16 5) (fd x 10 5) 0 0 = x := by
  constructor
  · show ok_13 (fd x 0 5) (fd x 5 5) (fd x 16 5) (fd x 10 5) 0 0 = true
    unfold ok_13
    exact and6 (fd_in x 0 5 31 rfl) (fd_in x 5 5 31 rfl) (fd_in x 16 5 31 rfl) (fd_in x 10 5 31 rfl) rfl rfl
  · refine Eq.trans (b := lays (baseL.getD 13 0) [(16, 5, (fd x 16 5)), (10, 5, (fd x 10 5)), (5, 5, (fd x 5 5)), (0, 5, (fd x 0 5))]) rfl (lays_hit 13 (by decide) x ⟨hx, hx'⟩ _ rfl ?_ h)
    intro f hf
    simp only [List.mem_cons, List.not_mem_nil, or_false] at hf
    rcases hf with rfl | rfl | rfl | rfl
    · exact fd_val x 16 5 hx
    · exact fd_val x 10 5 hx
    · exact fd_val x 5 5 hx
    · exact fd_val x 0 5 hx
theorem hit_14 (x : Int) (hx : 0 ≤ x) (hx' : x < 4294967296) (h : Agree 14 x) : okN 14 (fd x 0 5) (fd x 5 5) (fd x 16 5) (fd x 10 5) 0 0 = true ∧ wordN 14 (fd x 0 5) (fd x 5 5) (fd x 16 5) (fd x 10 5) 0 0 = x := by
  constructor
  · show ok_14 (fd x 0 5) (fd x 5 5) (fd x 16 5) (fd x 10 5) 0 0 = true
    unfold ok_14
    exact and6 (fd_in x 0 5 31 rfl) (fd_in x 5 5 31 rfl) (fd_in x 16 5 31 rfl) (fd_in x 10 5 31 rfl) rfl rfl
  · refine Eq.trans (b := lays (baseL.getD 14 0) [(16, 5, (fd x 16 5)), (10, 5, (fd x 10 5)), (5, 5, (fd x 5 5)), (0, 5, (fd x 0 5))]) rfl (lays_hit 14 (by decide) x ⟨hx, hx'⟩ _ rfl ?_ h)
    intro f hf
    simp only [List.mem_cons, List.not_mem_nil, or_false] at hf
    rcases hf with rfl | rfl | rfl | rfl
    · exact fd_val x 16 5 hx
    · exact fd_val x 10 5 hx
    · exact fd_val x 5 5 hx
    · exact fd_val x 0 5 hx
theorem hit_15 (x : Int) (hx : 0 ≤ x) (hx' : x < 4294967296) (h : Agree 15 x) : okN 15 (fd x 0 5) (fd x 5 5) (fd x 16 5) 0 0 0 = true ∧ wordN 15 (fd x 0 5) (fd x 5 5) (fd x 16 5) 0 0 0 = x := by
  constructor
  · show ok_15 (fd x 0 5) (fd x 5 5) (fd x 16 5) 0 0 0 = true
    unfold ok_15
    exact and6 (fd_in x 0 5 31 rfl) (fd_in x 5 5 31 rfl) (fd_in x 16 5 31 rfl) rfl rfl rfl
  · refine Eq.trans (b := lays (baseL.getD 15 0) [(16, 5, (fd x 16 5)), (5, 5, (fd x 5 5)), (0, 5, (fd x 0 5))]) rfl (lays_hit 15 (by decide) x ⟨hx, hx'⟩ _ rfl ?_ h)
    intro f hf
    simp only [List.mem_cons, List.not_mem_nil, or_false] at hf
    rcases hf with rfl | rfl | rfl
    · exact fd_val x 16 5 hx
    · exact fd_val x 5 5 hx
    · exact fd_val x 0 5 hx
theorem hit_16 (x : Int) (hx : 0 ≤ x) (hx' : x < 4294967296) (h : Agree 16 x) : okN 16 (fd x 0 5) (fd x 5 5) (fd x 16 5) 0 0 0 = true ∧ wordN 16 (fd x 0 5) (fd x 5 5) (fd x 16 5) 0 0 0 = x := by
  constructor
  · show ok_16 (fd x 0 5) (fd x 5 5) (fd x 16 5) 0 0 0 = true
    unfold ok_16
    exact and6 (fd_in x 0 5 31 rfl) (fd_in x 5 5 31 rfl) (fd_in x 16 5 31 rfl) rfl rfl rfl
  · refine Eq.trans (b := lays (baseL.getD 16 0) [(16, 5, (fd x 16 5)), (5, 5, (fd x 5 5)), (0, 5, (fd x 0 5))]) rfl (lays_hit 16 (by decide) x ⟨hx, hx'⟩ _ rfl ?_ h)
    intro f hf
    simp only [List.mem_cons, List.not_mem_nil, or_false] at hf
    rcases hf with rfl | rfl | rfl
    · exact fd_val x 16 5 hx
    · exact fd_val x 5 5 hx
    · exact fd_val x 0 5 hx
theorem hit_17 (x : Int) (hx : 0 ≤ x) (hx' : x < 4294967296) (h : Agree 17 x) : okN 17 (fd x 0 5) (fd x 5 5) (fd x 16 5) 0 0 0 = true ∧ wordN 17 (fd x 0 5) (fd x 5 5) (fd x 16 5) 0 0 0 = x := by
  constructor
  · show ok_17 (fd x 0 5) (fd x 5 5) (fd x 16 5) 0 0 0 = true
    unfold ok_17
    exact and6 (fd_in x 0 5 31 rfl) (fd_in x 5 5 31 rfl) (fd_in x 16 5 31 rfl) rfl rfl rfl
  · refine Eq.trans (b := lays (baseL.getD 17 0) [(16, 5, (fd x 16 5)), (5, 5, (fd x 5 5)), (0, 5, (fd x 0 5))]) rfl (lays_hit 17 (by decide) x ⟨hx, hx'⟩ _ rfl ?_ h)
    intro f hf
    simp only [List.mem_cons, List.not_mem_nil, or_false] at hf
    rcases hf with rfl | rfl | rfl
    · exact fd_val x 16 5 hx
    · exact fd_val x 5 5 hx
    · exact fd_val x 0 5 hx
theorem hit_18 (x : Int) (hx : 0 ≤ x) (hx' : x < 4294967296) (h : Agree 18 x) : okN 18 (fd x 0 5) (fd x 5 5) (fd x 16 5) 0 0 0 = true ∧ wordN 18 (fd x 0 5) (fd x 5 5) (fd x 16 5) 0 0 0 = x := by
  constructor
  · show ok_18 (fd x 0 5) (fd x 5 5) (fd x 16 5) 0 0 0 = true
    unfold ok_18
    exact and6 (fd_in x 0 5 31 rfl) (fd_in x 5 5 31 rfl) (fd_in x 16 5 31 rfl) rfl rfl rfl
  · refine Eq.trans (b := lays (baseL.getD 18 0) [(16, 5, (fd x 16 5)), (5, 5, (fd x 5 5)), (0, 5, (fd x 0 5))]) rfl (lays_hit 18 (by decide) x ⟨hx, hx'⟩ _ rfl ?_ h)
    intro f hf
    simp only [List.mem_cons, List.not_mem_nil, or_false] at hf
    rcases hf with rfl | rfl | rfl
    · exact fd_val x 16 5 hx
    · exact fd_val x 5 5 hx
    · exact fd_val x 0 5 hx
theorem hit_19 (x : Int) (hx : 0 ≤ x) (hx' : x < 4294967296) (h : Agree 19 x) : okN 19 (fd x 0 5) (fd x 5 5) (fd x 16 5) 0 (fd x 12 4) 0 = true ∧ wordN 19 (fd x 0 5) (fd x 5 5) (fd x 16 5) 0 (fd x 12 4) 0 = x := by
  constructor
  · show ok_19 (fd x 0 5) (fd x 5 5) (fd x 16 5) 0 (fd x 12 4) 0 = true
    unfold ok_19
    exact and6 (fd_in x 0 5 31 rfl) (fd_in x 5 5 31 rfl) (fd_in x 16 5 31 rfl) rfl (fd_in x 12 4 15 rfl) rfl
  · refine Eq.trans (b := lays (baseL.getD 19 0) [(16, 5, (fd x 16 5)), (12, 4, (fd x 12 4)), (5, 5, (fd x 5 5)), (0, 5, (fd x 0 5))]) rfl (lays_hit 19 (by decide) x ⟨hx, hx'⟩ _ rfl ?_ h)
    intro f hf
    simp only [List.mem_cons, List.not_mem_nil, or_false] at hf
    rcases hf with rfl | rfl | rfl | rfl
    · exact fd_val x 16 5 hx
    · exact fd_val x 12 4 hx
    · exact fd_val x 5 5 hx
    · exact fd_val x 0 5 hx
theorem hit_20 (x : Int) (hx : 0 ≤ x) (hx' : x < 4294967296) (h : Agree 20 x) : okN 20 0 0 0 0 0 (off x 0 26) = true ∧ wordN 20 0 0 0 0 0 (off x 0 26) = x := by
  constructor
  · show ok_20 0 0 0 0 0 (off x 0 26) = true
    unfold ok_20
    exact and6 rfl rfl rfl rfl rfl (off26_in x)
  · refine Eq.trans (b := lays (baseL.getD 20 0) [(0, 26, ((off x 0 26) / 4 % 4294967296))]) rfl (lays_hit 20 (by decide) x ⟨hx, hx'⟩ _ rfl ?_ h)
    intro f hf
    simp only [List.mem_cons, List.not_mem_nil, or_false] at hf
    rcases hf with rfl
    · exact off26_val x hx
theorem hit_21 (x : Int) (hx : 0 ≤ x) (hx' : x < 4294967296) (h : Agree 21 x) (hc : fd x 0 4 < 14) : okN 21 0 0 0 0 (fd x 0 4) (off x 5 19) = true ∧ wordN 21 0 0 0 0 (fd x 0 4) (off x 5 19) = x := by
  constructor
  · have hcc : wi (fd x 0 4) 0 13 = true := by
      have := fd_range x 0 4
      unfold wi
      simp only [decide_eq_true_eq]
      omega
    show ok_21 0 0 0 0 (fd x 0 4) (off x 5 19) = true
    unfold ok_21
    exact and6 rfl rfl rfl rfl hcc (off19_in x)
  · refine Eq.trans (b := lays (baseL.getD 21 0) [(5, 19, ((off x 5 19) / 4 % 4294967296)), (0, 4, (fd x 0 4))]) rfl (lays_hit 21 (by decide) x ⟨hx, hx'⟩ _ rfl ?_ h)
    intro f hf
    simp only [List.mem_cons, List.not_mem_nil, or_false] at hf
    rcases hf with rfl | rfl
    · exact off19_val x hx
    · exact fd_val x 0 4 hx
theorem hit_22 (x : Int) (hx : 0 ≤ x) (hx' : x < 4294967296) (h : Agree 22 x) : okN 22 (fd x 0 5) 0 0 0 0 (off x 5 19) = true ∧ wordN 22 (fd x 0 5) 0 0 0 0 (off x 5 19) = x := by
  constructor
  · show ok_22 (fd x 0 5) 0 0 0 0 (off x 5 19) = true
    unfold ok_22
    exact and6 (fd_in x 0 5 31 rfl) rfl rfl rfl rfl (off19_in x)
  · refine Eq.trans (b := lays (baseL.getD 22 0) [(5, 19, ((off x 5 19) / 4 % 4294967296)), (0, 5, (fd x 0 5))]) rfl (lays_hit 22 (by decide) x ⟨hx, hx'⟩ _ rfl ?_ h)
    intro f hf
    simp only [List.mem_cons, List.not_mem_nil, or_false] at hf
    rcases hf with rfl | rfl
    · exact off19_val x hx
    · exact fd_val x 0 5 hx
theorem hit_23 (x : Int) (hx : 0 ≤ x) (hx' : x < 4294967296) (h : Agree 23 x) : okN 23 (fd x 0 5) 0 0 0 0 (off x 5 19) = true ∧ wordN 23 (fd x 0 5) 0 0 0 0 (off x 5 19) = x := by
  constructor
  · show ok_23 (fd x 0 5) 0 0 0 0 (off x 5 19) = true
    unfold ok_23
    exact and6 (fd_in x 0 5 31 rfl) rfl rfl rfl rfl (off19_in x)
  · refine Eq.trans (b := lays (baseL.getD 23 0) [(5, 19, ((off x 5 19) / 4 % 4294967296)), (0, 5, (fd x 0 5))]) rfl (lays_hit 23 (by decide) x ⟨hx, hx'⟩ _ rfl ?_ h)
    intro f hf
    simp only [List.mem_cons, List.not_mem_nil, or_false] at hf
    rcases hf with rfl | rfl
    · exact off19_val x hx
    · exact fd_val x 0 5 hx
theorem hit_24 (x : Int) (hx : 0 ≤ x) (hx' : x < 4294967296) (h : Agree 24 x) : okN 24 0 0 0 0 0 (off x 0 26) = true ∧ wordN 24 0 0 0 0 0 (off x 0 26) = x := by
  constructor
  · show ok_24 0 0 0 0 0 (off x 0 26) = true
    unfold ok_24
    exact and6 rfl rfl rfl rfl rfl (off26_in x)
  · refine Eq.trans (b := lays (baseL.getD 24 0) [(0, 26, ((off x 0 26) / 4 % 4294967296))]) rfl (lays_hit 24 (by decide) x ⟨hx, hx'⟩ _ rfl ?_ h)
    intro f hf
    simp only [List.mem_cons, List.not_mem_nil, or_false] at hf
    rcases hf with rfl
    · exact off26_val x hx
theorem hit_25 (x : Int) (hx : 0 ≤ x) (hx' : x < 4294967296) (h : Agree 25 x) : okN 25 0 (fd x 5 5) 0 0 0 0 = true ∧ wordN 25 0 (fd x 5 5) 0 0 0 0 = x := by
  constructor
  · show ok_25 0 (fd x 5 5) 0 0 0 0 = true
    unfold ok_25
    exact and6 rfl (fd_in x 5 5 31 rfl) rfl rfl rfl rfl
  · refine Eq.trans (b := lays (baseL.getD 25 0) [(5, 5, (fd x 5 5))]) rfl (lays_hit 25 (by decide) x ⟨hx, hx'⟩ _ rfl ?_ h)
    intro f hf
    simp only [List.mem_cons, List.not_mem_nil, or_false] at hf
    rcases hf with rfl
    · exact fd_val x 5 5 hx
theorem hit_26 (x : Int) (hx : 0 ≤ x) (hx' : x < 4294967296) (h : Agree 26 x) : okN 26 0 (fd x 5 5) 0 0 0 0 = true ∧ wordN 26 0 (fd x 5 5) 0 0 0 0 = x := by
  constructor
  · show ok_26 0 (fd x 5 5) 0 0 0 0 = true
    unfold ok_26
    exact and6 rfl (fd_in x 5 5 31 rfl) rfl rfl rfl rfl
  · refine Eq.trans (b := lays (baseL.getD 26 0) [(5, 5, (fd x 5 5))]) rfl (lays_hit 26 (by decide) x ⟨hx, hx'⟩ _ rfl ?_ h)
    intro f hf
    simp only [List.mem_cons, List.not_mem_nil, or_false] at hf
    rcases hf with rfl
    · exact fd_val x 5 5 hx
theorem hit_27 (x : Int) (hx : 0 ≤ x) (hx' : x < 4294967296) (h : Agree 27 x) : okN 27 0 (fd x 5 5) 0 0 0 0 = true ∧ wordN 27 0 (fd x 5 5) 0 0 0 0 = x := by
  constructor
  · show ok_27 0 (fd x 5 5) 0 0 0 0 = true
    unfold ok_27
    exact and6 rfl (fd_in x 5 5 31 rfl) rfl rfl rfl rfl
  · refine Eq.trans (b := lays (baseL.getD 27 0) [(5, 5, (fd x 5 5))]) rfl (lays_hit 27 (by decide) x ⟨hx, hx'⟩ _ rfl ?_ h)
    intro f hf
    simp only [List.mem_cons, List.not_mem_nil, or_false] at hf
    rcases hf with rfl
    · exact fd_val x 5 5 hx
theorem hit_28 (x : Int) (hx : 0 ≤ x) (hx' : x < 4294967296) (h : Agree 28 x) : okN 28 (fd x 0 5) (fd x 5 5) 0 0 0 (fd x 10 12 * 8) = true ∧ wordN 28 (fd x 0 5) (fd x 5 5) 0 0 0 (fd x 10 12 * 8) = x := by
  constructor
  · show ok_28 (fd x 0 5) (fd x 5 5) 0 0 0 (fd x 10 12 * 8) = true
    unfold ok_28
    exact and6 (fd_in x 0 5 31 rfl) (fd_in x 5 5 31 rfl) rfl rfl rfl (fd8_in x)
  · refine Eq.trans (b := lays (baseL.getD 28 0) [(10, 12, ((fd x 10 12 * 8) / 8)), (5, 5, (fd x 5 5)), (0, 5, (fd x 0 5))]) rfl (lays_hit 28 (by decide) x ⟨hx, hx'⟩ _ rfl ?_ h)
    intro f hf
    simp only [List.mem_cons, List.not_mem_nil, or_false] at hf
    rcases hf with rfl | rfl | rfl
    · exact fd8_val x hx
    · exact fd_val x 5 5 hx
    · exact fd_val x 0 5 hx
theorem hit_29 (x : Int) (hx : 0 ≤ x) (hx' : x < 4294967296) (h : Agree 29 x) : okN 29 (fd x 0 5) (fd x 5 5) 0 0 0 (fd x 10 12 * 8) = true ∧ wordN 29 (fd x 0 5) (fd x 5 5) 0 0 0 (fd x 10 12 * 8) = x := by
  constructor
  · show ok_29 (fd x 0 5) (fd x 5 5) 0 0 0 (fd x 10 12 * 8) = true
    unfold ok_29
    exact and6 (fd_in x 0 5 31 rfl) (fd_in x 5 5 31 rfl) rfl rfl rfl (fd8_in x)
  · refine Eq.trans (b := lays (baseL.getD 29 0) [(10, 12, ((fd x 10 12 * 8) / 8)), (5, 5, (fd x 5 5)), (0, 5, (fd x 0 5))]) rfl (lays_hit 29 (by decide) x ⟨hx, hx'⟩ _ rfl ?_ h)
    intro f hf
    simp only [List.mem_cons, List.not_mem_nil, or_false] at hf
    rcases hf with rfl | rfl | rfl
    · exact fd8_val x hx
    · exact fd_val x 5 5 hx
    · exact fd_val x 0 5 hx
theorem hit_30 (x : Int) (hx : 0 ≤ x) (hx' : x < 4294967296) (h : Agree 30 x) : okN 30 (fd x 0 5) (fd x 5 5) 0 0 0 (fd x 10 12) = true ∧ wordN 30 (fd x 0 5) (fd x 5 5) 0 0 0 (fd x 10 12) = x := by
  constructor
  · show ok_30 (fd x 0 5) (fd x 5 5) 0 0 0 (fd x 10 12) = true
    unfold ok_30
    exact and6 (fd_in x 0 5 31 rfl) (fd_in x 5 5 31 rfl) rfl rfl rfl (fd_in x 10 12 4095 rfl)
  · refine Eq.trans (b := lays (baseL.getD 30 0) [(10, 12, (fd x 10 12)), (5, 5, (fd x 5 5)), (0, 5, (fd x 0 5))]) rfl (lays_hit 30 (by decide) x ⟨hx, hx'⟩ _ rfl ?_ h)
    intro f hf
    simp only [List.mem_cons, List.not_mem_nil, or_false] at hf
    rcases hf with rfl | rfl | rfl
    · exact fd_val x 10 12 hx
    · exact fd_val x 5 5 hx
    · exact fd_val x 0 5 hx
theorem hit_31 (x : Int) (hx : 0 ≤ x) (hx' : x < 4294967296) (h : Agree 31 x) : okN 31 (fd x 0 5) (fd x 5 5) (fd x 16 5) 0 0 0 = true ∧ wordN 31 (fd x 0 5) (fd x 5 5) (fd x 16 5) 0 0 0 = x := by
  constructor
  · show ok_31 (fd x 0 5) (fd x 5 5) (fd x 16 5) 0 0 0 = true
    unfold ok_31
    exact and6 (fd_in x 0 5 31 rfl) (fd_in x 5 5 31 rfl) (fd_in x 16 5 31 rfl) rfl rfl rfl
  · refine Eq.trans (b := lays (baseL.getD 31 0) [(16, 5, (fd x 16 5)), (5, 5, (fd x 5 5)), (0, 5, (fd x 0 5))]) rfl (lays_hit 31 (by decide) x ⟨hx, hx'⟩ _ rfl ?_ h)
    intro f hf
    simp only [List.mem_cons, List.not_mem_nil, or_false] at hf
    rcases hf with rfl | rfl | rfl
    · exact fd_val x 16 5 hx
    · exact fd_val x 5 5 hx
    · exact fd_val x 0 5 hx
theorem hit_32 (x : Int) (hx : 0 ≤ x) (hx' : x < 4294967296) (h : Agree 32 x) : okN 32 (fd x 0 5) (fd x 5 5) (fd x 16 5) 0 0 0 = true ∧ wordN 32 (fd x 0 5) (fd x 5 5) (fd x 16 5) 0 0 0 = x := by
  constructor
  · show ok_32 (fd x 0 5) (fd x 5 5) (fd x 16 5) 0 0 0 = true
    unfold ok_32
    exact and6 (fd_in x 0 5 31 rfl) (fd_in x 5 5 31 rfl) (fd_in x 16 5 31 rfl) rfl rfl rfl
  · refine Eq.trans (b := lays (baseL.getD 32 0) [(16, 5, (fd x 16 5)), (5, 5, (fd x 5 5)), (0, 5, (fd x 0 5))]) rfl (lays_hit 32 (by decide) x ⟨hx, hx'⟩ _ rfl ?_ h)
    intro f hf
    simp only [List.mem_cons, List.not_mem_nil, or_false] at hf
    rcases hf with rfl | rfl | rfl
    · exact fd_val x 16 5 hx
    · exact fd_val x 5 5 hx
    · exact fd_val x 0 5 hx
theorem hit_33 (x : Int) (hx : 0 ≤ x) (hx' : x < 4294967296) (h : Agree 33 x) : okN 33 (fd x 0 5) (fd x 5 5) 0 0 0 0 = true ∧ wordN 33 (fd x 0 5) (fd x 5 5) 0 0 0 0 = x := by
  constructor
  · show ok_33 (fd x 0 5) (fd x 5 5) 0 0 0 0 = true
    unfold ok_33
    exact and6 (fd_in x 0 5 31 rfl) (fd_in x 5 5 31 rfl) rfl rfl rfl rfl
  · refine Eq.trans (b := lays (baseL.getD 33 0) [(5, 5, (fd x 5 5)), (0, 5, (fd x 0 5))]) rfl (lays_hit 33 (by decide) x ⟨hx, hx'⟩ _ rfl ?_ h)
    intro f hf
    simp only [List.mem_cons, List.not_mem_nil, or_false] at hf
    rcases hf with rfl | rfl
    · exact fd_val x 5 5 hx
    · exact fd_val x 0 5 hx
theorem hit_34 (x : Int) (hx : 0 ≤ x) (hx' : x < 4294967296) (h : Agree 34 x) : okN 34 (fd x 0 5) (fd x 5 5) 0 0 0 0 = true ∧ wordN 34 (fd x 0 5) (fd x 5 5) 0 0 0 0 = x := by
  constructor
  · show ok_34 (fd x 0 5) (fd x 5 5) 0 0 0 0 = true
    unfold ok_34
    exact and6 (fd_in x 0 5 31 rfl) (fd_in x 5 5 31 rfl) rfl rfl rfl rfl
  · refine Eq.trans (b := lays (baseL.getD 34 0) [(5, 5, (fd x 5 5)), (0, 5, (fd x 0 5))]) rfl (lays_hit 34 (by decide) x ⟨hx, hx'⟩ _ rfl ?_ h)
    intro f hf
    simp only [List.mem_cons, List.not_mem_nil, or_false] at hf
    rcases hf with rfl | rfl
    · exact fd_val x 5 5 hx
    · exact fd_val x 0 5 hx
theorem hit_35 (x : Int) (hx : 0 ≤ x) (hx' : x < 4294967296) (h : Agree 35 x) : okN 35 (fd x 0 5) (fd x 5 5) 0 0 0 0 = true ∧ wordN 35 (fd x 0 5) (fd x 5 5) 0 0 0 0 = x := by
  constructor
  · show ok_35 (fd x 0 5) (fd x 5 5) 0 0 0 0 = true
    unfold ok_35
    exact and6 (fd_in x 0 5 31 rfl) (fd_in x 5 5 31 rfl) rfl rfl rfl rfl
  · refine Eq.trans (b := lays (baseL.getD 35 0) [(5, 5, (fd x 5 5)), (0, 5, (fd x 0 5))]) rfl (lays_hit 35 (by decide) x ⟨hx, hx'⟩ _ rfl ?_ h)
    intro f hf
    simp only [List.mem_cons, List.not_mem_nil, or_false] at hf
    rcases hf with rfl | rfl
    · exact fd_val x 5 5 hx
    · exact fd_val x 0 5 hx
theorem hit_36 (x : Int) (hx : 0 ≤ x) (hx' : x < 4294967296) (h : Agree 36 x) : okN 36 (fd x 16 5) (fd x 5 5) (fd x 0 5) 0 0 0 = true ∧ wordN 36 (fd x 16 5) (fd x 5 5) (fd x 0 5) 0 0 0 = x := by
  constructor
  · show ok_36 (fd x 16 5) (fd x 5 5) (fd x 0 5) 0 0 0 = true
    unfold ok_36
    exact and6 (fd_in x 16 5 31 rfl) (fd_in x 5 5 31 rfl) (fd_in x 0 5 31 rfl) rfl rfl rfl
  · refine Eq.trans (b := lays (baseL.getD 36 0) [(16, 5, (fd x 16 5)), (5, 5, (fd x 5 5)), (0, 5, (fd x 0 5))]) rfl (lays_hit 36 (by decide) x ⟨hx, hx'⟩ _ rfl ?_ h)
    intro f hf
    simp only [List.mem_cons, List.not_mem_nil, or_false] at hf
    rcases hf with rfl | rfl | rfl
    · exact fd_val x 16 5 hx
    · exact fd_val x 5 5 hx
    · exact fd_val x 0 5 hx
theorem hit_38 (x : Int) (hx : 0 ≤ x) (hx' : x < 4294967296) (h : Agree 38 x) : okN 38 0 0 0 0 0 0 = true ∧ wordN 38 0 0 0 0 0 0 = x := by
  constructor
  · rfl
  · refine Eq.trans (b := lays (baseL.getD 38 0) []) rfl (lays_hit 38 (by decide) x ⟨hx, hx'⟩ _ rfl ?_ h)
    intro f hf
    cases hf
theorem hit_39 (x : Int) (hx : 0 ≤ x) (hx' : x < 4294967296) (h : Agree 39 x) : okN 39 0 0 0 0 0 0 = true ∧ wordN 39 0 0 0 0 0 0 = x := by
  constructor
  · rfl
  · refine Eq.trans (b := lays (baseL.getD 39 0) []) rfl (lays_hit 39 (by decide) x ⟨hx, hx'⟩ _ rfl ?_ h)
    intro f hf
    cases hf
theorem hit_40 (x : Int) (hx : 0 ≤ x) (hx' : x < 4294967296) (h : Agree 40 x) : okN 40 0 (fd x 0 5) 0 0 0 0 = true ∧ wordN 40 0 (fd x 0 5) 0 0 0 0 = x := by
  constructor
  · show ok_40 0 (fd x 0 5) 0 0 0 0 = true
    unfold ok_40
    exact and6 rfl (fd_in x 0 5 31 rfl) rfl rfl rfl rfl
  · refine Eq.trans (b := lays (baseL.getD 40 0) [(0, 5, (fd x 0 5))]) rfl (lays_hit 40 (by decide) x ⟨hx, hx'⟩ _ rfl ?_ h)
    intro f hf
    simp only [List.mem_cons, List.not_mem_nil, or_false] at hf
    rcases hf with rfl
    · exact fd_val x 0 5 hx
theorem hit_41 (x : Int) (hx : 0 ≤ x) (hx' : x < 4294967296) (h : Agree 41 x) : okN 41 0 (fd x 0 5) 0 0 0 0 = true ∧ wordN 41 0 (fd x 0 5) 0 0 0 0 = x := by
  constructor
  · show ok_41 0 (fd x 0 5) 0 0 0 0 = true
    unfold ok_41
    exact and6 rfl (fd_in x 0 5 31 rfl) rfl rfl rfl rfl
  · refine Eq.trans (b := lays (baseL.getD 41 0) [(0, 5, (fd x 0 5))]) rfl (lays_hit 41 (by decide) x ⟨hx, hx'⟩ _ rfl ?_ h)
    intro f hf
    simp only [List.mem_cons, List.not_mem_nil, or_false] at hf
    rcases hf with rfl
    · exact fd_val x 0 5 hx
theorem hit_42 (x : Int) (hx : 0 ≤ x) (hx' : x < 4294967296) (h : Agree 42 x) : okN 42 0 0 0 0 0 (fd x 5 16) = true ∧ wordN 42 0 0 0 0 0 (fd x 5 16) = x := by
  constructor
  · show ok_42 0 0 0 0 0 (fd x 5 16) = true
    unfold ok_42
    exact and6 rfl rfl rfl rfl rfl (fd_in x 5 16 65535 rfl)
  · refine Eq.trans (b := lays (baseL.getD 42 0) [(5, 16, (fd x 5 16))]) rfl (lays_hit 42 (by decide) x ⟨hx, hx'⟩ _ rfl ?_ h)
    intro f hf
    simp only [List.mem_cons, List.not_mem_nil, or_false] at hf
    rcases hf with rfl
    · exact fd_val x 5 16 hx
end Go.Proofs.Ytnbpgoacooddjaa.En
