import Derived.Test.YtnbpgoacooddjaaEEm
import Derived.Test.YtnbpgoacooddjaaEWd
namespace Go.Proofs.Ytnbpgoacooddjaa.Fr
end Go.Proofs.Ytnbpgoacooddjaa.Fr
namespace Go.Proofs.Ytnbpgoacooddjaa.En
open Go.Proofs.Ytnbpgoacooddjaa.Fr
open Go.RowKit
set_option linter.unusedVariables false
/-- Fields laid one behind the other. -/
def lays (X : Int) (l : List (Nat × Nat × Int)) : Int := l.foldl (fun X f => putS X f.1 f.2.1 f.2.2) X
theorem putS_toNat (X V : Int) (lo n : Nat) (hln : lo + n ≤ 32) (hn : 1 ≤ n) : (putS X lo n V).toNat = putN X.toNat lo n V.toNat := by rw [putS_nat X V lo n hln hn, Int.toNat_natCast]
def fits (l : List (Nat × Nat × Int)) : Prop := ∀ f ∈ l, f.1 + f.2.1 ≤ 32 ∧ 1 ≤ f.2.1
theorem lays_range : ∀ (l : List (Nat × Nat × Int)) (X : Int), 0 ≤ X ∧ X < 4294967296 → 0 ≤ lays X l ∧ lays X l < 4294967296
  | [], X, h => h
  | f :: l, X, h => lays_range l _ (putS_lt X f.1 f.2.1 f.2.2 h.1 h.2)
/-- Outside the fields a word is its base. -/
theorem lays_bit : ∀ (l : List (Nat × Nat × Int)) (X : Int), 0 ≤ X ∧ X < 4294967296 → fits l → ∀ i, (∀ f ∈ l, i < f.1 ∨ f.1 + f.2.1 ≤ i) → (lays X l).toNat.testBit i = X.toNat.testBit i
  | [], X, h, hf, i, hi => rfl
  | f :: l, X, h, hf, i, hi => by
    have h1 := hf f (by simp)
    have h2 := hi f (by simp)
    have ih := lays_bit l (putS X f.1 f.2.1 f.2.2) (putS_lt X f.1 f.2.1 f.2.2 h.1 h.2) (fun g hg => hf g (by simp [hg])) i (fun g hg => hi g (by simp [hg]))
    refine ih.trans ?_
    rw [putS_toNat X f.2.2 f.1 f.2.1 h1.1 h1.2, putN_testBit _ _ _ _ _ (by omega) h1.1, if_neg (by omega)]
/-- A field of a word is what was laid there, where the later ones leave it alone. -/
theorem lays_field (f : Nat × Nat × Int) (l : List (Nat × Nat × Int)) (X : Int) (hX : 0 ≤ X ∧ X < 4294967296) (hf : fits (f :: l)) (hd : ∀ g ∈ l, g.1 + g.2.1 ≤ f.1 ∨ f.1 + f.2.1 ≤ g.1) :
    (lays X (f :: l)).toNat / 2 ^ f.1 % 2 ^ f.2.1 = f.2.2.toNat % 2 ^ f.2.1 := by
  have h1 := hf f (by simp)
  apply Nat.eq_of_testBit_eq
  intro i
  rw [Nat.testBit_mod_two_pow, Nat.testBit_mod_two_pow, Nat.testBit_div_two_pow]
  by_cases hi : i < f.2.1
  · have ih := lays_bit l (putS X f.1 f.2.1 f.2.2) (putS_lt X f.1 f.2.1 f.2.2 hX.1 hX.2) (fun g hg => hf g (by simp [hg])) (i + f.1) (fun g hg => by have := hd g hg; omega)
    have e : lays X (f :: l) = lays (putS X f.1 f.2.1 f.2.2) l := rfl
    rw [e, ih, putS_toNat X f.2.2 f.1 f.2.1 h1.1 h1.2, putN_testBit _ _ _ _ _ (by omega) h1.1, if_pos (by omega), Nat.add_sub_cancel]
  · simp [hi]
end Go.Proofs.Ytnbpgoacooddjaa.En
