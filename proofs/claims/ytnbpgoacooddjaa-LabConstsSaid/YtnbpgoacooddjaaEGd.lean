import Derived.Test.YtnbpgoacooddjaaEGa
namespace Go.Proofs.Ytnbpgoacooddjaa.Fr
end Go.Proofs.Ytnbpgoacooddjaa.Fr
namespace Go.Proofs.Ytnbpgoacooddjaa.En
open Go.Proofs.Ytnbpgoacooddjaa.Fr
open Go.ChangeShapes Go.WideShapes Go.ChangeAt Go.RowKit
set_option linter.unusedVariables false
def gd (o : Nat) (x : Int) : Int := match o with
  | 2 => fd x 0 5
  | 3 => fd x 0 5
  | 4 => fd x 0 5
  | 5 => fd x 0 5
  | 6 => fd x 0 5
  | 7 => fd x 0 5
  | 8 => fd x 0 5
  | 9 => fd x 0 5
  | 10 => fd x 0 5
  | 11 => fd x 0 5
  | 12 => fd x 0 5
  | 13 => fd x 0 5
  | 14 => fd x 0 5
  | 15 => fd x 0 5
  | 16 => fd x 0 5
  | 17 => fd x 0 5
  | 18 => fd x 0 5
  | 19 => fd x 0 5
  | 22 => fd x 0 5
  | 23 => fd x 0 5
  | 28 => fd x 0 5
  | 29 => fd x 0 5
  | 30 => fd x 0 5
  | 31 => fd x 0 5
  | 32 => fd x 0 5
  | 33 => fd x 0 5
  | 34 => fd x 0 5
  | 35 => fd x 0 5
  | 36 => fd x 16 5
  | _ => 0
def gn (o : Nat) (x : Int) : Int := match o with
  | 4 => fd x 5 5
  | 5 => fd x 5 5
  | 6 => fd x 5 5
  | 7 => fd x 5 5
  | 8 => fd x 5 5
  | 9 => fd x 5 5
  | 10 => fd x 5 5
  | 11 => fd x 5 5
  | 12 => fd x 5 5
  | 13 => fd x 5 5
  | 14 => fd x 5 5
  | 15 => fd x 5 5
  | 16 => fd x 5 5
  | 17 => fd x 5 5
  | 18 => fd x 5 5
  | 19 => fd x 5 5
  | 25 => fd x 5 5
  | 26 => fd x 5 5
  | 27 => fd x 5 5
  | 28 => fd x 5 5
  | 29 => fd x 5 5
  | 30 => fd x 5 5
  | 31 => fd x 5 5
  | 32 => fd x 5 5
  | 33 => fd x 5 5
  | 34 => fd x 5 5
  | 35 => fd x 5 5
  | 36 => fd x 5 5
  | 40 => fd x 0 5
  | 41 => fd x 0 5
  | _ => 0
def gm (o : Nat) (x : Int) : Int := match o with
  | 2 => fd x 21 2
  | 3 => fd x 21 2
  | 7 => fd x 16 5
  | 8 => fd x 16 5
  | 9 => fd x 16 5
  | 10 => fd x 16 5
  | 11 => fd x 16 5
  | 12 => fd x 16 5
  | 13 => fd x 16 5
  | 14 => fd x 16 5
  | 15 => fd x 16 5
  | 16 => fd x 16 5
  | 17 => fd x 16 5
  | 18 => fd x 16 5
  | 19 => fd x 16 5
  | 31 => fd x 16 5
  | 32 => fd x 16 5
  | 36 => fd x 0 5
  | _ => 0
def ga (o : Nat) (x : Int) : Int := match o with
  | 13 => fd x 10 5
  | 14 => fd x 10 5
  | _ => 0
def gc (o : Nat) (x : Int) : Int := match o with
  | 19 => fd x 12 4
  | 21 => fd x 0 4
  | _ => 0
def gi (o : Nat) (x : Int) : Int := match o with
  | 0 => fd x 0 16
  | 2 => fd x 5 16
  | 3 => fd x 5 16
  | 4 => fd x 10 12
  | 5 => fd x 10 12
  | 6 => fd x 10 12
  | 20 => off x 0 26
  | 21 => off x 5 19
  | 22 => off x 5 19
  | 23 => off x 5 19
  | 24 => off x 0 26
  | 28 => fd x 10 12 * 8
  | 29 => fd x 10 12 * 8
  | 30 => fd x 10 12
  | 42 => fd x 5 16
  | _ => 0
theorem field21 (d n m a c i x : Int) (h : okN 21 d n m a c i = true) (e : wordN 21 d n m a c i = x) (hx : 0 ≤ x) : fd x 0 4 < 14 := by
  have h' : ok_21 d n m a c i = true := h
  have e' : putS (putS 1409286144 5 19 (i / 4 % 4294967296)) 0 4 c = x := e
  simp only [ok_21, wi, wm, Bool.and_eq_true, decide_eq_true_eq, beq_iff_eq] at h'
  have f1 := lays_field2 0 4 c [] (putS 1409286144 5 19 (i / 4 % 4294967296)) (putS_lt 1409286144 5 19 (i / 4 % 4294967296) (by decide : (0 : Int) ≤ 1409286144 ∧ (1409286144 : Int) < 4294967296).1 (by decide : (0 : Int) ≤ 1409286144 ∧ (1409286144 : Int) < 4294967296).2) rfl
  have e1 : (lays (putS 1409286144 5 19 (i / 4 % 4294967296)) ((0, 4, c) :: [])) = x := e'
  rw [e1] at f1
  rw [fd_nat x 0 4 hx, f1]
  simp only [show (2 : Nat) ^ 4 = 16 from rfl]
  omega
/-- Where an op's guess is not the word's, no instruction of that op is. -/
theorem nohit_of (j : Nat) (h1 : 1 ≤ j) (hj : j < 43) (h37 : j ≠ 37) (x : Int) (hx : 0 ≤ x) (hx' : x < 4294967296) (h : okN j (gd j x) (gn j x) (gm j x) (ga j x) (gc j x) (gi j x) = true → wordN j (gd j x) (gn j x) (gm j x) (ga j x) (gc j x) (gi j x) ≠ x) (d n m a c i : Int) (hok : okN j d n m a c i = true) : wordN j d n m a c i ≠ x := by
  intro hw
  have hA := word_agree j hj d n m a c i x hw
  have : j = 1 ∨ j = 2 ∨ j = 3 ∨ j = 4 ∨ j = 5 ∨ j = 6 ∨ j = 7 ∨ j = 8 ∨ j = 9 ∨ j = 10 ∨ j = 11 ∨ j = 12 ∨ j = 13 ∨ j = 14 ∨ j = 15 ∨ j = 16 ∨ j = 17 ∨ j = 18 ∨ j = 19 ∨ j = 20 ∨ j = 21 ∨ j = 22 ∨ j = 23 ∨ j = 24 ∨ j = 25 ∨ j = 26 ∨ j = 27 ∨ j = 28 ∨ j = 29 ∨ j = 30 ∨ j = 31 ∨ j = 32 ∨ j = 33 ∨ j = 34 ∨ j = 35 ∨ j = 36 ∨ j = 38 ∨ j = 39 ∨ j = 40 ∨ j = 41 ∨ j = 42 := by omega
  rcases this with rfl | rfl | rfl | rfl | rfl | rfl | rfl | rfl | rfl | rfl | rfl | rfl | rfl | rfl | rfl | rfl | rfl | rfl | rfl | rfl | rfl | rfl | rfl | rfl | rfl | rfl | rfl | rfl | rfl | rfl | rfl | rfl | rfl | rfl | rfl | rfl | rfl | rfl | rfl | rfl | rfl
  · exact absurd (hit_1 x hx hx' hA).2 (h (hit_1 x hx hx' hA).1)
  · exact absurd (hit_2 x hx hx' hA).2 (h (hit_2 x hx hx' hA).1)
  · exact absurd (hit_3 x hx hx' hA).2 (h (hit_3 x hx hx' hA).1)
  · exact absurd (hit_4 x hx hx' hA).2 (h (hit_4 x hx hx' hA).1)
  · exact absurd (hit_5 x hx hx' hA).2 (h (hit_5 x hx hx' hA).1)
  · exact absurd (hit_6 x hx hx' hA).2 (h (hit_6 x hx hx' hA).1)
  · exact absurd (hit_7 x hx hx' hA).2 (h (hit_7 x hx hx' hA).1)
  · exact absurd (hit_8 x hx hx' hA).2 (h (hit_8 x hx hx' hA).1)
  · exact absurd (hit_9 x hx hx' hA).2 (h (hit_9 x hx hx' hA).1)
  · exact absurd (hit_10 x hx hx' hA).2 (h (hit_10 x hx hx' hA).1)
  · exact absurd (hit_11 x hx hx' hA).2 (h (hit_11 x hx hx' hA).1)
  · exact absurd (hit_12 x hx hx' hA).2 (h (hit_12 x hx hx' hA).1)
  · exact absurd (hit_13 x hx hx' hA).2 (h (hit_13 x hx hx' hA).1)
  · exact absurd (hit_14 x hx hx' hA).2 (h (hit_14 x hx hx' hA).1)
  · exact absurd (hit_15 x hx hx' hA).2 (h (hit_15 x hx hx' hA).1)
  · exact absurd (hit_16 x hx hx' hA).2 (h (hit_16 x hx hx' hA).1)
  · exact absurd (hit_17 x hx hx' hA).2 (h (hit_17 x hx hx' hA).1)
  · exact absurd (hit_18 x hx hx' hA).2 (h (hit_18 x hx hx' hA).1)
  · exact absurd (hit_19 x hx hx' hA).2 (h (hit_19 x hx hx' hA).1)
  · exact absurd (hit_20 x hx hx' hA).2 (h (hit_20 x hx hx' hA).1)
  · exact absurd (hit_21 x hx hx' hA (field21 d n m a c i x hok hw hx)).2 (h (hit_21 x hx hx' hA (field21 d n m a c i x hok hw hx)).1)
  · exact absurd (hit_22 x hx hx' hA).2 (h (hit_22 x hx hx' hA).1)
  · exact absurd (hit_23 x hx hx' hA).2 (h (hit_23 x hx hx' hA).1)
  · exact absurd (hit_24 x hx hx' hA).2 (h (hit_24 x hx hx' hA).1)
  · exact absurd (hit_25 x hx hx' hA).2 (h (hit_25 x hx hx' hA).1)
  · exact absurd (hit_26 x hx hx' hA).2 (h (hit_26 x hx hx' hA).1)
  · exact absurd (hit_27 x hx hx' hA).2 (h (hit_27 x hx hx' hA).1)
  · exact absurd (hit_28 x hx hx' hA).2 (h (hit_28 x hx hx' hA).1)
  · exact absurd (hit_29 x hx hx' hA).2 (h (hit_29 x hx hx' hA).1)
  · exact absurd (hit_30 x hx hx' hA).2 (h (hit_30 x hx hx' hA).1)
  · exact absurd (hit_31 x hx hx' hA).2 (h (hit_31 x hx hx' hA).1)
  · exact absurd (hit_32 x hx hx' hA).2 (h (hit_32 x hx hx' hA).1)
  · exact absurd (hit_33 x hx hx' hA).2 (h (hit_33 x hx hx' hA).1)
  · exact absurd (hit_34 x hx hx' hA).2 (h (hit_34 x hx hx' hA).1)
  · exact absurd (hit_35 x hx hx' hA).2 (h (hit_35 x hx hx' hA).1)
  · exact absurd (hit_36 x hx hx' hA).2 (h (hit_36 x hx hx' hA).1)
  · exact absurd (hit_38 x hx hx' hA).2 (h (hit_38 x hx hx' hA).1)
  · exact absurd (hit_39 x hx hx' hA).2 (h (hit_39 x hx hx' hA).1)
  · exact absurd (hit_40 x hx hx' hA).2 (h (hit_40 x hx hx' hA).1)
  · exact absurd (hit_41 x hx hx' hA).2 (h (hit_41 x hx hx' hA).1)
  · exact absurd (hit_42 x hx hx' hA).2 (h (hit_42 x hx hx' hA).1)
end Go.Proofs.Ytnbpgoacooddjaa.En
