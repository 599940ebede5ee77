import Derived.Test.YthgpolddbadfmaaGa
import Derived.Test.YthgpolddbadfmaaGv
import Derived.Test.YthgpolddbadfmaaRwA
import Derived.Test.YthgpolddbadfmaaRwB
import Derived.Test.YthgpolddbadfmaaRwC
import Derived.Test.YthgpolddbadfmaaRwD
import Derived.Test.YthgpolddbadfmaaRfC
namespace Go.Proofs.Ythgpolddbadfmaa
open Go.ChangeShapes Go.WideShapes Go.ChangeAt Go.RowKit
set_option linter.unusedVariables false
def gd (o : Nat) (x : Int) : Int := match o with
  | 2 => fd x 0 5
  | 3 => fd x 0 5
  | 4 => fd x 0 5
  | 5 => fd x 0 5
  | 6 => fd x 0 5
  | 7 => fd x 0 5
  | 8 => fd x 0 5
  | 9 => fd x 0 5
  | 10 => fd x 0 5
  | 11 => fd x 0 5
  | 12 => fd x 0 5
  | 13 => fd x 0 5
  | 14 => fd x 0 5
  | 15 => fd x 0 5
  | 16 => fd x 0 5
  | 17 => fd x 0 5
  | 18 => fd x 0 5
  | 19 => fd x 0 5
  | 22 => fd x 0 5
  | 23 => fd x 0 5
  | 28 => fd x 0 5
  | 29 => fd x 0 5
  | 30 => fd x 0 5
  | 31 => fd x 0 5
  | 32 => fd x 0 5
  | 33 => fd x 0 5
  | 34 => fd x 0 5
  | 35 => fd x 0 5
  | 36 => fd x 16 5
  | _ => 0
def gn (o : Nat) (x : Int) : Int := match o with
  | 4 => fd x 5 5
  | 5 => fd x 5 5
  | 6 => fd x 5 5
  | 7 => fd x 5 5
  | 8 => fd x 5 5
  | 9 => fd x 5 5
  | 10 => fd x 5 5
  | 11 => fd x 5 5
  | 12 => fd x 5 5
  | 13 => fd x 5 5
  | 14 => fd x 5 5
  | 15 => fd x 5 5
  | 16 => fd x 5 5
  | 17 => fd x 5 5
  | 18 => fd x 5 5
  | 19 => fd x 5 5
  | 25 => fd x 5 5
  | 26 => fd x 5 5
  | 27 => fd x 5 5
  | 28 => fd x 5 5
  | 29 => fd x 5 5
  | 30 => fd x 5 5
  | 31 => fd x 5 5
  | 32 => fd x 5 5
  | 33 => fd x 5 5
  | 34 => fd x 5 5
  | 35 => fd x 5 5
  | 36 => fd x 5 5
  | 40 => fd x 0 5
  | 41 => fd x 0 5
  | _ => 0
def gm (o : Nat) (x : Int) : Int := match o with
  | 2 => fd x 21 2
  | 3 => fd x 21 2
  | 7 => fd x 16 5
  | 8 => fd x 16 5
  | 9 => fd x 16 5
  | 10 => fd x 16 5
  | 11 => fd x 16 5
  | 12 => fd x 16 5
  | 13 => fd x 16 5
  | 14 => fd x 16 5
  | 15 => fd x 16 5
  | 16 => fd x 16 5
  | 17 => fd x 16 5
  | 18 => fd x 16 5
  | 19 => fd x 16 5
  | 31 => fd x 16 5
  | 32 => fd x 16 5
  | 36 => fd x 0 5
  | _ => 0
def ga (o : Nat) (x : Int) : Int := match o with
  | 13 => fd x 10 5
  | 14 => fd x 10 5
  | _ => 0
def gc (o : Nat) (x : Int) : Int := match o with
  | 19 => fd x 12 4
  | 21 => fd x 0 4
  | _ => 0
def gi (o : Nat) (x : Int) : Int := match o with
  | 0 => fd x 0 16
  | 2 => fd x 5 16
  | 3 => fd x 5 16
  | 4 => fd x 10 12
  | 5 => fd x 10 12
  | 6 => fd x 10 12
  | 20 => off x 0 26
  | 21 => off x 5 19
  | 22 => off x 5 19
  | 23 => off x 5 19
  | 24 => off x 0 26
  | 28 => fd x 10 12 * 8
  | 29 => fd x 10 12 * 8
  | 30 => fd x 10 12
  | 42 => fd x 5 16
  | _ => 0
theorem guess_g (x op : Int) (j : Nat) (hj : j < 43) (ho : op = (j : Int)) (w : World) (hx : 0 ≤ x) (hx' : x < 4294967296) :
    Calls Try.prog 45 #[.int .i64 op, .int .u32 x] w fun e w' => e = .returned (I7 op (gd j x) (gn j x) (gm j x) (ga j x) (gc j x) (gi j x)) ∧ Below w.heap.size w w' := by
  have : j = 0 ∨ j = 1 ∨ j = 2 ∨ j = 3 ∨ j = 4 ∨ j = 5 ∨ j = 6 ∨ j = 7 ∨ j = 8 ∨ j = 9 ∨ j = 10 ∨ j = 11 ∨ j = 12 ∨ j = 13 ∨ j = 14 ∨ j = 15 ∨ j = 16 ∨ j = 17 ∨ j = 18 ∨ j = 19 ∨ j = 20 ∨ j = 21 ∨ j = 22 ∨ j = 23 ∨ j = 24 ∨ j = 25 ∨ j = 26 ∨ j = 27 ∨ j = 28 ∨ j = 29 ∨ j = 30 ∨ j = 31 ∨ j = 32 ∨ j = 33 ∨ j = 34 ∨ j = 35 ∨ j = 36 ∨ j = 37 ∨ j = 38 ∨ j = 39 ∨ j = 40 ∨ j = 41 ∨ j = 42 := by omega
  subst ho
  rcases this with rfl | rfl | rfl | rfl | rfl | rfl | rfl | rfl | rfl | rfl | rfl | rfl | rfl | rfl | rfl | rfl | rfl | rfl | rfl | rfl | rfl | rfl | rfl | rfl | rfl | rfl | rfl | rfl | rfl | rfl | rfl | rfl | rfl | rfl | rfl | rfl | rfl | rfl | rfl | rfl | rfl | rfl | rfl
  · exact guess_0 x w hx hx'
  · exact guess_1 x w hx hx'
  · exact guess_2 x w hx hx'
  · exact guess_3 x w hx hx'
  · exact guess_4 x w hx hx'
  · exact guess_5 x w hx hx'
  · exact guess_6 x w hx hx'
  · exact guess_7 x w hx hx'
  · exact guess_8 x w hx hx'
  · exact guess_9 x w hx hx'
  · exact guess_10 x w hx hx'
  · exact guess_11 x w hx hx'
  · exact guess_12 x w hx hx'
  · exact guess_13 x w hx hx'
  · exact guess_14 x w hx hx'
  · exact guess_15 x w hx hx'
  · exact guess_16 x w hx hx'
  · exact guess_17 x w hx hx'
  · exact guess_18 x w hx hx'
  · exact guess_19 x w hx hx'
  · exact guess_20 x w hx hx'
  · exact guess_21 x w hx hx'
  · exact guess_22 x w hx hx'
  · exact guess_23 x w hx hx'
  · exact guess_24 x w hx hx'
  · exact guess_25 x w hx hx'
  · exact guess_26 x w hx hx'
  · exact guess_27 x w hx hx'
  · exact guess_28 x w hx hx'
  · exact guess_29 x w hx hx'
  · exact guess_30 x w hx hx'
  · exact guess_31 x w hx hx'
  · exact guess_32 x w hx hx'
  · exact guess_33 x w hx hx'
  · exact guess_34 x w hx hx'
  · exact guess_35 x w hx hx'
  · exact guess_36 x w hx hx'
  · exact guess_37 x w hx hx'
  · exact guess_38 x w hx hx'
  · exact guess_39 x w hx hx'
  · exact guess_40 x w hx hx'
  · exact guess_41 x w hx hx'
  · exact guess_42 x w hx hx'
theorem rword_g (op d n m a c i : Int) (j : Nat) (hj : j < 43) (ho : op = (j : Int)) (w : World) (h : okN j d n m a c i = true) :
    Calls Try.prog 11 #[I7 op d n m a c i] w fun e w' => e = .returned (.tuple #[.int .u32 (wordN j d n m a c i), .int .i64 0]) ∧ Below w.heap.size w w' := by
  have : j = 0 ∨ j = 1 ∨ j = 2 ∨ j = 3 ∨ j = 4 ∨ j = 5 ∨ j = 6 ∨ j = 7 ∨ j = 8 ∨ j = 9 ∨ j = 10 ∨ j = 11 ∨ j = 12 ∨ j = 13 ∨ j = 14 ∨ j = 15 ∨ j = 16 ∨ j = 17 ∨ j = 18 ∨ j = 19 ∨ j = 20 ∨ j = 21 ∨ j = 22 ∨ j = 23 ∨ j = 24 ∨ j = 25 ∨ j = 26 ∨ j = 27 ∨ j = 28 ∨ j = 29 ∨ j = 30 ∨ j = 31 ∨ j = 32 ∨ j = 33 ∨ j = 34 ∨ j = 35 ∨ j = 36 ∨ j = 37 ∨ j = 38 ∨ j = 39 ∨ j = 40 ∨ j = 41 ∨ j = 42 := by omega
  subst ho
  rcases this with rfl | rfl | rfl | rfl | rfl | rfl | rfl | rfl | rfl | rfl | rfl | rfl | rfl | rfl | rfl | rfl | rfl | rfl | rfl | rfl | rfl | rfl | rfl | rfl | rfl | rfl | rfl | rfl | rfl | rfl | rfl | rfl | rfl | rfl | rfl | rfl | rfl | rfl | rfl | rfl | rfl | rfl | rfl
  · exact rword_0 d n m a c i w h
  · exact rword_1 d n m a c i w h
  · exact rword_2 d n m a c i w h
  · exact rword_3 d n m a c i w h
  · exact rword_4 d n m a c i w h
  · exact rword_5 d n m a c i w h
  · exact rword_6 d n m a c i w h
  · exact rword_7 d n m a c i w h
  · exact rword_8 d n m a c i w h
  · exact rword_9 d n m a c i w h
  · exact rword_10 d n m a c i w h
  · exact rword_11 d n m a c i w h
  · exact rword_12 d n m a c i w h
  · exact rword_13 d n m a c i w h
  · exact rword_14 d n m a c i w h
  · exact rword_15 d n m a c i w h
  · exact rword_16 d n m a c i w h
  · exact rword_17 d n m a c i w h
  · exact rword_18 d n m a c i w h
  · exact rword_19 d n m a c i w h
  · exact rword_20 d n m a c i w h
  · exact rword_21 d n m a c i w h
  · exact rword_22 d n m a c i w h
  · exact rword_23 d n m a c i w h
  · exact rword_24 d n m a c i w h
  · exact rword_25 d n m a c i w h
  · exact rword_26 d n m a c i w h
  · exact rword_27 d n m a c i w h
  · exact rword_28 d n m a c i w h
  · exact rword_29 d n m a c i w h
  · exact rword_30 d n m a c i w h
  · exact rword_31 d n m a c i w h
  · exact rword_32 d n m a c i w h
  · exact rword_33 d n m a c i w h
  · exact rword_34 d n m a c i w h
  · exact rword_35 d n m a c i w h
  · exact rword_36 d n m a c i w h
  · exact rword_37 d n m a c i w h
  · exact rword_38 d n m a c i w h
  · exact rword_39 d n m a c i w h
  · exact rword_40 d n m a c i w h
  · exact rword_41 d n m a c i w h
  · exact rword_42 d n m a c i w h
theorem field21 (d n m a c i x : Int) (h : okN 21 d n m a c i = true) (e : wordN 21 d n m a c i = x) (hx : 0 ≤ x) : fd x 0 4 < 14 := by
  have h' : ok_21 d n m a c i = true := h
  have e' : putS (putS 1409286144 5 19 (i / 4 % 4294967296)) 0 4 c = x := e
  simp only [ok_21, wi, wm, Bool.and_eq_true, decide_eq_true_eq, beq_iff_eq] at h'
  have f1 := lays_field2 0 4 c [] (putS 1409286144 5 19 (i / 4 % 4294967296)) (putS_lt 1409286144 5 19 (i / 4 % 4294967296) (by decide : (0 : Int) ≤ 1409286144 ∧ (1409286144 : Int) < 4294967296).1 (by decide : (0 : Int) ≤ 1409286144 ∧ (1409286144 : Int) < 4294967296).2) rfl
  have e1 : (lays (putS 1409286144 5 19 (i / 4 % 4294967296)) ((0, 4, c) :: [])) = x := e'
  rw [e1] at f1
  rw [fd_nat x 0 4 hx, f1]
  simp only [show (2 : Nat) ^ 4 = 16 from rfl]
  omega
/-- Where an op's guess is not the word's, no instruction of that op is. -/
theorem nohit_of (j : Nat) (h1 : 1 ≤ j) (hj : j < 43) (h37 : j ≠ 37) (x : Int) (hx : 0 ≤ x) (hx' : x < 4294967296) (h : okN j (gd j x) (gn j x) (gm j x) (ga j x) (gc j x) (gi j x) = true → wordN j (gd j x) (gn j x) (gm j x) (ga j x) (gc j x) (gi j x) ≠ x) (d n m a c i : Int) (hok : okN j d n m a c i = true) : wordN j d n m a c i ≠ x := by
  intro hw
  have hA := word_agree j hj d n m a c i x hw
  have : j = 1 ∨ j = 2 ∨ j = 3 ∨ j = 4 ∨ j = 5 ∨ j = 6 ∨ j = 7 ∨ j = 8 ∨ j = 9 ∨ j = 10 ∨ j = 11 ∨ j = 12 ∨ j = 13 ∨ j = 14 ∨ j = 15 ∨ j = 16 ∨ j = 17 ∨ j = 18 ∨ j = 19 ∨ j = 20 ∨ j = 21 ∨ j = 22 ∨ j = 23 ∨ j = 24 ∨ j = 25 ∨ j = 26 ∨ j = 27 ∨ j = 28 ∨ j = 29 ∨ j = 30 ∨ j = 31 ∨ j = 32 ∨ j = 33 ∨ j = 34 ∨ j = 35 ∨ j = 36 ∨ j = 38 ∨ j = 39 ∨ j = 40 ∨ j = 41 ∨ j = 42 := by omega
  rcases this with rfl | rfl | rfl | rfl | rfl | rfl | rfl | rfl | rfl | rfl | rfl | rfl | rfl | rfl | rfl | rfl | rfl | rfl | rfl | rfl | rfl | rfl | rfl | rfl | rfl | rfl | rfl | rfl | rfl | rfl | rfl | rfl | rfl | rfl | rfl | rfl | rfl | rfl | rfl | rfl | rfl
  · exact absurd (hit_1 x hx hx' hA).2 (h (hit_1 x hx hx' hA).1)
  · exact absurd (hit_2 x hx hx' hA).2 (h (hit_2 x hx hx' hA).1)
  · exact absurd (hit_3 x hx hx' hA).2 (h (hit_3 x hx hx' hA).1)
  · exact absurd (hit_4 x hx hx' hA).2 (h (hit_4 x hx hx' hA).1)
  · exact absurd (hit_5 x hx hx' hA).2 (h (hit_5 x hx hx' hA).1)
  · exact absurd (hit_6 x hx hx' hA).2 (h (hit_6 x hx hx' hA).1)
  · exact absurd (hit_7 x hx hx' hA).2 (h (hit_7 x hx hx' hA).1)
  · exact absurd (hit_8 x hx hx' hA).2 (h (hit_8 x hx hx' hA).1)
  · exact absurd (hit_9 x hx hx' hA).2 (h (hit_9 x hx hx' hA).1)
  · exact absurd (hit_10 x hx hx' hA).2 (h (hit_10 x hx hx' hA).1)
  · exact absurd (hit_11 x hx hx' hA).2 (h (hit_11 x hx hx' hA).1)
  · exact absurd (hit_12 x hx hx' hA).2 (h (hit_12 x hx hx' hA).1)
  · exact absurd (hit_13 x hx hx' hA).2 (h (hit_13 x hx hx' hA).1)
  · exact absurd (hit_14 x hx hx' hA).2 (h (hit_14 x hx hx' hA).1)
  · exact absurd (hit_15 x hx hx' hA).2 (h (hit_15 x hx hx' hA).1)
  · exact absurd (hit_16 x hx hx' hA).2 (h (hit_16 x hx hx' hA).1)
  · exact absurd (hit_17 x hx hx' hA).2 (h (hit_17 x hx hx' hA).1)
  · exact absurd (hit_18 x hx hx' hA).2 (h (hit_18 x hx hx' hA).1)
  · exact absurd (hit_19 x hx hx' hA).2 (h (hit_19 x hx hx' hA).1)
  · exact absurd (hit_20 x hx hx' hA).2 (h (hit_20 x hx hx' hA).1)
  · exact absurd (hit_21 x hx hx' hA (field21 d n m a c i x hok hw hx)).2 (h (hit_21 x hx hx' hA (field21 d n m a c i x hok hw hx)).1)
  · exact absurd (hit_22 x hx hx' hA).2 (h (hit_22 x hx hx' hA).1)
  · exact absurd (hit_23 x hx hx' hA).2 (h (hit_23 x hx hx' hA).1)
  · exact absurd (hit_24 x hx hx' hA).2 (h (hit_24 x hx hx' hA).1)
  · exact absurd (hit_25 x hx hx' hA).2 (h (hit_25 x hx hx' hA).1)
  · exact absurd (hit_26 x hx hx' hA).2 (h (hit_26 x hx hx' hA).1)
  · exact absurd (hit_27 x hx hx' hA).2 (h (hit_27 x hx hx' hA).1)
  · exact absurd (hit_28 x hx hx' hA).2 (h (hit_28 x hx hx' hA).1)
  · exact absurd (hit_29 x hx hx' hA).2 (h (hit_29 x hx hx' hA).1)
  · exact absurd (hit_30 x hx hx' hA).2 (h (hit_30 x hx hx' hA).1)
  · exact absurd (hit_31 x hx hx' hA).2 (h (hit_31 x hx hx' hA).1)
  · exact absurd (hit_32 x hx hx' hA).2 (h (hit_32 x hx hx' hA).1)
  · exact absurd (hit_33 x hx hx' hA).2 (h (hit_33 x hx hx' hA).1)
  · exact absurd (hit_34 x hx hx' hA).2 (h (hit_34 x hx hx' hA).1)
  · exact absurd (hit_35 x hx hx' hA).2 (h (hit_35 x hx hx' hA).1)
  · exact absurd (hit_36 x hx hx' hA).2 (h (hit_36 x hx hx' hA).1)
  · exact absurd (hit_38 x hx hx' hA).2 (h (hit_38 x hx hx' hA).1)
  · exact absurd (hit_39 x hx hx' hA).2 (h (hit_39 x hx hx' hA).1)
  · exact absurd (hit_40 x hx hx' hA).2 (h (hit_40 x hx hx' hA).1)
  · exact absurd (hit_41 x hx hx' hA).2 (h (hit_41 x hx hx' hA).1)
  · exact absurd (hit_42 x hx hx' hA).2 (h (hit_42 x hx hx' hA).1)
theorem guess_ok (j : Nat) (h1 : 1 ≤ j) (hj : j < 43) (h21 : j ≠ 21) (x : Int) (hx : 0 ≤ x) (hx' : x < 4294967296) : okN j (gd j x) (gn j x) (gm j x) (ga j x) (gc j x) (gi j x) = true := by
  have : j = 1 ∨ j = 2 ∨ j = 3 ∨ j = 4 ∨ j = 5 ∨ j = 6 ∨ j = 7 ∨ j = 8 ∨ j = 9 ∨ j = 10 ∨ j = 11 ∨ j = 12 ∨ j = 13 ∨ j = 14 ∨ j = 15 ∨ j = 16 ∨ j = 17 ∨ j = 18 ∨ j = 19 ∨ j = 20 ∨ j = 22 ∨ j = 23 ∨ j = 24 ∨ j = 25 ∨ j = 26 ∨ j = 27 ∨ j = 28 ∨ j = 29 ∨ j = 30 ∨ j = 31 ∨ j = 32 ∨ j = 33 ∨ j = 34 ∨ j = 35 ∨ j = 36 ∨ j = 37 ∨ j = 38 ∨ j = 39 ∨ j = 40 ∨ j = 41 ∨ j = 42 := by omega
  rcases this with rfl | rfl | rfl | rfl | rfl | rfl | rfl | rfl | rfl | rfl | rfl | rfl | rfl | rfl | rfl | rfl | rfl | rfl | rfl | rfl | rfl | rfl | rfl | rfl | rfl | rfl | rfl | rfl | rfl | rfl | rfl | rfl | rfl | rfl | rfl | rfl | rfl | rfl | rfl | rfl | rfl
  · rfl
  · show ok_2 (fd x 0 5) 0 (fd x 21 2) 0 0 (fd x 5 16) = true
    unfold ok_2
    exact and6 (fd_in x 0 5 31 rfl) rfl (fd_in x 21 2 3 rfl) rfl rfl (fd_in x 5 16 65535 rfl)
  · show ok_3 (fd x 0 5) 0 (fd x 21 2) 0 0 (fd x 5 16) = true
    unfold ok_3
    exact and6 (fd_in x 0 5 31 rfl) rfl (fd_in x 21 2 3 rfl) rfl rfl (fd_in x 5 16 65535 rfl)
  · show ok_4 (fd x 0 5) (fd x 5 5) 0 0 0 (fd x 10 12) = true
    unfold ok_4
    exact and6 (fd_in x 0 5 31 rfl) (fd_in x 5 5 31 rfl) rfl rfl rfl (fd_in x 10 12 4095 rfl)
  · show ok_5 (fd x 0 5) (fd x 5 5) 0 0 0 (fd x 10 12) = true
    unfold ok_5
    exact and6 (fd_in x 0 5 31 rfl) (fd_in x 5 5 31 rfl) rfl rfl rfl (fd_in x 10 12 4095 rfl)
  · show ok_6 (fd x 0 5) (fd x 5 5) 0 0 0 (fd x 10 12) = true
    unfold ok_6
    exact and6 (fd_in x 0 5 31 rfl) (fd_in x 5 5 31 rfl) rfl rfl rfl (fd_in x 10 12 4095 rfl)
  · show ok_7 (fd x 0 5) (fd x 5 5) (fd x 16 5) 0 0 0 = true
    unfold ok_7
    exact and6 (fd_in x 0 5 31 rfl) (fd_in x 5 5 31 rfl) (fd_in x 16 5 31 rfl) rfl rfl rfl
  · show ok_8 (fd x 0 5) (fd x 5 5) (fd x 16 5) 0 0 0 = true
    unfold ok_8
    exact and6 (fd_in x 0 5 31 rfl) (fd_in x 5 5 31 rfl) (fd_in x 16 5 31 rfl) rfl rfl rfl
  · show ok_9 (fd x 0 5) (fd x 5 5) (fd x 16 5) 0 0 0 = true
    unfold ok_9
    exact and6 (fd_in x 0 5 31 rfl) (fd_in x 5 5 31 rfl) (fd_in x 16 5 31 rfl) rfl rfl rfl
  · show ok_10 (fd x 0 5) (fd x 5 5) (fd x 16 5) 0 0 0 = true
    unfold ok_10
    exact and6 (fd_in x 0 5 31 rfl) (fd_in x 5 5 31 rfl) (fd_in x 16 5 31 rfl) rfl rfl rfl
  · show ok_11 (fd x 0 5) (fd x 5 5) (fd x 16 5) 0 0 0 = true
    unfold ok_11
    exact and6 (fd_in x 0 5 31 rfl) (fd_in x 5 5 31 rfl) (fd_in x 16 5 31 rfl) rfl rfl rfl
  · show ok_12 (fd x 0 5) (fd x 5 5) (fd x 16 5) 0 0 0 = true
    unfold ok_12
    exact and6 (fd_in x 0 5 31 rfl) (fd_in x 5 5 31 rfl) (fd_in x 16 5 31 rfl) rfl rfl rfl
  · show ok_13 (fd x 0 5) (fd x 5 5) (fd x 16 5) (fd x 10 5) 0 0 = true
    unfold ok_13
    exact and6 (fd_in x 0 5 31 rfl) (fd_in x 5 5 31 rfl) (fd_in x 16 5 31 rfl) (fd_in x 10 5 31 rfl) rfl rfl
  · show ok_14 (fd x 0 5) (fd x 5 5) (fd x 16 5) (fd x 10 5) 0 0 = true
    unfold ok_14
    exact and6 (fd_in x 0 5 31 rfl) (fd_in x 5 5 31 rfl) (fd_in x 16 5 31 rfl) (fd_in x 10 5 31 rfl) rfl rfl
  · show ok_15 (fd x 0 5) (fd x 5 5) (fd x 16 5) 0 0 0 = true
    unfold ok_15
    exact and6 (fd_in x 0 5 31 rfl) (fd_in x 5 5 31 rfl) (fd_in x 16 5 31 rfl) rfl rfl rfl
  · show ok_16 (fd x 0 5) (fd x 5 5) (fd x 16 5) 0 0 0 = true
    unfold ok_16
    exact and6 (fd_in x 0 5 31 rfl) (fd_in x 5 5 31 rfl) (fd_in x 16 5 31 rfl) rfl rfl rfl
  · show ok_17 (fd x 0 5) (fd x 5 5) (fd x 16 5) 0 0 0 = true
    unfold ok_17
    exact and6 (fd_in x 0 5 31 rfl) (fd_in x 5 5 31 rfl) (fd_in x 16 5 31 rfl) rfl rfl rfl
  · show ok_18 (fd x 0 5) (fd x 5 5) (fd x 16 5) 0 0 0 = true
    unfold ok_18
    exact and6 (fd_in x 0 5 31 rfl) (fd_in x 5 5 31 rfl) (fd_in x 16 5 31 rfl) rfl rfl rfl
  · show ok_19 (fd x 0 5) (fd x 5 5) (fd x 16 5) 0 (fd x 12 4) 0 = true
    unfold ok_19
    exact and6 (fd_in x 0 5 31 rfl) (fd_in x 5 5 31 rfl) (fd_in x 16 5 31 rfl) rfl (fd_in x 12 4 15 rfl) rfl
  · show ok_20 0 0 0 0 0 (off x 0 26) = true
    unfold ok_20
    exact and6 rfl rfl rfl rfl rfl (off26_in x)
  · show ok_22 (fd x 0 5) 0 0 0 0 (off x 5 19) = true
    unfold ok_22
    exact and6 (fd_in x 0 5 31 rfl) rfl rfl rfl rfl (off19_in x)
  · show ok_23 (fd x 0 5) 0 0 0 0 (off x 5 19) = true
    unfold ok_23
    exact and6 (fd_in x 0 5 31 rfl) rfl rfl rfl rfl (off19_in x)
  · show ok_24 0 0 0 0 0 (off x 0 26) = true
    unfold ok_24
    exact and6 rfl rfl rfl rfl rfl (off26_in x)
  · show ok_25 0 (fd x 5 5) 0 0 0 0 = true
    unfold ok_25
    exact and6 rfl (fd_in x 5 5 31 rfl) rfl rfl rfl rfl
  · show ok_26 0 (fd x 5 5) 0 0 0 0 = true
    unfold ok_26
    exact and6 rfl (fd_in x 5 5 31 rfl) rfl rfl rfl rfl
  · show ok_27 0 (fd x 5 5) 0 0 0 0 = true
    unfold ok_27
    exact and6 rfl (fd_in x 5 5 31 rfl) rfl rfl rfl rfl
  · show ok_28 (fd x 0 5) (fd x 5 5) 0 0 0 (fd x 10 12 * 8) = true
    unfold ok_28
    exact and6 (fd_in x 0 5 31 rfl) (fd_in x 5 5 31 rfl) rfl rfl rfl (fd8_in x)
  · show ok_29 (fd x 0 5) (fd x 5 5) 0 0 0 (fd x 10 12 * 8) = true
    unfold ok_29
    exact and6 (fd_in x 0 5 31 rfl) (fd_in x 5 5 31 rfl) rfl rfl rfl (fd8_in x)
  · show ok_30 (fd x 0 5) (fd x 5 5) 0 0 0 (fd x 10 12) = true
    unfold ok_30
    exact and6 (fd_in x 0 5 31 rfl) (fd_in x 5 5 31 rfl) rfl rfl rfl (fd_in x 10 12 4095 rfl)
  · show ok_31 (fd x 0 5) (fd x 5 5) (fd x 16 5) 0 0 0 = true
    unfold ok_31
    exact and6 (fd_in x 0 5 31 rfl) (fd_in x 5 5 31 rfl) (fd_in x 16 5 31 rfl) rfl rfl rfl
  · show ok_32 (fd x 0 5) (fd x 5 5) (fd x 16 5) 0 0 0 = true
    unfold ok_32
    exact and6 (fd_in x 0 5 31 rfl) (fd_in x 5 5 31 rfl) (fd_in x 16 5 31 rfl) rfl rfl rfl
  · show ok_33 (fd x 0 5) (fd x 5 5) 0 0 0 0 = true
    unfold ok_33
    exact and6 (fd_in x 0 5 31 rfl) (fd_in x 5 5 31 rfl) rfl rfl rfl rfl
  · show ok_34 (fd x 0 5) (fd x 5 5) 0 0 0 0 = true
    unfold ok_34
    exact and6 (fd_in x 0 5 31 rfl) (fd_in x 5 5 31 rfl) rfl rfl rfl rfl
  · show ok_35 (fd x 0 5) (fd x 5 5) 0 0 0 0 = true
    unfold ok_35
    exact and6 (fd_in x 0 5 31 rfl) (fd_in x 5 5 31 rfl) rfl rfl rfl rfl
  · show ok_36 (fd x 16 5) (fd x 5 5) (fd x 0 5) 0 0 0 = true
    unfold ok_36
    exact and6 (fd_in x 16 5 31 rfl) (fd_in x 5 5 31 rfl) (fd_in x 0 5 31 rfl) rfl rfl rfl
  · rfl
  · rfl
  · rfl
  · show ok_40 0 (fd x 0 5) 0 0 0 0 = true
    unfold ok_40
    exact and6 rfl (fd_in x 0 5 31 rfl) rfl rfl rfl rfl
  · show ok_41 0 (fd x 0 5) 0 0 0 0 = true
    unfold ok_41
    exact and6 rfl (fd_in x 0 5 31 rfl) rfl rfl rfl rfl
  · show ok_42 0 0 0 0 0 (fd x 5 16) = true
    unfold ok_42
    exact and6 rfl rfl rfl rfl rfl (fd_in x 5 16 65535 rfl)
/-- What a guess's word is: the op's own, or refused. -/
theorem gword (j : Nat) (h1 : 1 ≤ j) (hj : j < 43) (op x : Int) (ho : op = (j : Int)) (hx : 0 ≤ x) (hx' : x < 4294967296) :
    ∃ v e : Int, (∀ w, Calls Try.prog 11 #[I7 op (gd j x) (gn j x) (gm j x) (ga j x) (gc j x) (gi j x)] w fun r w' => r = .returned (.tuple #[.int .u32 v, .int .i64 e]) ∧ Below w.heap.size w w') ∧ (e = 0 → okN j (gd j x) (gn j x) (gm j x) (ga j x) (gc j x) (gi j x) = true ∧ wordN j (gd j x) (gn j x) (gm j x) (ga j x) (gc j x) (gi j x) = v) ∧ (e ≠ 0 → okN j (gd j x) (gn j x) (gm j x) (ga j x) (gc j x) (gi j x) = false) := by
  by_cases hok : okN j (gd j x) (gn j x) (gm j x) (ga j x) (gc j x) (gi j x) = true
  · exact ⟨_, 0, fun w => rword_g op _ _ _ _ _ _ j hj ho w hok, fun _ => ⟨hok, rfl⟩, fun h => absurd rfl h⟩
  · have h21 : j = 21 := by
      rcases Nat.decEq j 21 with h | h
      · exact absurd (guess_ok j h1 hj h x hx hx') hok
      · exact h
    subst h21 ho
    have hf := (Bool.not_eq_true _).mp hok
    refine ⟨0, 1, fun w => rword_bad 21 _ _ _ _ _ _ w fun w => ?_, fun h => by omega, fun _ => hf⟩
    have := rcheck_21 (gd 21 x) (gn 21 x) (gm 21 x) (ga 21 x) (gc 21 x) (gi 21 x) w
    rw [show ok_21 (gd 21 x) (gn 21 x) (gm 21 x) (ga 21 x) (gc 21 x) (gi 21 x) = false from hf] at this
    exact this
end Go.Proofs.Ythgpolddbadfmaa
