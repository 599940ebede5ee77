import Derived.Test.YtnbpgoacooddjaaEUj
import Derived.Test.YtnbpgoacooddjaaFCkE
import Derived.Test.YtnbpgoacooddjaaFCkP
namespace Go.Proofs.Ytnbpgoacooddjaa.Fr
end Go.Proofs.Ytnbpgoacooddjaa.Fr
namespace Go.Proofs.Ytnbpgoacooddjaa.En
open Go.Proofs.Ytnbpgoacooddjaa.Fr
open Go.ChangeShapes Go.WideShapes Go.ChangeAt Go.RowKit Go.Maps
set_option linter.unusedVariables false
def okN (o : Nat) (d n m a c i : Int) : Bool := match o with
  | 0 => ok_0 d n m a c i
  | 1 => ok_1 d n m a c i
  | 2 => ok_2 d n m a c i
  | 3 => ok_3 d n m a c i
  | 4 => ok_4 d n m a c i
  | 5 => ok_5 d n m a c i
  | 6 => ok_6 d n m a c i
  | 7 => ok_7 d n m a c i
  | 8 => ok_8 d n m a c i
  | 9 => ok_9 d n m a c i
  | 10 => ok_10 d n m a c i
  | 11 => ok_11 d n m a c i
  | 12 => ok_12 d n m a c i
  | 13 => ok_13 d n m a c i
  | 14 => ok_14 d n m a c i
  | 15 => ok_15 d n m a c i
  | 16 => ok_16 d n m a c i
  | 17 => ok_17 d n m a c i
  | 18 => ok_18 d n m a c i
  | 19 => ok_19 d n m a c i
  | 20 => ok_20 d n m a c i
  | 21 => ok_21 d n m a c i
  | 22 => ok_22 d n m a c i
  | 23 => ok_23 d n m a c i
  | 24 => ok_24 d n m a c i
  | 25 => ok_25 d n m a c i
  | 26 => ok_26 d n m a c i
  | 27 => ok_27 d n m a c i
  | 28 => ok_28 d n m a c i
  | 29 => ok_29 d n m a c i
  | 30 => ok_30 d n m a c i
  | 31 => ok_31 d n m a c i
  | 32 => ok_32 d n m a c i
  | 33 => ok_33 d n m a c i
  | 34 => ok_34 d n m a c i
  | 35 => ok_35 d n m a c i
  | 36 => ok_36 d n m a c i
  | 37 => ok_37 d n m a c i
  | 38 => ok_38 d n m a c i
  | 39 => ok_39 d n m a c i
  | 40 => ok_40 d n m a c i
  | 41 => ok_41 d n m a c i
  | 42 => ok_42 d n m a c i
  | _ => false
def wordN (o : Nat) (d n m a c i : Int) : Int := match o with
  | 0 => (putS 0 0 16 i)
  | 1 => 3573751839
  | 2 => (putS (putS (putS 3531603968 21 2 m) 5 16 i) 0 5 d)
  | 3 => (putS (putS (putS 4068474880 21 2 m) 5 16 i) 0 5 d)
  | 4 => (putS (putS (putS 2432696320 10 12 i) 5 5 n) 0 5 d)
  | 5 => (putS (putS (putS 3506438144 10 12 i) 5 5 n) 0 5 d)
  | 6 => (putS (putS (putS 4043309056 10 12 i) 5 5 n) 0 5 d)
  | 7 => (putS (putS (putS 2332033024 16 5 m) 5 5 n) 0 5 d)
  | 8 => (putS (putS (putS 3405774848 16 5 m) 5 5 n) 0 5 d)
  | 9 => (putS (putS (putS 3942645760 16 5 m) 5 5 n) 0 5 d)
  | 10 => (putS (putS (putS 2315255808 16 5 m) 5 5 n) 0 5 d)
  | 11 => (putS (putS (putS 2852126720 16 5 m) 5 5 n) 0 5 d)
  | 12 => (putS (putS (putS 3388997632 16 5 m) 5 5 n) 0 5 d)
  | 13 => (putS (putS (putS (putS 2600468480 16 5 m) 10 5 a) 5 5 n) 0 5 d)
  | 14 => (putS (putS (putS (putS 2600501248 16 5 m) 10 5 a) 5 5 n) 0 5 d)
  | 15 => (putS (putS (putS 2596277248 16 5 m) 5 5 n) 0 5 d)
  | 16 => (putS (putS (putS 2596282368 16 5 m) 5 5 n) 0 5 d)
  | 17 => (putS (putS (putS 2596283392 16 5 m) 5 5 n) 0 5 d)
  | 18 => (putS (putS (putS 2596284416 16 5 m) 5 5 n) 0 5 d)
  | 19 => (putS (putS (putS (putS 2592080896 16 5 m) 12 4 c) 5 5 n) 0 5 d)
  | 20 => (putS 335544320 0 26 (i / 4 % 4294967296))
  | 21 => (putS (putS 1409286144 5 19 (i / 4 % 4294967296)) 0 4 c)
  | 22 => (putS (putS 3019898880 5 19 (i / 4 % 4294967296)) 0 5 d)
  | 23 => (putS (putS 3036676096 5 19 (i / 4 % 4294967296)) 0 5 d)
  | 24 => (putS 2483027968 0 26 (i / 4 % 4294967296))
  | 25 => (putS 3592355840 5 5 n)
  | 26 => (putS 3594452992 5 5 n)
  | 27 => (putS 3596550144 5 5 n)
  | 28 => (putS (putS (putS 4181721088 10 12 (i / 8)) 5 5 n) 0 5 d)
  | 29 => (putS (putS (putS 4177526784 10 12 (i / 8)) 5 5 n) 0 5 d)
  | 30 => (putS (putS (putS 960495616 10 12 i) 5 5 n) 0 5 d)
  | 31 => (putS (putS (putS 4167071744 16 5 m) 5 5 n) 0 5 d)
  | 32 => (putS (putS (putS 4162877440 16 5 m) 5 5 n) 0 5 d)
  | 33 => (putS (putS 3370122240 5 5 n) 0 5 d)
  | 34 => (putS (putS 3365927936 5 5 n) 0 5 d)
  | 35 => (putS (putS 3361700864 5 5 n) 0 5 d)
  | 36 => (putS (putS (putS 3355474944 16 5 d) 5 5 n) 0 5 m)
  | 37 => (barS 3573758911 i)
  | 38 => 3573758879
  | 39 => 3573759967
  | 40 => (putS 3574299424 0 5 n)
  | 41 => (putS 3574297888 0 5 n)
  | 42 => (putS 3556769793 5 16 i)
  | _ => 0
theorem wordN_lays (o : Nat) (ho : o < 43) (d n m a c i : Int) : ∃ l, pos l = posL.getD o [] ∧ wordN o d n m a c i = lays (baseL.getD o 0) l := by
  have : o = 0 ∨ o = 1 ∨ o = 2 ∨ o = 3 ∨ o = 4 ∨ o = 5 ∨ o = 6 ∨ o = 7 ∨ o = 8 ∨ o = 9 ∨ o = 10 ∨ o = 11 ∨ o = 12 ∨ o = 13 ∨ o = 14 ∨ o = 15 ∨ o = 16 ∨ o = 17 ∨ o = 18 ∨ o = 19 ∨ o = 20 ∨ o = 21 ∨ o = 22 ∨ o = 23 ∨ o = 24 ∨ o = 25 ∨ o = 26 ∨ o = 27 ∨ o = 28 ∨ o = 29 ∨ o = 30 ∨ o = 31 ∨ o = 32 ∨ o = 33 ∨ o = 34 ∨ o = 35 ∨ o = 36 ∨ o = 37 ∨ o = 38 ∨ o = 39 ∨ o = 40 ∨ o = 41 ∨ o = 42 := by omega
  rcases this with rfl | rfl | rfl | rfl | rfl | rfl | rfl | rfl | rfl | rfl | rfl | rfl | rfl | rfl | rfl | rfl | rfl | rfl | rfl | rfl | rfl | rfl | rfl | rfl | rfl | rfl | rfl | rfl | rfl | rfl | rfl | rfl | rfl | rfl | rfl | rfl | rfl | rfl | rfl | rfl | rfl | rfl | rfl
  · exact ⟨[(0, 16, i)], rfl, rfl⟩
  · exact ⟨[], rfl, rfl⟩
  · exact ⟨[(21, 2, m), (5, 16, i), (0, 5, d)], rfl, rfl⟩
  · exact ⟨[(21, 2, m), (5, 16, i), (0, 5, d)], rfl, rfl⟩
  · exact ⟨[(10, 12, i), (5, 5, n), (0, 5, d)], rfl, rfl⟩
  · exact ⟨[(10, 12, i), (5, 5, n), (0, 5, d)], rfl, rfl⟩
  · exact ⟨[(10, 12, i), (5, 5, n), (0, 5, d)], rfl, rfl⟩
  · exact ⟨[(16, 5, m), (5, 5, n), (0, 5, d)], rfl, rfl⟩
  · exact ⟨[(16, 5, m), (5, 5, n), (0, 5, d)], rfl, rfl⟩
  · exact ⟨[(16, 5, m), (5, 5, n), (0, 5, d)], rfl, rfl⟩
  · exact ⟨[(16, 5, m), (5, 5, n), (0, 5, d)], rfl, rfl⟩
  · exact ⟨[(16, 5, m), (5, 5, n), (0, 5, d)], rfl, rfl⟩
  · exact ⟨[(16, 5, m), (5, 5, n), (0, 5, d)], rfl, rfl⟩
  · exact ⟨[(16, 5, m), (10, 5, a), (5, 5, n), (0, 5, d)], rfl, rfl⟩
  · exact ⟨[(16, 5, m), (10, 5, a), (5, 5, n), (0, 5, d)], rfl, rfl⟩
  · exact ⟨[(16, 5, m), (5, 5, n), (0, 5, d)], rfl, rfl⟩
  · exact ⟨[(16, 5, m), (5, 5, n), (0, 5, d)], rfl, rfl⟩
  · exact ⟨[(16, 5, m), (5, 5, n), (0, 5, d)], rfl, rfl⟩
  · exact ⟨[(16, 5, m), (5, 5, n), (0, 5, d)], rfl, rfl⟩
  · exact ⟨[(16, 5, m), (12, 4, c), (5, 5, n), (0, 5, d)], rfl, rfl⟩
  · exact ⟨[(0, 26, (i / 4 % 4294967296))], rfl, rfl⟩
  · exact ⟨[(5, 19, (i / 4 % 4294967296)), (0, 4, c)], rfl, rfl⟩
  · exact ⟨[(5, 19, (i / 4 % 4294967296)), (0, 5, d)], rfl, rfl⟩
  · exact ⟨[(5, 19, (i / 4 % 4294967296)), (0, 5, d)], rfl, rfl⟩
  · exact ⟨[(0, 26, (i / 4 % 4294967296))], rfl, rfl⟩
  · exact ⟨[(5, 5, n)], rfl, rfl⟩
  · exact ⟨[(5, 5, n)], rfl, rfl⟩
  · exact ⟨[(5, 5, n)], rfl, rfl⟩
  · exact ⟨[(10, 12, (i / 8)), (5, 5, n), (0, 5, d)], rfl, rfl⟩
  · exact ⟨[(10, 12, (i / 8)), (5, 5, n), (0, 5, d)], rfl, rfl⟩
  · exact ⟨[(10, 12, i), (5, 5, n), (0, 5, d)], rfl, rfl⟩
  · exact ⟨[(16, 5, m), (5, 5, n), (0, 5, d)], rfl, rfl⟩
  · exact ⟨[(16, 5, m), (5, 5, n), (0, 5, d)], rfl, rfl⟩
  · exact ⟨[(5, 5, n), (0, 5, d)], rfl, rfl⟩
  · exact ⟨[(5, 5, n), (0, 5, d)], rfl, rfl⟩
  · exact ⟨[(5, 5, n), (0, 5, d)], rfl, rfl⟩
  · exact ⟨[(16, 5, d), (5, 5, n), (0, 5, m)], rfl, rfl⟩
  · exact ⟨[(8, 4, (barV i))], rfl, barS_lays i⟩
  · exact ⟨[], rfl, rfl⟩
  · exact ⟨[], rfl, rfl⟩
  · exact ⟨[(0, 5, n)], rfl, rfl⟩
  · exact ⟨[(0, 5, n)], rfl, rfl⟩
  · exact ⟨[(5, 16, i)], rfl, rfl⟩
theorem wordN_inj (o : Nat) (ho : o < 43) (d n m a c i d2 n2 m2 a2 c2 i2 : Int) (h : okN o d n m a c i = true) (h' : okN o d2 n2 m2 a2 c2 i2 = true) (e : wordN o d n m a c i = wordN o d2 n2 m2 a2 c2 i2) : d = d2 ∧ n = n2 ∧ m = m2 ∧ a = a2 ∧ c = c2 ∧ i = i2 := by
  have : o = 0 ∨ o = 1 ∨ o = 2 ∨ o = 3 ∨ o = 4 ∨ o = 5 ∨ o = 6 ∨ o = 7 ∨ o = 8 ∨ o = 9 ∨ o = 10 ∨ o = 11 ∨ o = 12 ∨ o = 13 ∨ o = 14 ∨ o = 15 ∨ o = 16 ∨ o = 17 ∨ o = 18 ∨ o = 19 ∨ o = 20 ∨ o = 21 ∨ o = 22 ∨ o = 23 ∨ o = 24 ∨ o = 25 ∨ o = 26 ∨ o = 27 ∨ o = 28 ∨ o = 29 ∨ o = 30 ∨ o = 31 ∨ o = 32 ∨ o = 33 ∨ o = 34 ∨ o = 35 ∨ o = 36 ∨ o = 37 ∨ o = 38 ∨ o = 39 ∨ o = 40 ∨ o = 41 ∨ o = 42 := by omega
  rcases this with rfl | rfl | rfl | rfl | rfl | rfl | rfl | rfl | rfl | rfl | rfl | rfl | rfl | rfl | rfl | rfl | rfl | rfl | rfl | rfl | rfl | rfl | rfl | rfl | rfl | rfl | rfl | rfl | rfl | rfl | rfl | rfl | rfl | rfl | rfl | rfl | rfl | rfl | rfl | rfl | rfl | rfl | rfl
  · exact inj_0 d n m a c i d2 n2 m2 a2 c2 i2 h h' e
  · exact inj_1 d n m a c i d2 n2 m2 a2 c2 i2 h h' rfl
  · exact inj_2 d n m a c i d2 n2 m2 a2 c2 i2 h h' e
  · exact inj_3 d n m a c i d2 n2 m2 a2 c2 i2 h h' e
  · exact inj_4 d n m a c i d2 n2 m2 a2 c2 i2 h h' e
  · exact inj_5 d n m a c i d2 n2 m2 a2 c2 i2 h h' e
  · exact inj_6 d n m a c i d2 n2 m2 a2 c2 i2 h h' e
  · exact inj_7 d n m a c i d2 n2 m2 a2 c2 i2 h h' e
  · exact inj_8 d n m a c i d2 n2 m2 a2 c2 i2 h h' e
  · exact inj_9 d n m a c i d2 n2 m2 a2 c2 i2 h h' e
  · exact inj_10 d n m a c i d2 n2 m2 a2 c2 i2 h h' e
  · exact inj_11 d n m a c i d2 n2 m2 a2 c2 i2 h h' e
  · exact inj_12 d n m a c i d2 n2 m2 a2 c2 i2 h h' e
  · exact inj_13 d n m a c i d2 n2 m2 a2 c2 i2 h h' e
  · exact inj_14 d n m a c i d2 n2 m2 a2 c2 i2 h h' e
  · exact inj_15 d n m a c i d2 n2 m2 a2 c2 i2 h h' e
  · exact inj_16 d n m a c i d2 n2 m2 a2 c2 i2 h h' e
  · exact inj_17 d n m a c i d2 n2 m2 a2 c2 i2 h h' e
  · exact inj_18 d n m a c i d2 n2 m2 a2 c2 i2 h h' e
  · exact inj_19 d n m a c i d2 n2 m2 a2 c2 i2 h h' e
  · exact inj_20 d n m a c i d2 n2 m2 a2 c2 i2 h h' e
  · exact inj_21 d n m a c i d2 n2 m2 a2 c2 i2 h h' e
  · exact inj_22 d n m a c i d2 n2 m2 a2 c2 i2 h h' e
  · exact inj_23 d n m a c i d2 n2 m2 a2 c2 i2 h h' e
  · exact inj_24 d n m a c i d2 n2 m2 a2 c2 i2 h h' e
  · exact inj_25 d n m a c i d2 n2 m2 a2 c2 i2 h h' e
  · exact inj_26 d n m a c i d2 n2 m2 a2 c2 i2 h h' e
  · exact inj_27 d n m a c i d2 n2 m2 a2 c2 i2 h h' e
  · exact inj_28 d n m a c i d2 n2 m2 a2 c2 i2 h h' e
  · exact inj_29 d n m a c i d2 n2 m2 a2 c2 i2 h h' e
  · exact inj_30 d n m a c i d2 n2 m2 a2 c2 i2 h h' e
  · exact inj_31 d n m a c i d2 n2 m2 a2 c2 i2 h h' e
  · exact inj_32 d n m a c i d2 n2 m2 a2 c2 i2 h h' e
  · exact inj_33 d n m a c i d2 n2 m2 a2 c2 i2 h h' e
  · exact inj_34 d n m a c i d2 n2 m2 a2 c2 i2 h h' e
  · exact inj_35 d n m a c i d2 n2 m2 a2 c2 i2 h h' e
  · exact inj_36 d n m a c i d2 n2 m2 a2 c2 i2 h h' e
  · exact inj_37 d n m a c i d2 n2 m2 a2 c2 i2 h h' (by rw [← barS_lays, ← barS_lays]; exact e)
  · exact inj_38 d n m a c i d2 n2 m2 a2 c2 i2 h h' rfl
  · exact inj_39 d n m a c i d2 n2 m2 a2 c2 i2 h h' rfl
  · exact inj_40 d n m a c i d2 n2 m2 a2 c2 i2 h h' e
  · exact inj_41 d n m a c i d2 n2 m2 a2 c2 i2 h h' e
  · exact inj_42 d n m a c i d2 n2 m2 a2 c2 i2 h h' e
end Go.Proofs.Ytnbpgoacooddjaa.En
