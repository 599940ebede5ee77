import Derived.Test.YthgpolddbadfmaaEu0
import Derived.Test.YthgpolddbadfmaaUj
import Derived.Test.YthgpolddbadfmaaWdB
import Derived.Test.YthgpolddbadfmaaWdC
namespace Go.Proofs.Ythgpolddbadfmaa
open Go.ChangeShapes Go.WideShapes Go.ChangeAt Go.RowKit Go.Maps
set_option linter.unusedVariables false
def okN (o : Nat) (d n m a c i : Int) : Bool := match o with
  | 0 => ok_0 d n m a c i
  | 1 => ok_1 d n m a c i
  | 2 => ok_2 d n m a c i
  | 3 => ok_3 d n m a c i
  | 4 => ok_4 d n m a c i
  | 5 => ok_5 d n m a c i
  | 6 => ok_6 d n m a c i
  | 7 => ok_7 d n m a c i
  | 8 => ok_8 d n m a c i
  | 9 => ok_9 d n m a c i
  | 10 => ok_10 d n m a c i
  | 11 => ok_11 d n m a c i
  | 12 => ok_12 d n m a c i
  | 13 => ok_13 d n m a c i
  | 14 => ok_14 d n m a c i
  | 15 => ok_15 d n m a c i
  | 16 => ok_16 d n m a c i
  | 17 => ok_17 d n m a c i
  | 18 => ok_18 d n m a c i
  | 19 => ok_19 d n m a c i
  | 20 => ok_20 d n m a c i
  | 21 => ok_21 d n m a c i
  | 22 => ok_22 d n m a c i
  | 23 => ok_23 d n m a c i
  | 24 => ok_24 d n m a c i
  | 25 => ok_25 d n m a c i
  | 26 => ok_26 d n m a c i
  | 27 => ok_27 d n m a c i
  | 28 => ok_28 d n m a c i
  | 29 => ok_29 d n m a c i
  | 30 => ok_30 d n m a c i
  | 31 => ok_31 d n m a c i
  | 32 => ok_32 d n m a c i
  | 33 => ok_33 d n m a c i
  | 34 => ok_34 d n m a c i
  | 35 => ok_35 d n m a c i
  | 36 => ok_36 d n m a c i
  | 37 => ok_37 d n m a c i
  | 38 => ok_38 d n m a c i
  | 39 => ok_39 d n m a c i
  | 40 => ok_40 d n m a c i
  | 41 => ok_41 d n m a c i
  | 42 => ok_42 d n m a c i
  | _ => false
def wordN (o : Nat) (d n m a c i : Int) : Int := match o with
  | 0 => (putS 0 0 16 i)
  | 1 => 3573751839
  | 2 => (putS (putS (putS 3531603968 21 2 m) 5 16 i) 0 5 d)
  | 3 => (putS (putS (putS 4068474880 21 2 m) 5 16 i) 0 5 d)
  | 4 => (putS (putS (putS 2432696320 10 12 i) 5 5 n) 0 5 d)
  | 5 => (putS (putS (putS 3506438144 10 12 i) 5 5 n) 0 5 d)
  | 6 => (putS (putS (putS 4043309056 10 12 i) 5 5 n) 0 5 d)
  | 7 => (putS (putS (putS 2332033024 16 5 m) 5 5 n) 0 5 d)
  | 8 => (putS (putS (putS 3405774848 16 5 m) 5 5 n) 0 5 d)
  | 9 => (putS (putS (putS 3942645760 16 5 m) 5 5 n) 0 5 d)
  | 10 => (putS (putS (putS 2315255808 16 5 m) 5 5 n) 0 5 d)
  | 11 => (putS (putS (putS 2852126720 16 5 m) 5 5 n) 0 5 d)
  | 12 => (putS (putS (putS 3388997632 16 5 m) 5 5 n) 0 5 d)
  | 13 => (putS (putS (putS (putS 2600468480 16 5 m) 10 5 a) 5 5 n) 0 5 d)
  | 14 => (putS (putS (putS (putS 2600501248 16 5 m) 10 5 a) 5 5 n) 0 5 d)
  | 15 => (putS (putS (putS 2596277248 16 5 m) 5 5 n) 0 5 d)
  | 16 => (putS (putS (putS 2596282368 16 5 m) 5 5 n) 0 5 d)
  | 17 => (putS (putS (putS 2596283392 16 5 m) 5 5 n) 0 5 d)
  | 18 => (putS (putS (putS 2596284416 16 5 m) 5 5 n) 0 5 d)
  | 19 => (putS (putS (putS (putS 2592080896 16 5 m) 12 4 c) 5 5 n) 0 5 d)
  | 20 => (putS 335544320 0 26 (i / 4 % 4294967296))
  | 21 => (putS (putS 1409286144 5 19 (i / 4 % 4294967296)) 0 4 c)
  | 22 => (putS (putS 3019898880 5 19 (i / 4 % 4294967296)) 0 5 d)
  | 23 => (putS (putS 3036676096 5 19 (i / 4 % 4294967296)) 0 5 d)
  | 24 => (putS 2483027968 0 26 (i / 4 % 4294967296))
  | 25 => (putS 3592355840 5 5 n)
  | 26 => (putS 3594452992 5 5 n)
  | 27 => (putS 3596550144 5 5 n)
  | 28 => (putS (putS (putS 4181721088 10 12 (i / 8)) 5 5 n) 0 5 d)
  | 29 => (putS (putS (putS 4177526784 10 12 (i / 8)) 5 5 n) 0 5 d)
  | 30 => (putS (putS (putS 960495616 10 12 i) 5 5 n) 0 5 d)
  | 31 => (putS (putS (putS 4167071744 16 5 m) 5 5 n) 0 5 d)
  | 32 => (putS (putS (putS 4162877440 16 5 m) 5 5 n) 0 5 d)
  | 33 => (putS (putS 3370122240 5 5 n) 0 5 d)
  | 34 => (putS (putS 3365927936 5 5 n) 0 5 d)
  | 35 => (putS (putS 3361700864 5 5 n) 0 5 d)
  | 36 => (putS (putS (putS 3355474944 16 5 d) 5 5 n) 0 5 m)
  | 37 => (barS 3573758911 i)
  | 38 => 3573758879
  | 39 => 3573759967
  | 40 => (putS 3574299424 0 5 n)
  | 41 => (putS 3574297888 0 5 n)
  | 42 => (putS 3556769793 5 16 i)
  | _ => 0
theorem wordN_lays (o : Nat) (ho : o < 43) (d n m a c i : Int) : ∃ l, pos l = posL.getD o [] ∧ wordN o d n m a c i = lays (baseL.getD o 0) l := by
  have : o = 0 ∨ o = 1 ∨ o = 2 ∨ o = 3 ∨ o = 4 ∨ o = 5 ∨ o = 6 ∨ o = 7 ∨ o = 8 ∨ o = 9 ∨ o = 10 ∨ o = 11 ∨ o = 12 ∨ o = 13 ∨ o = 14 ∨ o = 15 ∨ o = 16 ∨ o = 17 ∨ o = 18 ∨ o = 19 ∨ o = 20 ∨ o = 21 ∨ o = 22 ∨ o = 23 ∨ o = 24 ∨ o = 25 ∨ o = 26 ∨ o = 27 ∨ o = 28 ∨ o = 29 ∨ o = 30 ∨ o = 31 ∨ o = 32 ∨ o = 33 ∨ o = 34 ∨ o = 35 ∨ o = 36 ∨ o = 37 ∨ o = 38 ∨ o = 39 ∨ o = 40 ∨ o = 41 ∨ o = 42 := by omega
  rcases this with rfl | rfl | rfl | rfl | rfl | rfl | rfl | rfl | rfl | rfl | rfl | rfl | rfl | rfl | rfl | rfl | rfl | rfl | rfl | rfl | rfl | rfl | rfl | rfl | rfl | rfl | rfl | rfl | rfl | rfl | rfl | rfl | rfl | rfl | rfl | rfl | rfl | rfl | rfl | rfl | rfl | rfl | rfl
  · exact ⟨[(0, 16, i)], rfl, rfl⟩
  · exact ⟨[], rfl, rfl⟩
  · exact ⟨[(21, 2, m), (5, 16, i), (0, 5, d)], rfl, rfl⟩
  · exact ⟨[(21, 2, m), (5, 16, i), (0, 5, d)], rfl, rfl⟩
  · exact ⟨[(10, 12, i), (5, 5, n), (0, 5, d)], rfl, rfl⟩
  · exact ⟨[(10, 12, i), (5, 5, n), (0, 5, d)], rfl, rfl⟩
  · exact ⟨[(10, 12, i), (5, 5, n), (0, 5, d)], rfl, rfl⟩
  · exact ⟨[(16, 5, m), (5, 5, n), (0, 5, d)], rfl, rfl⟩
  · exact ⟨[(16, 5, m), (5, 5, n), (0, 5, d)], rfl, rfl⟩
  · exact ⟨[(16, 5, m), (5, 5, n), (0, 5, d)], rfl, rfl⟩
  · exact ⟨[(16, 5, m), (5, 5, n), (0, 5, d)], rfl, rfl⟩
  · exact ⟨[(16, 5, m), (5, 5, n), (0, 5, d)], rfl, rfl⟩
  · exact ⟨[(16, 5, m), (5, 5, n), (0, 5, d)], rfl, rfl⟩
  · exact ⟨[(16, 5, m), (10, 5, a), (5, 5, n), (0, 5, d)], rfl, rfl⟩
  · exact ⟨[(16, 5, m), (10, 5, a), (5, 5, n), (0, 5, d)], rfl, rfl⟩
  · exact ⟨[(16, 5, m), (5, 5, n), (0, 5, d)], rfl, rfl⟩
  · exact ⟨[(16, 5, m), (5, 5, n), (0, 5, d)], rfl, rfl⟩
  · exact ⟨[(16, 5, m), (5, 5, n), (0, 5, d)], rfl, rfl⟩
  · exact ⟨[(16, 5, m), (5, 5, n), (0, 5, d)], rfl, rfl⟩
  · exact ⟨[(16, 5, m), (12, 4, c), (5, 5, n), (0, 5, d)], rfl, rfl⟩
  · exact ⟨[(0, 26, (i / 4 % 4294967296))], rfl, rfl⟩
  · exact ⟨[(5, 19, (i / 4 % 4294967296)), (0, 4, c)], rfl, rfl⟩
  · exact ⟨[(5, 19, (i / 4 % 4294967296)), (0, 5, d)], rfl, rfl⟩
  · exact ⟨[(5, 19, (i / 4 % 4294967296)), (0, 5, d)], rfl, rfl⟩
  · exact ⟨[(0, 26, (i / 4 % 4294967296))], rfl, rfl⟩
  · exact ⟨[(5, 5, n)], rfl, rfl⟩
  · exact ⟨[(5, 5, n)], rfl, rfl⟩
  · exact ⟨[(5, 5, n)], rfl, rfl⟩
  · exact ⟨[(10, 12, (i / 8)), (5, 5, n), (0, 5, d)], rfl, rfl⟩
  · exact ⟨[(10, 12, (i / 8)), (5, 5, n), (0, 5, d)], rfl, rfl⟩
  · exact ⟨[(10, 12, i), (5, 5, n), (0, 5, d)], rfl, rfl⟩
  · exact ⟨[(16, 5, m), (5, 5, n), (0, 5, d)], rfl, rfl⟩
  · exact ⟨[(16, 5, m), (5, 5, n), (0, 5, d)], rfl, rfl⟩
  · exact ⟨[(5, 5, n), (0, 5, d)], rfl, rfl⟩
  · exact ⟨[(5, 5, n), (0, 5, d)], rfl, rfl⟩
  · exact ⟨[(5, 5, n), (0, 5, d)], rfl, rfl⟩
  · exact ⟨[(16, 5, d), (5, 5, n), (0, 5, m)], rfl, rfl⟩
  · exact ⟨[(8, 4, (barV i))], rfl, barS_lays i⟩
  · exact ⟨[], rfl, rfl⟩
  · exact ⟨[], rfl, rfl⟩
  · exact ⟨[(0, 5, n)], rfl, rfl⟩
  · exact ⟨[(0, 5, n)], rfl, rfl⟩
  · exact ⟨[(5, 16, i)], rfl, rfl⟩
theorem wordN_inj (o : Nat) (ho : o < 43) (d n m a c i d2 n2 m2 a2 c2 i2 : Int) (h : okN o d n m a c i = true) (h' : okN o d2 n2 m2 a2 c2 i2 = true) (e : wordN o d n m a c i = wordN o d2 n2 m2 a2 c2 i2) : d = d2 ∧ n = n2 ∧ m = m2 ∧ a = a2 ∧ c = c2 ∧ i = i2 := by
  have : o = 0 ∨ o = 1 ∨ o = 2 ∨ o = 3 ∨ o = 4 ∨ o = 5 ∨ o = 6 ∨ o = 7 ∨ o = 8 ∨ o = 9 ∨ o = 10 ∨ o = 11 ∨ o = 12 ∨ o = 13 ∨ o = 14 ∨ o = 15 ∨ o = 16 ∨ o = 17 ∨ o = 18 ∨ o = 19 ∨ o = 20 ∨ o = 21 ∨ o = 22 ∨ o = 23 ∨ o = 24 ∨ o = 25 ∨ o = 26 ∨ o = 27 ∨ o = 28 ∨ o = 29 ∨ o = 30 ∨ o = 31 ∨ o = 32 ∨ o = 33 ∨ o = 34 ∨ o = 35 ∨ o = 36 ∨ o = 37 ∨ o = 38 ∨ o = 39 ∨ o = 40 ∨ o = 41 ∨ o = 42 := by omega
  rcases this with rfl | rfl | rfl | rfl | rfl | rfl | rfl | rfl | rfl | rfl | rfl | rfl | rfl | rfl | rfl | rfl | rfl | rfl | rfl | rfl | rfl | rfl | rfl | rfl | rfl | rfl | rfl | rfl | rfl | rfl | rfl | rfl | rfl | rfl | rfl | rfl | rfl | rfl | rfl | rfl | rfl | rfl | rfl
  · exact inj_0 d n m a c i d2 n2 m2 a2 c2 i2 h h' e
  · exact inj_1 d n m a c i d2 n2 m2 a2 c2 i2 h h' rfl
  · exact inj_2 d n m a c i d2 n2 m2 a2 c2 i2 h h' e
  · exact inj_3 d n m a c i d2 n2 m2 a2 c2 i2 h h' e
  · exact inj_4 d n m a c i d2 n2 m2 a2 c2 i2 h h' e
  · exact inj_5 d n m a c i d2 n2 m2 a2 c2 i2 h h' e
  · exact inj_6 d n m a c i d2 n2 m2 a2 c2 i2 h h' e
  · exact inj_7 d n m a c i d2 n2 m2 a2 c2 i2 h h' e
  · exact inj_8 d n m a c i d2 n2 m2 a2 c2 i2 h h' e
  · exact inj_9 d n m a c i d2 n2 m2 a2 c2 i2 h h' e
  · exact inj_10 d n m a c i d2 n2 m2 a2 c2 i2 h h' e
  · exact inj_11 d n m a c i d2 n2 m2 a2 c2 i2 h h' e
  · exact inj_12 d n m a c i d2 n2 m2 a2 c2 i2 h h' e
  · exact inj_13 d n m a c i d2 n2 m2 a2 c2 i2 h h' e
  · exact inj_14 d n m a c i d2 n2 m2 a2 c2 i2 h h' e
  · exact inj_15 d n m a c i d2 n2 m2 a2 c2 i2 h h' e
  · exact inj_16 d n m a c i d2 n2 m2 a2 c2 i2 h h' e
  · exact inj_17 d n m a c i d2 n2 m2 a2 c2 i2 h h' e
  · exact inj_18 d n m a c i d2 n2 m2 a2 c2 i2 h h' e
  · exact inj_19 d n m a c i d2 n2 m2 a2 c2 i2 h h' e
  · exact inj_20 d n m a c i d2 n2 m2 a2 c2 i2 h h' e
  · exact inj_21 d n m a c i d2 n2 m2 a2 c2 i2 h h' e
  · exact inj_22 d n m a c i d2 n2 m2 a2 c2 i2 h h' e
  · exact inj_23 d n m a c i d2 n2 m2 a2 c2 i2 h h' e
  · exact inj_24 d n m a c i d2 n2 m2 a2 c2 i2 h h' e
  · exact inj_25 d n m a c i d2 n2 m2 a2 c2 i2 h h' e
  · exact inj_26 d n m a c i d2 n2 m2 a2 c2 i2 h h' e
  · exact inj_27 d n m a c i d2 n2 m2 a2 c2 i2 h h' e
  · exact inj_28 d n m a c i d2 n2 m2 a2 c2 i2 h h' e
  · exact inj_29 d n m a c i d2 n2 m2 a2 c2 i2 h h' e
  · exact inj_30 d n m a c i d2 n2 m2 a2 c2 i2 h h' e
  · exact inj_31 d n m a c i d2 n2 m2 a2 c2 i2 h h' e
  · exact inj_32 d n m a c i d2 n2 m2 a2 c2 i2 h h' e
  · exact inj_33 d n m a c i d2 n2 m2 a2 c2 i2 h h' e
  · exact inj_34 d n m a c i d2 n2 m2 a2 c2 i2 h h' e
  · exact inj_35 d n m a c i d2 n2 m2 a2 c2 i2 h h' e
  · exact inj_36 d n m a c i d2 n2 m2 a2 c2 i2 h h' e
  · exact inj_37 d n m a c i d2 n2 m2 a2 c2 i2 h h' (by rw [← barS_lays, ← barS_lays]; exact e)
  · exact inj_38 d n m a c i d2 n2 m2 a2 c2 i2 h h' rfl
  · exact inj_39 d n m a c i d2 n2 m2 a2 c2 i2 h h' rfl
  · exact inj_40 d n m a c i d2 n2 m2 a2 c2 i2 h h' e
  · exact inj_41 d n m a c i d2 n2 m2 a2 c2 i2 h h' e
  · exact inj_42 d n m a c i d2 n2 m2 a2 c2 i2 h h' e
/-- An instruction is refused, or it is right and has its word. -/
theorem right_or (op d n m a c i : Int) : (∀ w, Calls Try.prog 16 #[.agg #[.int .i64 op, .int .i64 d, .int .i64 n, .int .i64 m, .int .i64 a, .int .i64 c, .int .i64 i]] w fun e w' => e = .returned (.int .i64 1) ∧ Below w.heap.size w w') ∨
    (∃ o : Nat, o < 43 ∧ op = (o : Int) ∧ okN o d n m a c i = true ∧ (∀ w, Calls Try.prog 16 #[.agg #[.int .i64 op, .int .i64 d, .int .i64 n, .int .i64 m, .int .i64 a, .int .i64 c, .int .i64 i]] w fun e w' => e = .returned (.int .i64 0) ∧ Below w.heap.size w w') ∧
      ∀ w, Calls Try.prog 10 #[.agg #[.int .i64 op, .int .i64 d, .int .i64 n, .int .i64 m, .int .i64 a, .int .i64 c, .int .i64 i]] w fun r w' => r = .returned (.tuple #[.int .u32 (wordN o d n m a c i), .int .i64 0]) ∧ Below w.heap.size w w') := by
  by_cases h : 0 ≤ op ∧ op ≤ 42
  · have : op = 0 ∨ op = 1 ∨ op = 2 ∨ op = 3 ∨ op = 4 ∨ op = 5 ∨ op = 6 ∨ op = 7 ∨ op = 8 ∨ op = 9 ∨ op = 10 ∨ op = 11 ∨ op = 12 ∨ op = 13 ∨ op = 14 ∨ op = 15 ∨ op = 16 ∨ op = 17 ∨ op = 18 ∨ op = 19 ∨ op = 20 ∨ op = 21 ∨ op = 22 ∨ op = 23 ∨ op = 24 ∨ op = 25 ∨ op = 26 ∨ op = 27 ∨ op = 28 ∨ op = 29 ∨ op = 30 ∨ op = 31 ∨ op = 32 ∨ op = 33 ∨ op = 34 ∨ op = 35 ∨ op = 36 ∨ op = 37 ∨ op = 38 ∨ op = 39 ∨ op = 40 ∨ op = 41 ∨ op = 42 := by omega
    rcases this with rfl | rfl | rfl | rfl | rfl | rfl | rfl | rfl | rfl | rfl | rfl | rfl | rfl | rfl | rfl | rfl | rfl | rfl | rfl | rfl | rfl | rfl | rfl | rfl | rfl | rfl | rfl | rfl | rfl | rfl | rfl | rfl | rfl | rfl | rfl | rfl | rfl | rfl | rfl | rfl | rfl | rfl | rfl
    · rcases h' : ok_0 d n m a c i
      · exact .inl fun w => by have := check_0 d n m a c i w; rw [h'] at this; exact this
      · exact .inr ⟨0, by decide, rfl, h', fun w => by have := check_0 d n m a c i w; rw [h'] at this; exact this, fun w => encw_gen 0 d n m a c i _ 0 w (fun b w hm => word_0 d n m a c i b w h' hm)⟩
    · rcases h' : ok_1 d n m a c i
      · exact .inl fun w => by have := check_1 d n m a c i w; rw [h'] at this; exact this
      · exact .inr ⟨1, by decide, rfl, h', fun w => by have := check_1 d n m a c i w; rw [h'] at this; exact this, fun w => encw_gen 1 d n m a c i _ 0 w (fun b w hm => word_1 d n m a c i b w h' hm)⟩
    · rcases h' : ok_2 d n m a c i
      · exact .inl fun w => by have := check_2 d n m a c i w; rw [h'] at this; exact this
      · exact .inr ⟨2, by decide, rfl, h', fun w => by have := check_2 d n m a c i w; rw [h'] at this; exact this, fun w => encw_gen 2 d n m a c i _ 0 w (fun b w hm => word_2 d n m a c i b w h' hm)⟩
    · rcases h' : ok_3 d n m a c i
      · exact .inl fun w => by have := check_3 d n m a c i w; rw [h'] at this; exact this
      · exact .inr ⟨3, by decide, rfl, h', fun w => by have := check_3 d n m a c i w; rw [h'] at this; exact this, fun w => encw_gen 3 d n m a c i _ 0 w (fun b w hm => word_3 d n m a c i b w h' hm)⟩
    · rcases h' : ok_4 d n m a c i
      · exact .inl fun w => by have := check_4 d n m a c i w; rw [h'] at this; exact this
      · exact .inr ⟨4, by decide, rfl, h', fun w => by have := check_4 d n m a c i w; rw [h'] at this; exact this, fun w => encw_gen 4 d n m a c i _ 0 w (fun b w hm => word_4 d n m a c i b w h' hm)⟩
    · rcases h' : ok_5 d n m a c i
      · exact .inl fun w => by have := check_5 d n m a c i w; rw [h'] at this; exact this
      · exact .inr ⟨5, by decide, rfl, h', fun w => by have := check_5 d n m a c i w; rw [h'] at this; exact this, fun w => encw_gen 5 d n m a c i _ 0 w (fun b w hm => word_5 d n m a c i b w h' hm)⟩
    · rcases h' : ok_6 d n m a c i
      · exact .inl fun w => by have := check_6 d n m a c i w; rw [h'] at this; exact this
      · exact .inr ⟨6, by decide, rfl, h', fun w => by have := check_6 d n m a c i w; rw [h'] at this; exact this, fun w => encw_gen 6 d n m a c i _ 0 w (fun b w hm => word_6 d n m a c i b w h' hm)⟩
    · rcases h' : ok_7 d n m a c i
      · exact .inl fun w => by have := check_7 d n m a c i w; rw [h'] at this; exact this
      · exact .inr ⟨7, by decide, rfl, h', fun w => by have := check_7 d n m a c i w; rw [h'] at this; exact this, fun w => encw_gen 7 d n m a c i _ 0 w (fun b w hm => word_7 d n m a c i b w h' hm)⟩
    · rcases h' : ok_8 d n m a c i
      · exact .inl fun w => by have := check_8 d n m a c i w; rw [h'] at this; exact this
      · exact .inr ⟨8, by decide, rfl, h', fun w => by have := check_8 d n m a c i w; rw [h'] at this; exact this, fun w => encw_gen 8 d n m a c i _ 0 w (fun b w hm => word_8 d n m a c i b w h' hm)⟩
    · rcases h' : ok_9 d n m a c i
      · exact .inl fun w => by have := check_9 d n m a c i w; rw [h'] at this; exact this
      · exact .inr ⟨9, by decide, rfl, h', fun w => by have := check_9 d n m a c i w; rw [h'] at this; exact this, fun w => encw_gen 9 d n m a c i _ 0 w (fun b w hm => word_9 d n m a c i b w h' hm)⟩
    · rcases h' : ok_10 d n m a c i
      · exact .inl fun w => by have := check_10 d n m a c i w; rw [h'] at this; exact this
      · exact .inr ⟨10, by decide, rfl, h', fun w => by have := check_10 d n m a c i w; rw [h'] at this; exact this, fun w => encw_gen 10 d n m a c i _ 0 w (fun b w hm => word_10 d n m a c i b w h' hm)⟩
    · rcases h' : ok_11 d n m a c i
      · exact .inl fun w => by have := check_11 d n m a c i w; rw [h'] at this; exact this
      · exact .inr ⟨11, by decide, rfl, h', fun w => by have := check_11 d n m a c i w; rw [h'] at this; exact this, fun w => encw_gen 11 d n m a c i _ 0 w (fun b w hm => word_11 d n m a c i b w h' hm)⟩
    · rcases h' : ok_12 d n m a c i
      · exact .inl fun w => by have := check_12 d n m a c i w; rw [h'] at this; exact this
      · exact .inr ⟨12, by decide, rfl, h', fun w => by have := check_12 d n m a c i w; rw [h'] at this; exact this, fun w => encw_gen 12 d n m a c i _ 0 w (fun b w hm => word_12 d n m a c i b w h' hm)⟩
    · rcases h' : ok_13 d n m a c i
      · exact .inl fun w => by have := check_13 d n m a c i w; rw [h'] at this; exact this
      · exact .inr ⟨13, by decide, rfl, h', fun w => by have := check_13 d n m a c i w; rw [h'] at this; exact this, fun w => encw_gen 13 d n m a c i _ 0 w (fun b w hm => word_13 d n m a c i b w h' hm)⟩
    · rcases h' : ok_14 d n m a c i
      · exact .inl fun w => by have := check_14 d n m a c i w; rw [h'] at this; exact this
      · exact .inr ⟨14, by decide, rfl, h', fun w => by have := check_14 d n m a c i w; rw [h'] at this; exact this, fun w => encw_gen 14 d n m a c i _ 0 w (fun b w hm => word_14 d n m a c i b w h' hm)⟩
    · rcases h' : ok_15 d n m a c i
      · exact .inl fun w => by have := check_15 d n m a c i w; rw [h'] at this; exact this
      · exact .inr ⟨15, by decide, rfl, h', fun w => by have := check_15 d n m a c i w; rw [h'] at this; exact this, fun w => encw_gen 15 d n m a c i _ 0 w (fun b w hm => word_15 d n m a c i b w h' hm)⟩
    · rcases h' : ok_16 d n m a c i
      · exact .inl fun w => by have := check_16 d n m a c i w; rw [h'] at this; exact this
      · exact .inr ⟨16, by decide, rfl, h', fun w => by have := check_16 d n m a c i w; rw [h'] at this; exact this, fun w => encw_gen 16 d n m a c i _ 0 w (fun b w hm => word_16 d n m a c i b w h' hm)⟩
    · rcases h' : ok_17 d n m a c i
      · exact .inl fun w => by have := check_17 d n m a c i w; rw [h'] at this; exact this
      · exact .inr ⟨17, by decide, rfl, h', fun w => by have := check_17 d n m a c i w; rw [h'] at this; exact this, fun w => encw_gen 17 d n m a c i _ 0 w (fun b w hm => word_17 d n m a c i b w h' hm)⟩
    · rcases h' : ok_18 d n m a c i
      · exact .inl fun w => by have := check_18 d n m a c i w; rw [h'] at this; exact this
      · exact .inr ⟨18, by decide, rfl, h', fun w => by have := check_18 d n m a c i w; rw [h'] at this; exact this, fun w => encw_gen 18 d n m a c i _ 0 w (fun b w hm => word_18 d n m a c i b w h' hm)⟩
    · rcases h' : ok_19 d n m a c i
      · exact .inl fun w => by have := check_19 d n m a c i w; rw [h'] at this; exact this
      · exact .inr ⟨19, by decide, rfl, h', fun w => by have := check_19 d n m a c i w; rw [h'] at this; exact this, fun w => encw_gen 19 d n m a c i _ 0 w (fun b w hm => word_19 d n m a c i b w h' hm)⟩
    · rcases h' : ok_20 d n m a c i
      · exact .inl fun w => by have := check_20 d n m a c i w; rw [h'] at this; exact this
      · exact .inr ⟨20, by decide, rfl, h', fun w => by have := check_20 d n m a c i w; rw [h'] at this; exact this, fun w => encw_gen 20 d n m a c i _ 0 w (fun b w hm => word_20 d n m a c i b w h' hm)⟩
    · rcases h' : ok_21 d n m a c i
      · exact .inl fun w => by have := check_21 d n m a c i w; rw [h'] at this; exact this
      · exact .inr ⟨21, by decide, rfl, h', fun w => by have := check_21 d n m a c i w; rw [h'] at this; exact this, fun w => encw_gen 21 d n m a c i _ 0 w (fun b w hm => word_21 d n m a c i b w h' hm)⟩
    · rcases h' : ok_22 d n m a c i
      · exact .inl fun w => by have := check_22 d n m a c i w; rw [h'] at this; exact this
      · exact .inr ⟨22, by decide, rfl, h', fun w => by have := check_22 d n m a c i w; rw [h'] at this; exact this, fun w => encw_gen 22 d n m a c i _ 0 w (fun b w hm => word_22 d n m a c i b w h' hm)⟩
    · rcases h' : ok_23 d n m a c i
      · exact .inl fun w => by have := check_23 d n m a c i w; rw [h'] at this; exact this
      · exact .inr ⟨23, by decide, rfl, h', fun w => by have := check_23 d n m a c i w; rw [h'] at this; exact this, fun w => encw_gen 23 d n m a c i _ 0 w (fun b w hm => word_23 d n m a c i b w h' hm)⟩
    · rcases h' : ok_24 d n m a c i
      · exact .inl fun w => by have := check_24 d n m a c i w; rw [h'] at this; exact this
      · exact .inr ⟨24, by decide, rfl, h', fun w => by have := check_24 d n m a c i w; rw [h'] at this; exact this, fun w => encw_gen 24 d n m a c i _ 0 w (fun b w hm => word_24 d n m a c i b w h' hm)⟩
    · rcases h' : ok_25 d n m a c i
      · exact .inl fun w => by have := check_25 d n m a c i w; rw [h'] at this; exact this
      · exact .inr ⟨25, by decide, rfl, h', fun w => by have := check_25 d n m a c i w; rw [h'] at this; exact this, fun w => encw_gen 25 d n m a c i _ 0 w (fun b w hm => word_25 d n m a c i b w h' hm)⟩
    · rcases h' : ok_26 d n m a c i
      · exact .inl fun w => by have := check_26 d n m a c i w; rw [h'] at this; exact this
      · exact .inr ⟨26, by decide, rfl, h', fun w => by have := check_26 d n m a c i w; rw [h'] at this; exact this, fun w => encw_gen 26 d n m a c i _ 0 w (fun b w hm => word_26 d n m a c i b w h' hm)⟩
    · rcases h' : ok_27 d n m a c i
      · exact .inl fun w => by have := check_27 d n m a c i w; rw [h'] at this; exact this
      · exact .inr ⟨27, by decide, rfl, h', fun w => by have := check_27 d n m a c i w; rw [h'] at this; exact this, fun w => encw_gen 27 d n m a c i _ 0 w (fun b w hm => word_27 d n m a c i b w h' hm)⟩
    · rcases h' : ok_28 d n m a c i
      · exact .inl fun w => by have := check_28 d n m a c i w; rw [h'] at this; exact this
      · exact .inr ⟨28, by decide, rfl, h', fun w => by have := check_28 d n m a c i w; rw [h'] at this; exact this, fun w => encw_gen 28 d n m a c i _ 0 w (fun b w hm => word_28 d n m a c i b w h' hm)⟩
    · rcases h' : ok_29 d n m a c i
      · exact .inl fun w => by have := check_29 d n m a c i w; rw [h'] at this; exact this
      · exact .inr ⟨29, by decide, rfl, h', fun w => by have := check_29 d n m a c i w; rw [h'] at this; exact this, fun w => encw_gen 29 d n m a c i _ 0 w (fun b w hm => word_29 d n m a c i b w h' hm)⟩
    · rcases h' : ok_30 d n m a c i
      · exact .inl fun w => by have := check_30 d n m a c i w; rw [h'] at this; exact this
      · exact .inr ⟨30, by decide, rfl, h', fun w => by have := check_30 d n m a c i w; rw [h'] at this; exact this, fun w => encw_gen 30 d n m a c i _ 0 w (fun b w hm => word_30 d n m a c i b w h' hm)⟩
    · rcases h' : ok_31 d n m a c i
      · exact .inl fun w => by have := check_31 d n m a c i w; rw [h'] at this; exact this
      · exact .inr ⟨31, by decide, rfl, h', fun w => by have := check_31 d n m a c i w; rw [h'] at this; exact this, fun w => encw_gen 31 d n m a c i _ 0 w (fun b w hm => word_31 d n m a c i b w h' hm)⟩
    · rcases h' : ok_32 d n m a c i
      · exact .inl fun w => by have := check_32 d n m a c i w; rw [h'] at this; exact this
      · exact .inr ⟨32, by decide, rfl, h', fun w => by have := check_32 d n m a c i w; rw [h'] at this; exact this, fun w => encw_gen 32 d n m a c i _ 0 w (fun b w hm => word_32 d n m a c i b w h' hm)⟩
    · rcases h' : ok_33 d n m a c i
      · exact .inl fun w => by have := check_33 d n m a c i w; rw [h'] at this; exact this
      · exact .inr ⟨33, by decide, rfl, h', fun w => by have := check_33 d n m a c i w; rw [h'] at this; exact this, fun w => encw_gen 33 d n m a c i _ 0 w (fun b w hm => word_33 d n m a c i b w h' hm)⟩
    · rcases h' : ok_34 d n m a c i
      · exact .inl fun w => by have := check_34 d n m a c i w; rw [h'] at this; exact this
      · exact .inr ⟨34, by decide, rfl, h', fun w => by have := check_34 d n m a c i w; rw [h'] at this; exact this, fun w => encw_gen 34 d n m a c i _ 0 w (fun b w hm => word_34 d n m a c i b w h' hm)⟩
    · rcases h' : ok_35 d n m a c i
      · exact .inl fun w => by have := check_35 d n m a c i w; rw [h'] at this; exact this
      · exact .inr ⟨35, by decide, rfl, h', fun w => by have := check_35 d n m a c i w; rw [h'] at this; exact this, fun w => encw_gen 35 d n m a c i _ 0 w (fun b w hm => word_35 d n m a c i b w h' hm)⟩
    · rcases h' : ok_36 d n m a c i
      · exact .inl fun w => by have := check_36 d n m a c i w; rw [h'] at this; exact this
      · exact .inr ⟨36, by decide, rfl, h', fun w => by have := check_36 d n m a c i w; rw [h'] at this; exact this, fun w => encw_gen 36 d n m a c i _ 0 w (fun b w hm => word_36 d n m a c i b w h' hm)⟩
    · rcases h' : ok_37 d n m a c i
      · exact .inl fun w => by have := check_37 d n m a c i w; rw [h'] at this; exact this
      · exact .inr ⟨37, by decide, rfl, h', fun w => by have := check_37 d n m a c i w; rw [h'] at this; exact this, fun w => encw_gen 37 d n m a c i _ 0 w (fun b w hm => word_37 d n m a c i b w h' hm)⟩
    · rcases h' : ok_38 d n m a c i
      · exact .inl fun w => by have := check_38 d n m a c i w; rw [h'] at this; exact this
      · exact .inr ⟨38, by decide, rfl, h', fun w => by have := check_38 d n m a c i w; rw [h'] at this; exact this, fun w => encw_gen 38 d n m a c i _ 0 w (fun b w hm => word_38 d n m a c i b w h' hm)⟩
    · rcases h' : ok_39 d n m a c i
      · exact .inl fun w => by have := check_39 d n m a c i w; rw [h'] at this; exact this
      · exact .inr ⟨39, by decide, rfl, h', fun w => by have := check_39 d n m a c i w; rw [h'] at this; exact this, fun w => encw_gen 39 d n m a c i _ 0 w (fun b w hm => word_39 d n m a c i b w h' hm)⟩
    · rcases h' : ok_40 d n m a c i
      · exact .inl fun w => by have := check_40 d n m a c i w; rw [h'] at this; exact this
      · exact .inr ⟨40, by decide, rfl, h', fun w => by have := check_40 d n m a c i w; rw [h'] at this; exact this, fun w => encw_gen 40 d n m a c i _ 0 w (fun b w hm => word_40 d n m a c i b w h' hm)⟩
    · rcases h' : ok_41 d n m a c i
      · exact .inl fun w => by have := check_41 d n m a c i w; rw [h'] at this; exact this
      · exact .inr ⟨41, by decide, rfl, h', fun w => by have := check_41 d n m a c i w; rw [h'] at this; exact this, fun w => encw_gen 41 d n m a c i _ 0 w (fun b w hm => word_41 d n m a c i b w h' hm)⟩
    · rcases h' : ok_42 d n m a c i
      · exact .inl fun w => by have := check_42 d n m a c i w; rw [h'] at this; exact this
      · exact .inr ⟨42, by decide, rfl, h', fun w => by have := check_42 d n m a c i w; rw [h'] at this; exact this, fun w => encw_gen 42 d n m a c i _ 0 w (fun b w hm => word_42 d n m a c i b w h' hm)⟩
  · have h' : op < 0 ∨ 42 < op := by omega
    exact .inl fun w => check_non op d n m a c i 0 w (fun w => isop_n op w h')
theorem unlike_any (op d n m a c i p d2 n2 m2 a2 c2 i2 : Int) (w : World) : Calls Try.prog 5 #[.agg #[.int .i64 op, .int .i64 d, .int .i64 n, .int .i64 m, .int .i64 a, .int .i64 c, .int .i64 i], .agg #[.int .i64 p, .int .i64 d2, .int .i64 n2, .int .i64 m2, .int .i64 a2, .int .i64 c2, .int .i64 i2]] w fun r w' => r = .returned (.bool true) ∧ Below w.heap.size w w' := by
  rcases right_or op d n m a c i with h1 | ⟨o, ho, hoe, hok, h1, h3⟩
  · exact unlike_a op d n m a c i p d2 n2 m2 a2 c2 i2 w h1
  · rcases right_or p d2 n2 m2 a2 c2 i2 with h2 | ⟨q, hq, hqe, hqk, h2, h4⟩
    · exact unlike_b op d n m a c i p d2 n2 m2 a2 c2 i2 w h1 h2
    · by_cases hall : op = p ∧ d = d2 ∧ n = n2 ∧ m = m2 ∧ a = a2 ∧ c = c2 ∧ i = i2
      · obtain ⟨rfl, rfl, rfl, rfl, rfl, rfl, rfl⟩ := hall
        exact unlike_d op d n m a c i _ w h1 h3
      · refine unlike_c op d n m a c i p d2 n2 m2 a2 c2 i2 _ _ w h1 h2 h3 h4 ?_ hall
        refine beq_false_of_ne fun e => ?_
        obtain ⟨l, hl, el⟩ := wordN_lays o ho d n m a c i
        obtain ⟨k, hk, ek⟩ := wordN_lays q hq d2 n2 m2 a2 c2 i2
        have hoq : o = q := unlike_ops o q ho hq l k hl hk (el.symm.trans (e.trans ek))
        subst hoq
        obtain ⟨e1, e2, e3, e4, e5, e6⟩ := wordN_inj o ho d n m a c i d2 n2 m2 a2 c2 i2 hok hqk e
        exact hall ⟨by rw [hoe, hqe], e1, e2, e3, e4, e5, e6⟩
end Go.Proofs.Ythgpolddbadfmaa
