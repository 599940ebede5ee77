import Derived.Test.YtpjfjdncdiemlaaSfJ
import Derived.Test.YtpjfjdncdiemlaaSfN
namespace Go.Proofs.Ytpjfjdncdiemlaa
open Go.ChangeShapes Go.WideShapes Go.ChangeAt Go.RowKit
open Fr (puts mem_puts)
set_option linter.unusedVariables false
def RightP (o d n m a c i : Int) (I T : List Int) : Prop :=
  (∀ w, Calls Try.prog 17 #[.agg #[.int .i64 o, .int .i64 d, .int .i64 n, .int .i64 m, .int .i64 a, .int .i64 c, .int .i64 i]] w fun e w' => e = .returned (.int .i64 0) ∧ Below w.heap.size w w') ∧
  (∀ w, Calls Try.prog 18 #[.agg #[.int .i64 o, .int .i64 d, .int .i64 n, .int .i64 m, .int .i64 a, .int .i64 c, .int .i64 i]] w (Fr.RowP I w)) ∧ (∀ w, Calls Try.prog 19 #[.agg #[.int .i64 o, .int .i64 d, .int .i64 n, .int .i64 m, .int .i64 a, .int .i64 c, .int .i64 i]] w (Fr.RowP T w)) ∧ I.length ≤ 6 ∧ T.length ≤ 6 ∧
  ∀ (pc : Int) (r o' : Rg), r.within → o'.within → FramesOf o d n m a c i I T (tchB o) pc r o'
def AnyP (o d n m a c i : Int) : Prop :=
  (∀ w, Calls Try.prog 17 #[.agg #[.int .i64 o, .int .i64 d, .int .i64 n, .int .i64 m, .int .i64 a, .int .i64 c, .int .i64 i]] w fun e w' => e = .returned (.int .i64 1) ∧ Below w.heap.size w w') ∨ ∃ I T, RightP o d n m a c i I T
theorem ck1 {o d n m a c i : Int} {b : Bool} (h : ∀ w, Calls Try.prog 17 #[.agg #[.int .i64 o, .int .i64 d, .int .i64 n, .int .i64 m, .int .i64 a, .int .i64 c, .int .i64 i]] w fun e w' => e = .returned (.int .i64 (Fr.er b)) ∧ Below w.heap.size w w') (hb : b = false) :
    ∀ w, Calls Try.prog 17 #[.agg #[.int .i64 o, .int .i64 d, .int .i64 n, .int .i64 m, .int .i64 a, .int .i64 c, .int .i64 i]] w fun e w' => e = .returned (.int .i64 1) ∧ Below w.heap.size w w' := by
  subst hb
  exact h
theorem any_0 (d n m a c i : Int) : AnyP 0 d n m a c i := by
  cases hok : Fr.ok_0 d n m a c i
  · exact .inl (ck1 (Fr.check_0 d n m a c i) hok)
  · exact .inr ⟨[], [], ck0 (Fr.check_0 d n m a c i) hok, fun w => Fr.in_0 d n m a c i w hok, fun w => Fr.out_0 d n m a c i w hok, by simp, by simp, fun pc r o' hr ho => fr_0 d n m a c i pc r o' hr ho hok⟩
theorem any_1 (d n m a c i : Int) : AnyP 1 d n m a c i := by
  cases hok : Fr.ok_1 d n m a c i
  · exact .inl (ck1 (Fr.check_1 d n m a c i) hok)
  · exact .inr ⟨[], [], ck0 (Fr.check_1 d n m a c i) hok, fun w => Fr.in_1 d n m a c i w hok, fun w => Fr.out_1 d n m a c i w hok, by simp, by simp, fun pc r o' hr ho => fr_1 d n m a c i pc r o' hr ho hok⟩
theorem any_2 (d n m a c i : Int) : AnyP 2 d n m a c i := by
  cases hok : Fr.ok_2 d n m a c i
  · exact .inl (ck1 (Fr.check_2 d n m a c i) hok)
  · exact .inr ⟨[], [d], ck0 (Fr.check_2 d n m a c i) hok, fun w => Fr.in_2 d n m a c i w hok, fun w => Fr.out_2 d n m a c i w hok, by simp, by simp, fun pc r o' hr ho => fr_2 d n m a c i pc r o' hr ho hok⟩
theorem any_3 (d n m a c i : Int) : AnyP 3 d n m a c i := by
  cases hok : Fr.ok_3 d n m a c i
  · exact .inl (ck1 (Fr.check_3 d n m a c i) hok)
  · exact .inr ⟨[d], [d], ck0 (Fr.check_3 d n m a c i) hok, fun w => Fr.in_3 d n m a c i w hok, fun w => Fr.out_3 d n m a c i w hok, by simp, by simp, fun pc r o' hr ho => fr_3 d n m a c i pc r o' hr ho hok⟩
theorem any_4 (d n m a c i : Int) : AnyP 4 d n m a c i := by
  cases hok : Fr.ok_4 d n m a c i
  · exact .inl (ck1 (Fr.check_4 d n m a c i) hok)
  · exact .inr ⟨[Fr.spOr n], [Fr.spOr d], ck0 (Fr.check_4 d n m a c i) hok, fun w => Fr.in_4 d n m a c i w hok, fun w => Fr.out_4 d n m a c i w hok, by simp, by simp, fun pc r o' hr ho => fr_4 d n m a c i pc r o' hr ho hok⟩
theorem any_5 (d n m a c i : Int) : AnyP 5 d n m a c i := by
  cases hok : Fr.ok_5 d n m a c i
  · exact .inl (ck1 (Fr.check_5 d n m a c i) hok)
  · exact .inr ⟨[Fr.spOr n], [Fr.spOr d], ck0 (Fr.check_5 d n m a c i) hok, fun w => Fr.in_5 d n m a c i w hok, fun w => Fr.out_5 d n m a c i w hok, by simp, by simp, fun pc r o' hr ho => fr_5 d n m a c i pc r o' hr ho hok⟩
theorem any_6 (d n m a c i : Int) : AnyP 6 d n m a c i := by
  cases hok : Fr.ok_6 d n m a c i
  · exact .inl (ck1 (Fr.check_6 d n m a c i) hok)
  · exact .inr ⟨[Fr.spOr n], [d, 33], ck0 (Fr.check_6 d n m a c i) hok, fun w => Fr.in_6 d n m a c i w hok, fun w => Fr.out_6 d n m a c i w hok, by simp, by simp, fun pc r o' hr ho => fr_6 d n m a c i pc r o' hr ho hok⟩
theorem any_7 (d n m a c i : Int) : AnyP 7 d n m a c i := by
  cases hok : Fr.ok_7 d n m a c i
  · exact .inl (ck1 (Fr.check_7 d n m a c i) hok)
  · exact .inr ⟨[n, m], [d], ck0 (Fr.check_7 d n m a c i) hok, fun w => Fr.in_7 d n m a c i w hok, fun w => Fr.out_7 d n m a c i w hok, by simp, by simp, fun pc r o' hr ho => fr_7 d n m a c i pc r o' hr ho hok⟩
theorem any_8 (d n m a c i : Int) : AnyP 8 d n m a c i := by
  cases hok : Fr.ok_8 d n m a c i
  · exact .inl (ck1 (Fr.check_8 d n m a c i) hok)
  · exact .inr ⟨[n, m], [d], ck0 (Fr.check_8 d n m a c i) hok, fun w => Fr.in_8 d n m a c i w hok, fun w => Fr.out_8 d n m a c i w hok, by simp, by simp, fun pc r o' hr ho => fr_8 d n m a c i pc r o' hr ho hok⟩
theorem any_9 (d n m a c i : Int) : AnyP 9 d n m a c i := by
  cases hok : Fr.ok_9 d n m a c i
  · exact .inl (ck1 (Fr.check_9 d n m a c i) hok)
  · exact .inr ⟨[n, m], [d, 33], ck0 (Fr.check_9 d n m a c i) hok, fun w => Fr.in_9 d n m a c i w hok, fun w => Fr.out_9 d n m a c i w hok, by simp, by simp, fun pc r o' hr ho => fr_9 d n m a c i pc r o' hr ho hok⟩
theorem any_10 (d n m a c i : Int) : AnyP 10 d n m a c i := by
  cases hok : Fr.ok_10 d n m a c i
  · exact .inl (ck1 (Fr.check_10 d n m a c i) hok)
  · exact .inr ⟨[n, m], [d], ck0 (Fr.check_10 d n m a c i) hok, fun w => Fr.in_10 d n m a c i w hok, fun w => Fr.out_10 d n m a c i w hok, by simp, by simp, fun pc r o' hr ho => fr_10 d n m a c i pc r o' hr ho hok⟩
theorem any_11 (d n m a c i : Int) : AnyP 11 d n m a c i := by
  cases hok : Fr.ok_11 d n m a c i
  · exact .inl (ck1 (Fr.check_11 d n m a c i) hok)
  · exact .inr ⟨[n, m], [d], ck0 (Fr.check_11 d n m a c i) hok, fun w => Fr.in_11 d n m a c i w hok, fun w => Fr.out_11 d n m a c i w hok, by simp, by simp, fun pc r o' hr ho => fr_11 d n m a c i pc r o' hr ho hok⟩
theorem any_12 (d n m a c i : Int) : AnyP 12 d n m a c i := by
  cases hok : Fr.ok_12 d n m a c i
  · exact .inl (ck1 (Fr.check_12 d n m a c i) hok)
  · exact .inr ⟨[n, m], [d], ck0 (Fr.check_12 d n m a c i) hok, fun w => Fr.in_12 d n m a c i w hok, fun w => Fr.out_12 d n m a c i w hok, by simp, by simp, fun pc r o' hr ho => fr_12 d n m a c i pc r o' hr ho hok⟩
theorem any_13 (d n m a c i : Int) : AnyP 13 d n m a c i := by
  cases hok : Fr.ok_13 d n m a c i
  · exact .inl (ck1 (Fr.check_13 d n m a c i) hok)
  · exact .inr ⟨[n, m, a], [d], ck0 (Fr.check_13 d n m a c i) hok, fun w => Fr.in_13 d n m a c i w hok, fun w => Fr.out_13 d n m a c i w hok, by simp, by simp, fun pc r o' hr ho => fr_13 d n m a c i pc r o' hr ho hok⟩
theorem any_14 (d n m a c i : Int) : AnyP 14 d n m a c i := by
  cases hok : Fr.ok_14 d n m a c i
  · exact .inl (ck1 (Fr.check_14 d n m a c i) hok)
  · exact .inr ⟨[n, m, a], [d], ck0 (Fr.check_14 d n m a c i) hok, fun w => Fr.in_14 d n m a c i w hok, fun w => Fr.out_14 d n m a c i w hok, by simp, by simp, fun pc r o' hr ho => fr_14 d n m a c i pc r o' hr ho hok⟩
theorem any_15 (d n m a c i : Int) : AnyP 15 d n m a c i := by
  cases hok : Fr.ok_15 d n m a c i
  · exact .inl (ck1 (Fr.check_15 d n m a c i) hok)
  · exact .inr ⟨[n, m], [d], ck0 (Fr.check_15 d n m a c i) hok, fun w => Fr.in_15 d n m a c i w hok, fun w => Fr.out_15 d n m a c i w hok, by simp, by simp, fun pc r o' hr ho => fr_15 d n m a c i pc r o' hr ho hok⟩
theorem any_16 (d n m a c i : Int) : AnyP 16 d n m a c i := by
  cases hok : Fr.ok_16 d n m a c i
  · exact .inl (ck1 (Fr.check_16 d n m a c i) hok)
  · exact .inr ⟨[n, m], [d], ck0 (Fr.check_16 d n m a c i) hok, fun w => Fr.in_16 d n m a c i w hok, fun w => Fr.out_16 d n m a c i w hok, by simp, by simp, fun pc r o' hr ho => fr_16 d n m a c i pc r o' hr ho hok⟩
theorem any_17 (d n m a c i : Int) : AnyP 17 d n m a c i := by
  cases hok : Fr.ok_17 d n m a c i
  · exact .inl (ck1 (Fr.check_17 d n m a c i) hok)
  · exact .inr ⟨[n, m], [d], ck0 (Fr.check_17 d n m a c i) hok, fun w => Fr.in_17 d n m a c i w hok, fun w => Fr.out_17 d n m a c i w hok, by simp, by simp, fun pc r o' hr ho => fr_17 d n m a c i pc r o' hr ho hok⟩
theorem any_18 (d n m a c i : Int) : AnyP 18 d n m a c i := by
  cases hok : Fr.ok_18 d n m a c i
  · exact .inl (ck1 (Fr.check_18 d n m a c i) hok)
  · exact .inr ⟨[n, m], [d], ck0 (Fr.check_18 d n m a c i) hok, fun w => Fr.in_18 d n m a c i w hok, fun w => Fr.out_18 d n m a c i w hok, by simp, by simp, fun pc r o' hr ho => fr_18 d n m a c i pc r o' hr ho hok⟩
theorem any_19 (d n m a c i : Int) : AnyP 19 d n m a c i := by
  cases hok : Fr.ok_19 d n m a c i
  · exact .inl (ck1 (Fr.check_19 d n m a c i) hok)
  · exact .inr ⟨[n, m, 33], [d], ck0 (Fr.check_19 d n m a c i) hok, fun w => Fr.in_19 d n m a c i w hok, fun w => Fr.out_19 d n m a c i w hok, by simp, by simp, fun pc r o' hr ho => fr_19 d n m a c i pc r o' hr ho hok⟩
theorem any_20 (d n m a c i : Int) : AnyP 20 d n m a c i := by
  cases hok : Fr.ok_20 d n m a c i
  · exact .inl (ck1 (Fr.check_20 d n m a c i) hok)
  · exact .inr ⟨[], [], ck0 (Fr.check_20 d n m a c i) hok, fun w => Fr.in_20 d n m a c i w hok, fun w => Fr.out_20 d n m a c i w hok, by simp, by simp, fun pc r o' hr ho => fr_20 d n m a c i pc r o' hr ho hok⟩
theorem any_21 (d n m a c i : Int) : AnyP 21 d n m a c i := by
  cases hok : Fr.ok_21 d n m a c i
  · exact .inl (ck1 (Fr.check_21 d n m a c i) hok)
  · exact .inr ⟨[33], [], ck0 (Fr.check_21 d n m a c i) hok, fun w => Fr.in_21 d n m a c i w hok, fun w => Fr.out_21 d n m a c i w hok, by simp, by simp, fun pc r o' hr ho => fr_21 d n m a c i pc r o' hr ho hok⟩
theorem any_22 (d n m a c i : Int) : AnyP 22 d n m a c i := by
  cases hok : Fr.ok_22 d n m a c i
  · exact .inl (ck1 (Fr.check_22 d n m a c i) hok)
  · exact .inr ⟨[d], [], ck0 (Fr.check_22 d n m a c i) hok, fun w => Fr.in_22 d n m a c i w hok, fun w => Fr.out_22 d n m a c i w hok, by simp, by simp, fun pc r o' hr ho => fr_22 d n m a c i pc r o' hr ho hok⟩
theorem any_23 (d n m a c i : Int) : AnyP 23 d n m a c i := by
  cases hok : Fr.ok_23 d n m a c i
  · exact .inl (ck1 (Fr.check_23 d n m a c i) hok)
  · exact .inr ⟨[d], [], ck0 (Fr.check_23 d n m a c i) hok, fun w => Fr.in_23 d n m a c i w hok, fun w => Fr.out_23 d n m a c i w hok, by simp, by simp, fun pc r o' hr ho => fr_23 d n m a c i pc r o' hr ho hok⟩
theorem any_24 (d n m a c i : Int) : AnyP 24 d n m a c i := by
  cases hok : Fr.ok_24 d n m a c i
  · exact .inl (ck1 (Fr.check_24 d n m a c i) hok)
  · exact .inr ⟨[], [30], ck0 (Fr.check_24 d n m a c i) hok, fun w => Fr.in_24 d n m a c i w hok, fun w => Fr.out_24 d n m a c i w hok, by simp, by simp, fun pc r o' hr ho => fr_24 d n m a c i pc r o' hr ho hok⟩
theorem any_25 (d n m a c i : Int) : AnyP 25 d n m a c i := by
  cases hok : Fr.ok_25 d n m a c i
  · exact .inl (ck1 (Fr.check_25 d n m a c i) hok)
  · exact .inr ⟨[n], [], ck0 (Fr.check_25 d n m a c i) hok, fun w => Fr.in_25 d n m a c i w hok, fun w => Fr.out_25 d n m a c i w hok, by simp, by simp, fun pc r o' hr ho => fr_25 d n m a c i pc r o' hr ho hok⟩
theorem any_26 (d n m a c i : Int) : AnyP 26 d n m a c i := by
  cases hok : Fr.ok_26 d n m a c i
  · exact .inl (ck1 (Fr.check_26 d n m a c i) hok)
  · exact .inr ⟨[n], [30], ck0 (Fr.check_26 d n m a c i) hok, fun w => Fr.in_26 d n m a c i w hok, fun w => Fr.out_26 d n m a c i w hok, by simp, by simp, fun pc r o' hr ho => fr_26 d n m a c i pc r o' hr ho hok⟩
theorem any_27 (d n m a c i : Int) : AnyP 27 d n m a c i := by
  cases hok : Fr.ok_27 d n m a c i
  · exact .inl (ck1 (Fr.check_27 d n m a c i) hok)
  · exact .inr ⟨[n], [], ck0 (Fr.check_27 d n m a c i) hok, fun w => Fr.in_27 d n m a c i w hok, fun w => Fr.out_27 d n m a c i w hok, by simp, by simp, fun pc r o' hr ho => fr_27 d n m a c i pc r o' hr ho hok⟩
theorem any_28 (d n m a c i : Int) : AnyP 28 d n m a c i := by
  cases hok : Fr.ok_28 d n m a c i
  · exact .inl (ck1 (Fr.check_28 d n m a c i) hok)
  · exact .inr ⟨[Fr.spOr n], [d], ck0 (Fr.check_28 d n m a c i) hok, fun w => Fr.in_28 d n m a c i w hok, fun w => Fr.out_28 d n m a c i w hok, by simp, by simp, fun pc r o' hr ho => fr_28 d n m a c i pc r o' hr ho hok⟩
theorem any_29 (d n m a c i : Int) : AnyP 29 d n m a c i := by
  cases hok : Fr.ok_29 d n m a c i
  · exact .inl (ck1 (Fr.check_29 d n m a c i) hok)
  · exact .inr ⟨[d, Fr.spOr n], [], ck0 (Fr.check_29 d n m a c i) hok, fun w => Fr.in_29 d n m a c i w hok, fun w => Fr.out_29 d n m a c i w hok, by simp, by simp, fun pc r o' hr ho => fr_29 d n m a c i pc r o' hr ho hok⟩
theorem any_30 (d n m a c i : Int) : AnyP 30 d n m a c i := by
  cases hok : Fr.ok_30 d n m a c i
  · exact .inl (ck1 (Fr.check_30 d n m a c i) hok)
  · exact .inr ⟨[Fr.spOr n], [d], ck0 (Fr.check_30 d n m a c i) hok, fun w => Fr.in_30 d n m a c i w hok, fun w => Fr.out_30 d n m a c i w hok, by simp, by simp, fun pc r o' hr ho => fr_30 d n m a c i pc r o' hr ho hok⟩
theorem any_31 (d n m a c i : Int) : AnyP 31 d n m a c i := by
  cases hok : Fr.ok_31 d n m a c i
  · exact .inl (ck1 (Fr.check_31 d n m a c i) hok)
  · exact .inr ⟨[Fr.spOr n, m], [d], ck0 (Fr.check_31 d n m a c i) hok, fun w => Fr.in_31 d n m a c i w hok, fun w => Fr.out_31 d n m a c i w hok, by simp, by simp, fun pc r o' hr ho => fr_31 d n m a c i pc r o' hr ho hok⟩
theorem any_32 (d n m a c i : Int) : AnyP 32 d n m a c i := by
  cases hok : Fr.ok_32 d n m a c i
  · exact .inl (ck1 (Fr.check_32 d n m a c i) hok)
  · exact .inr ⟨[d, Fr.spOr n, m], [], ck0 (Fr.check_32 d n m a c i) hok, fun w => Fr.in_32 d n m a c i w hok, fun w => Fr.out_32 d n m a c i w hok, by simp, by simp, fun pc r o' hr ho => fr_32 d n m a c i pc r o' hr ho hok⟩
theorem any_33 (d n m a c i : Int) : AnyP 33 d n m a c i := by
  cases hok : Fr.ok_33 d n m a c i
  · exact .inl (ck1 (Fr.check_33 d n m a c i) hok)
  · exact .inr ⟨[Fr.spOr n], [d], ck0 (Fr.check_33 d n m a c i) hok, fun w => Fr.in_33 d n m a c i w hok, fun w => Fr.out_33 d n m a c i w hok, by simp, by simp, fun pc r o' hr ho => fr_33 d n m a c i pc r o' hr ho hok⟩
theorem any_34 (d n m a c i : Int) : AnyP 34 d n m a c i := by
  cases hok : Fr.ok_34 d n m a c i
  · exact .inl (ck1 (Fr.check_34 d n m a c i) hok)
  · exact .inr ⟨[d, Fr.spOr n], [], ck0 (Fr.check_34 d n m a c i) hok, fun w => Fr.in_34 d n m a c i w hok, fun w => Fr.out_34 d n m a c i w hok, by simp, by simp, fun pc r o' hr ho => fr_34 d n m a c i pc r o' hr ho hok⟩
theorem any_35 (d n m a c i : Int) : AnyP 35 d n m a c i := by
  cases hok : Fr.ok_35 d n m a c i
  · exact .inl (ck1 (Fr.check_35 d n m a c i) hok)
  · exact .inr ⟨[Fr.spOr n], [d], ck0 (Fr.check_35 d n m a c i) hok, fun w => Fr.in_35 d n m a c i w hok, fun w => Fr.out_35 d n m a c i w hok, by simp, by simp, fun pc r o' hr ho => fr_35 d n m a c i pc r o' hr ho hok⟩
theorem any_36 (d n m a c i : Int) : AnyP 36 d n m a c i := by
  cases hok : Fr.ok_36 d n m a c i
  · exact .inl (ck1 (Fr.check_36 d n m a c i) hok)
  · exact .inr ⟨[Fr.spOr n, m], [d], ck0 (Fr.check_36 d n m a c i) hok, fun w => Fr.in_36 d n m a c i w hok, fun w => Fr.out_36 d n m a c i w hok, by simp, by simp, fun pc r o' hr ho => fr_36 d n m a c i pc r o' hr ho hok⟩
theorem any_37 (d n m a c i : Int) : AnyP 37 d n m a c i := by
  cases hok : Fr.ok_37 d n m a c i
  · exact .inl (ck1 (Fr.check_37 d n m a c i) hok)
  · exact .inr ⟨[], [], ck0 (Fr.check_37 d n m a c i) hok, fun w => Fr.in_37 d n m a c i w hok, fun w => Fr.out_37 d n m a c i w hok, by simp, by simp, fun pc r o' hr ho => fr_37 d n m a c i pc r o' hr ho hok⟩
theorem any_38 (d n m a c i : Int) : AnyP 38 d n m a c i := by
  cases hok : Fr.ok_38 d n m a c i
  · exact .inl (ck1 (Fr.check_38 d n m a c i) hok)
  · exact .inr ⟨[], [], ck0 (Fr.check_38 d n m a c i) hok, fun w => Fr.in_38 d n m a c i w hok, fun w => Fr.out_38 d n m a c i w hok, by simp, by simp, fun pc r o' hr ho => fr_38 d n m a c i pc r o' hr ho hok⟩
theorem any_39 (d n m a c i : Int) : AnyP 39 d n m a c i := by
  cases hok : Fr.ok_39 d n m a c i
  · exact .inl (ck1 (Fr.check_39 d n m a c i) hok)
  · exact .inr ⟨[], [], ck0 (Fr.check_39 d n m a c i) hok, fun w => Fr.in_39 d n m a c i w hok, fun w => Fr.out_39 d n m a c i w hok, by simp, by simp, fun pc r o' hr ho => fr_39 d n m a c i pc r o' hr ho hok⟩
theorem any_40 (d n m a c i : Int) : AnyP 40 d n m a c i := by
  cases hok : Fr.ok_40 d n m a c i
  · exact .inl (ck1 (Fr.check_40 d n m a c i) hok)
  · exact .inr ⟨[n], [], ck0 (Fr.check_40 d n m a c i) hok, fun w => Fr.in_40 d n m a c i w hok, fun w => Fr.out_40 d n m a c i w hok, by simp, by simp, fun pc r o' hr ho => fr_40 d n m a c i pc r o' hr ho hok⟩
theorem any_41 (d n m a c i : Int) : AnyP 41 d n m a c i := by
  cases hok : Fr.ok_41 d n m a c i
  · exact .inl (ck1 (Fr.check_41 d n m a c i) hok)
  · exact .inr ⟨[n], [], ck0 (Fr.check_41 d n m a c i) hok, fun w => Fr.in_41 d n m a c i w hok, fun w => Fr.out_41 d n m a c i w hok, by simp, by simp, fun pc r o' hr ho => fr_41 d n m a c i pc r o' hr ho hok⟩
theorem any_42 (d n m a c i : Int) : AnyP 42 d n m a c i := by
  cases hok : Fr.ok_42 d n m a c i
  · exact .inl (ck1 (Fr.check_42 d n m a c i) hok)
  · exact .inr ⟨[], [], ck0 (Fr.check_42 d n m a c i) hok, fun w => Fr.in_42 d n m a c i w hok, fun w => Fr.out_42 d n m a c i w hok, by simp, by simp, fun pc r o' hr ho => fr_42 d n m a c i pc r o' hr ho hok⟩
theorem any_ins (o d n m a c i : Int) : AnyP o d n m a c i := by
  by_cases h : 0 ≤ o ∧ o ≤ 42
  · obtain rfl | rfl | rfl | rfl | rfl | rfl | rfl | rfl | rfl | rfl | rfl | rfl | rfl | rfl | rfl | rfl | rfl | rfl | rfl | rfl | rfl | rfl | rfl | rfl | rfl | rfl | rfl | rfl | rfl | rfl | rfl | rfl | rfl | rfl | rfl | rfl | rfl | rfl | rfl | rfl | rfl | rfl | rfl : o = 0 ∨ o = 1 ∨ o = 2 ∨ o = 3 ∨ o = 4 ∨ o = 5 ∨ o = 6 ∨ o = 7 ∨ o = 8 ∨ o = 9 ∨ o = 10 ∨ o = 11 ∨ o = 12 ∨ o = 13 ∨ o = 14 ∨ o = 15 ∨ o = 16 ∨ o = 17 ∨ o = 18 ∨ o = 19 ∨ o = 20 ∨ o = 21 ∨ o = 22 ∨ o = 23 ∨ o = 24 ∨ o = 25 ∨ o = 26 ∨ o = 27 ∨ o = 28 ∨ o = 29 ∨ o = 30 ∨ o = 31 ∨ o = 32 ∨ o = 33 ∨ o = 34 ∨ o = 35 ∨ o = 36 ∨ o = 37 ∨ o = 38 ∨ o = 39 ∨ o = 40 ∨ o = 41 ∨ o = 42 := by omega
    · exact any_0 d n m a c i
    · exact any_1 d n m a c i
    · exact any_2 d n m a c i
    · exact any_3 d n m a c i
    · exact any_4 d n m a c i
    · exact any_5 d n m a c i
    · exact any_6 d n m a c i
    · exact any_7 d n m a c i
    · exact any_8 d n m a c i
    · exact any_9 d n m a c i
    · exact any_10 d n m a c i
    · exact any_11 d n m a c i
    · exact any_12 d n m a c i
    · exact any_13 d n m a c i
    · exact any_14 d n m a c i
    · exact any_15 d n m a c i
    · exact any_16 d n m a c i
    · exact any_17 d n m a c i
    · exact any_18 d n m a c i
    · exact any_19 d n m a c i
    · exact any_20 d n m a c i
    · exact any_21 d n m a c i
    · exact any_22 d n m a c i
    · exact any_23 d n m a c i
    · exact any_24 d n m a c i
    · exact any_25 d n m a c i
    · exact any_26 d n m a c i
    · exact any_27 d n m a c i
    · exact any_28 d n m a c i
    · exact any_29 d n m a c i
    · exact any_30 d n m a c i
    · exact any_31 d n m a c i
    · exact any_32 d n m a c i
    · exact any_33 d n m a c i
    · exact any_34 d n m a c i
    · exact any_35 d n m a c i
    · exact any_36 d n m a c i
    · exact any_37 d n m a c i
    · exact any_38 d n m a c i
    · exact any_39 d n m a c i
    · exact any_40 d n m a c i
    · exact any_41 d n m a c i
    · exact any_42 d n m a c i
  · exact .inl fun w => Fr.check_non o d n m a c i 0 w (fun w => Fr.isop_n o w (by omega))
end Go.Proofs.Ytpjfjdncdiemlaa
