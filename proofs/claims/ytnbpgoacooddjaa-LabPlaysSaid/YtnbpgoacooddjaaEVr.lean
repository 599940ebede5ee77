import Derived.Test.YtnbpgoacooddjaaERwA
import Derived.Test.YtnbpgoacooddjaaERwB
import Derived.Test.YtnbpgoacooddjaaERwC
import Derived.Test.YtnbpgoacooddjaaERwD
import Derived.Test.YtnbpgoacooddjaaEVa
namespace Go.Proofs.Ytnbpgoacooddjaa.Fr
end Go.Proofs.Ytnbpgoacooddjaa.Fr
namespace Go.Proofs.Ytnbpgoacooddjaa.En
open Go.Proofs.Ytnbpgoacooddjaa.Fr
open Go.ChangeShapes Go.WideShapes Go.ChangeAt Go.RowKit Go.Maps
set_option linter.unusedVariables false
set_option maxRecDepth 100000 in
set_option maxHeartbeats 4000000 in
theorem rcheck_non (op d n m a c i : Int) (w : World) (h : op < 0 ∨ 42 < op) : Calls Try.prog 83 #[.agg #[.int .i64 op, .int .i64 d, .int .i64 n, .int .i64 m, .int .i64 a, .int .i64 c, .int .i64 i]] w fun e w' => e = .returned (.int .i64 1) ∧ Below w.heap.size w w' := by
  rcases h with h | h
  · go_enter Try.func83, Try.ntmps83
    go_wp2
    go_ret
    exact ⟨rfl, (Below.refl _ _).alloc (Nat.le_refl _) _⟩
  · have h0 : ¬ op < 0 := by omega
    go_enter Try.func83, Try.ntmps83
    go_wp2
    go_ret
    exact ⟨rfl, (Below.refl _ _).alloc (Nat.le_refl _) _⟩
set_option maxRecDepth 100000 in
set_option maxHeartbeats 4000000 in
theorem rword_bad (op d n m a c i : Int) (w : World) (h : ∀ w, Calls Try.prog 83 #[.agg #[.int .i64 op, .int .i64 d, .int .i64 n, .int .i64 m, .int .i64 a, .int .i64 c, .int .i64 i]] w fun e w' => e = .returned (.int .i64 1) ∧ Below w.heap.size w w') :
    Calls Try.prog 119 #[.agg #[.int .i64 op, .int .i64 d, .int .i64 n, .int .i64 m, .int .i64 a, .int .i64 c, .int .i64 i]] w fun r w' => r = .returned (.tuple #[.int .u32 0, .int .i64 1]) ∧ Below w.heap.size w w' := by
  have H := Lib.hid h
  clear h
  go_enter Try.func119, Try.ntmps119
  go_wp2_with fail
  refine (H.out _).mono ?_
  rintro e w1 ⟨rfl, hb⟩
  have HB1 : Hid (Below w.heap.size w w1) := Lib.hid (((Below.refl _ _).alloc (Nat.le_refl _) _).trans (hb.mono (by simp)))
  clear hb
  go_wp2
  go_ret2
  exact ⟨rfl, HB1.out⟩
theorem rword_yy (op d n m a c i : Int) (j : Nat) (hj : j < 43) (ho : op = (j : Int)) (h : okN j d n m a c i = true) (w : World) : Calls Try.prog 119 #[.agg #[.int .i64 op, .int .i64 d, .int .i64 n, .int .i64 m, .int .i64 a, .int .i64 c, .int .i64 i]] w fun e w' => e = .returned (.tuple #[.int .u32 (wordN j d n m a c i), .int .i64 0]) ∧ Below w.heap.size w w' := by
  have : j = 0 ∨ j = 1 ∨ j = 2 ∨ j = 3 ∨ j = 4 ∨ j = 5 ∨ j = 6 ∨ j = 7 ∨ j = 8 ∨ j = 9 ∨ j = 10 ∨ j = 11 ∨ j = 12 ∨ j = 13 ∨ j = 14 ∨ j = 15 ∨ j = 16 ∨ j = 17 ∨ j = 18 ∨ j = 19 ∨ j = 20 ∨ j = 21 ∨ j = 22 ∨ j = 23 ∨ j = 24 ∨ j = 25 ∨ j = 26 ∨ j = 27 ∨ j = 28 ∨ j = 29 ∨ j = 30 ∨ j = 31 ∨ j = 32 ∨ j = 33 ∨ j = 34 ∨ j = 35 ∨ j = 36 ∨ j = 37 ∨ j = 38 ∨ j = 39 ∨ j = 40 ∨ j = 41 ∨ j = 42 := by omega
  subst ho
  rcases this with rfl | rfl | rfl | rfl | rfl | rfl | rfl | rfl | rfl | rfl | rfl | rfl | rfl | rfl | rfl | rfl | rfl | rfl | rfl | rfl | rfl | rfl | rfl | rfl | rfl | rfl | rfl | rfl | rfl | rfl | rfl | rfl | rfl | rfl | rfl | rfl | rfl | rfl | rfl | rfl | rfl | rfl | rfl
  · exact rword_0 d n m a c i w h
  · exact rword_1 d n m a c i w h
  · exact rword_2 d n m a c i w h
  · exact rword_3 d n m a c i w h
  · exact rword_4 d n m a c i w h
  · exact rword_5 d n m a c i w h
  · exact rword_6 d n m a c i w h
  · exact rword_7 d n m a c i w h
  · exact rword_8 d n m a c i w h
  · exact rword_9 d n m a c i w h
  · exact rword_10 d n m a c i w h
  · exact rword_11 d n m a c i w h
  · exact rword_12 d n m a c i w h
  · exact rword_13 d n m a c i w h
  · exact rword_14 d n m a c i w h
  · exact rword_15 d n m a c i w h
  · exact rword_16 d n m a c i w h
  · exact rword_17 d n m a c i w h
  · exact rword_18 d n m a c i w h
  · exact rword_19 d n m a c i w h
  · exact rword_20 d n m a c i w h
  · exact rword_21 d n m a c i w h
  · exact rword_22 d n m a c i w h
  · exact rword_23 d n m a c i w h
  · exact rword_24 d n m a c i w h
  · exact rword_25 d n m a c i w h
  · exact rword_26 d n m a c i w h
  · exact rword_27 d n m a c i w h
  · exact rword_28 d n m a c i w h
  · exact rword_29 d n m a c i w h
  · exact rword_30 d n m a c i w h
  · exact rword_31 d n m a c i w h
  · exact rword_32 d n m a c i w h
  · exact rword_33 d n m a c i w h
  · exact rword_34 d n m a c i w h
  · exact rword_35 d n m a c i w h
  · exact rword_36 d n m a c i w h
  · exact rword_37 d n m a c i w h
  · exact rword_38 d n m a c i w h
  · exact rword_39 d n m a c i w h
  · exact rword_40 d n m a c i w h
  · exact rword_41 d n m a c i w h
  · exact rword_42 d n m a c i w h
theorem rcheck_b (op d n m a c i : Int) (j : Nat) (b : Bool) (hj : j < 43) (ho : op = (j : Int)) (h : okN j d n m a c i = b) : ∀ w, Calls Try.prog 83 #[.agg #[.int .i64 op, .int .i64 d, .int .i64 n, .int .i64 m, .int .i64 a, .int .i64 c, .int .i64 i]] w fun e w' => e = .returned (.int .i64 (er b)) ∧ Below w.heap.size w w' := by
  have : j = 0 ∨ j = 1 ∨ j = 2 ∨ j = 3 ∨ j = 4 ∨ j = 5 ∨ j = 6 ∨ j = 7 ∨ j = 8 ∨ j = 9 ∨ j = 10 ∨ j = 11 ∨ j = 12 ∨ j = 13 ∨ j = 14 ∨ j = 15 ∨ j = 16 ∨ j = 17 ∨ j = 18 ∨ j = 19 ∨ j = 20 ∨ j = 21 ∨ j = 22 ∨ j = 23 ∨ j = 24 ∨ j = 25 ∨ j = 26 ∨ j = 27 ∨ j = 28 ∨ j = 29 ∨ j = 30 ∨ j = 31 ∨ j = 32 ∨ j = 33 ∨ j = 34 ∨ j = 35 ∨ j = 36 ∨ j = 37 ∨ j = 38 ∨ j = 39 ∨ j = 40 ∨ j = 41 ∨ j = 42 := by omega
  subst ho
  rcases this with rfl | rfl | rfl | rfl | rfl | rfl | rfl | rfl | rfl | rfl | rfl | rfl | rfl | rfl | rfl | rfl | rfl | rfl | rfl | rfl | rfl | rfl | rfl | rfl | rfl | rfl | rfl | rfl | rfl | rfl | rfl | rfl | rfl | rfl | rfl | rfl | rfl | rfl | rfl | rfl | rfl | rfl | rfl
  · exact fun w => by have hc := rcheck_0 d n m a c i w; rw [show ok_0 d n m a c i = b from h] at hc; exact hc
  · exact fun w => by have hc := rcheck_1 d n m a c i w; rw [show ok_1 d n m a c i = b from h] at hc; exact hc
  · exact fun w => by have hc := rcheck_2 d n m a c i w; rw [show ok_2 d n m a c i = b from h] at hc; exact hc
  · exact fun w => by have hc := rcheck_3 d n m a c i w; rw [show ok_3 d n m a c i = b from h] at hc; exact hc
  · exact fun w => by have hc := rcheck_4 d n m a c i w; rw [show ok_4 d n m a c i = b from h] at hc; exact hc
  · exact fun w => by have hc := rcheck_5 d n m a c i w; rw [show ok_5 d n m a c i = b from h] at hc; exact hc
  · exact fun w => by have hc := rcheck_6 d n m a c i w; rw [show ok_6 d n m a c i = b from h] at hc; exact hc
  · exact fun w => by have hc := rcheck_7 d n m a c i w; rw [show ok_7 d n m a c i = b from h] at hc; exact hc
  · exact fun w => by have hc := rcheck_8 d n m a c i w; rw [show ok_8 d n m a c i = b from h] at hc; exact hc
  · exact fun w => by have hc := rcheck_9 d n m a c i w; rw [show ok_9 d n m a c i = b from h] at hc; exact hc
  · exact fun w => by have hc := rcheck_10 d n m a c i w; rw [show ok_10 d n m a c i = b from h] at hc; exact hc
  · exact fun w => by have hc := rcheck_11 d n m a c i w; rw [show ok_11 d n m a c i = b from h] at hc; exact hc
  · exact fun w => by have hc := rcheck_12 d n m a c i w; rw [show ok_12 d n m a c i = b from h] at hc; exact hc
  · exact fun w => by have hc := rcheck_13 d n m a c i w; rw [show ok_13 d n m a c i = b from h] at hc; exact hc
  · exact fun w => by have hc := rcheck_14 d n m a c i w; rw [show ok_14 d n m a c i = b from h] at hc; exact hc
  · exact fun w => by have hc := rcheck_15 d n m a c i w; rw [show ok_15 d n m a c i = b from h] at hc; exact hc
  · exact fun w => by have hc := rcheck_16 d n m a c i w; rw [show ok_16 d n m a c i = b from h] at hc; exact hc
  · exact fun w => by have hc := rcheck_17 d n m a c i w; rw [show ok_17 d n m a c i = b from h] at hc; exact hc
  · exact fun w => by have hc := rcheck_18 d n m a c i w; rw [show ok_18 d n m a c i = b from h] at hc; exact hc
  · exact fun w => by have hc := rcheck_19 d n m a c i w; rw [show ok_19 d n m a c i = b from h] at hc; exact hc
  · exact fun w => by have hc := rcheck_20 d n m a c i w; rw [show ok_20 d n m a c i = b from h] at hc; exact hc
  · exact fun w => by have hc := rcheck_21 d n m a c i w; rw [show ok_21 d n m a c i = b from h] at hc; exact hc
  · exact fun w => by have hc := rcheck_22 d n m a c i w; rw [show ok_22 d n m a c i = b from h] at hc; exact hc
  · exact fun w => by have hc := rcheck_23 d n m a c i w; rw [show ok_23 d n m a c i = b from h] at hc; exact hc
  · exact fun w => by have hc := rcheck_24 d n m a c i w; rw [show ok_24 d n m a c i = b from h] at hc; exact hc
  · exact fun w => by have hc := rcheck_25 d n m a c i w; rw [show ok_25 d n m a c i = b from h] at hc; exact hc
  · exact fun w => by have hc := rcheck_26 d n m a c i w; rw [show ok_26 d n m a c i = b from h] at hc; exact hc
  · exact fun w => by have hc := rcheck_27 d n m a c i w; rw [show ok_27 d n m a c i = b from h] at hc; exact hc
  · exact fun w => by have hc := rcheck_28 d n m a c i w; rw [show ok_28 d n m a c i = b from h] at hc; exact hc
  · exact fun w => by have hc := rcheck_29 d n m a c i w; rw [show ok_29 d n m a c i = b from h] at hc; exact hc
  · exact fun w => by have hc := rcheck_30 d n m a c i w; rw [show ok_30 d n m a c i = b from h] at hc; exact hc
  · exact fun w => by have hc := rcheck_31 d n m a c i w; rw [show ok_31 d n m a c i = b from h] at hc; exact hc
  · exact fun w => by have hc := rcheck_32 d n m a c i w; rw [show ok_32 d n m a c i = b from h] at hc; exact hc
  · exact fun w => by have hc := rcheck_33 d n m a c i w; rw [show ok_33 d n m a c i = b from h] at hc; exact hc
  · exact fun w => by have hc := rcheck_34 d n m a c i w; rw [show ok_34 d n m a c i = b from h] at hc; exact hc
  · exact fun w => by have hc := rcheck_35 d n m a c i w; rw [show ok_35 d n m a c i = b from h] at hc; exact hc
  · exact fun w => by have hc := rcheck_36 d n m a c i w; rw [show ok_36 d n m a c i = b from h] at hc; exact hc
  · exact fun w => by have hc := rcheck_37 d n m a c i w; rw [show ok_37 d n m a c i = b from h] at hc; exact hc
  · exact fun w => by have hc := rcheck_38 d n m a c i w; rw [show ok_38 d n m a c i = b from h] at hc; exact hc
  · exact fun w => by have hc := rcheck_39 d n m a c i w; rw [show ok_39 d n m a c i = b from h] at hc; exact hc
  · exact fun w => by have hc := rcheck_40 d n m a c i w; rw [show ok_40 d n m a c i = b from h] at hc; exact hc
  · exact fun w => by have hc := rcheck_41 d n m a c i w; rw [show ok_41 d n m a c i = b from h] at hc; exact hc
  · exact fun w => by have hc := rcheck_42 d n m a c i w; rw [show ok_42 d n m a c i = b from h] at hc; exact hc
theorem In.rcheck (x : In) (w : World) : Calls Try.prog 83 #[x.v] w fun e w' => e = .returned (.int .i64 x.e) ∧ Below w.heap.size w w' := by
  by_cases ho : 0 ≤ x.op ∧ x.op ≤ 42
  · have h' : okN x.op.toNat x.d x.n x.m x.a x.c x.i = x.ok := by
      unfold In.ok
      rw [decide_eq_true ho, Bool.true_and]
    have := rcheck_b x.op _ _ _ _ _ _ x.op.toNat x.ok (by omega) (by omega) h' w
    unfold In.e
    refine this.mono fun e w' hh => ⟨hh.1.trans ?_, hh.2⟩
    cases x.ok <;> rfl
  · have hx : x.ok = false := by
      unfold In.ok
      rw [decide_eq_false ho, Bool.false_and]
    unfold In.e
    rw [hx]
    exact rcheck_non x.op _ _ _ _ _ _ w (by omega)
theorem In.rword (x : In) (w : World) : Calls Try.prog 119 #[x.v] w fun r w' => r = .returned (.tuple #[.int .u32 x.w, .int .i64 x.e]) ∧ Below w.heap.size w w' := by
  rcases hx : x.ok
  · unfold In.w In.e
    rw [hx]
    exact rword_bad x.op _ _ _ _ _ _ w (fun w => by have := In.rcheck x w; unfold In.e at this; rw [hx] at this; exact this)
  · have h := hx
    simp only [In.ok, Bool.and_eq_true, decide_eq_true_eq] at h
    unfold In.w In.e
    rw [hx]
    exact rword_yy x.op _ _ _ _ _ _ x.op.toNat (by omega) (by omega) h.2 w
end Go.Proofs.Ytnbpgoacooddjaa.En
