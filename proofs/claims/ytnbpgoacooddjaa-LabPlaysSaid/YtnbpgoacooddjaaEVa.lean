import Derived.Test.YtnbpgoacooddjaaEEu
import Derived.Test.YtnbpgoacooddjaaEEw
import Derived.Test.YtnbpgoacooddjaaEWdA
import Derived.Test.YtnbpgoacooddjaaEWdB
import Derived.Test.YtnbpgoacooddjaaEWdC
import Derived.Test.YtnbpgoacooddjaaEWdD
import Derived.BigGuardPart
import Derived.Below
import Derived.Laws.Rows
import Derived.Laws.Tables
import Derived.Deep.RegionHeld3
import Derived.OwnWalk
import Derived.Deep.QuietTactic
import Derived.BigQuiet
import Derived.Deep.OwnRows
import Derived.Maps.AppendAt
namespace Go.Proofs.Ytnbpgoacooddjaa.Fr
end Go.Proofs.Ytnbpgoacooddjaa.Fr
namespace Go.Proofs.Ytnbpgoacooddjaa.En
open Go.Proofs.Ytnbpgoacooddjaa.Fr
open Go.ChangeShapes Go.WideShapes Go.ChangeAt Go.RowKit Go.Maps
set_option linter.unusedVariables false
theorem wordN_rg (j : Nat) (hj : j < 43) (d n m a c i : Int) : 0 ≤ wordN j d n m a c i ∧ wordN j d n m a c i < 4294967296 := by
  obtain ⟨l, hl, hw⟩ := wordN_lays j hj d n m a c i
  rw [hw]
  have := base_all
  rw [List.all_eq_true] at this
  have := this j (by simpa using hj)
  exact lays_range l _ (by simpa using this)
/-- An instruction as a value. -/
abbrev J7 (o d n m a c i : Int) : Value := .agg #[.int .i64 o, .int .i64 d, .int .i64 n, .int .i64 m, .int .i64 a, .int .i64 c, .int .i64 i]
/-- An instruction's numbers. -/
structure In where
  op : Int
  d : Int
  n : Int
  m : Int
  a : Int
  c : Int
  i : Int
def In.v (x : In) : Value := J7 x.op x.d x.n x.m x.a x.c x.i
def In.ok (x : In) : Bool := decide (0 ≤ x.op ∧ x.op ≤ 42) && okN x.op.toNat x.d x.n x.m x.a x.c x.i
/-- Its word, or 0. -/
def In.w (x : In) : Int := if x.ok then wordN x.op.toNat x.d x.n x.m x.a x.c x.i else 0
/-- Its error. -/
def In.e (x : In) : Int := if x.ok then 0 else 1
theorem In.e_or (x : In) : x.e = 0 ∨ x.e = 1 := by unfold In.e; split <;> simp
theorem In.w_range (x : In) : 0 ≤ x.w ∧ x.w < 4294967296 := by
  unfold In.w
  split
  · rename_i h
    simp only [In.ok, Bool.and_eq_true, decide_eq_true_eq] at h
    exact wordN_rg _ (by omega) _ _ _ _ _ _
  · decide
theorem word_y (op d n m a c i : Int) (j : Nat) (hj : j < 43) (ho : op = (j : Int)) (h : okN j d n m a c i = true) (b : Nat) (w : World) (hm : w.ownsMap Try.prog 3 (plainElem (H := Unit) Try.prog 54) b 42 DD) : Calls Try.prog 166 #[.agg #[.map (some b)], J7 op d n m a c i] w fun r w' => r = .returned (.tuple #[.int .u32 (wordN j d n m a c i), .int .i64 0]) ∧ Below w.heap.size w w' := by
  have : j = 0 ∨ j = 1 ∨ j = 2 ∨ j = 3 ∨ j = 4 ∨ j = 5 ∨ j = 6 ∨ j = 7 ∨ j = 8 ∨ j = 9 ∨ j = 10 ∨ j = 11 ∨ j = 12 ∨ j = 13 ∨ j = 14 ∨ j = 15 ∨ j = 16 ∨ j = 17 ∨ j = 18 ∨ j = 19 ∨ j = 20 ∨ j = 21 ∨ j = 22 ∨ j = 23 ∨ j = 24 ∨ j = 25 ∨ j = 26 ∨ j = 27 ∨ j = 28 ∨ j = 29 ∨ j = 30 ∨ j = 31 ∨ j = 32 ∨ j = 33 ∨ j = 34 ∨ j = 35 ∨ j = 36 ∨ j = 37 ∨ j = 38 ∨ j = 39 ∨ j = 40 ∨ j = 41 ∨ j = 42 := by omega
  subst ho
  rcases this with rfl | rfl | rfl | rfl | rfl | rfl | rfl | rfl | rfl | rfl | rfl | rfl | rfl | rfl | rfl | rfl | rfl | rfl | rfl | rfl | rfl | rfl | rfl | rfl | rfl | rfl | rfl | rfl | rfl | rfl | rfl | rfl | rfl | rfl | rfl | rfl | rfl | rfl | rfl | rfl | rfl | rfl | rfl
  · exact word_0 d n m a c i b w h hm
  · exact word_1 d n m a c i b w h hm
  · exact word_2 d n m a c i b w h hm
  · exact word_3 d n m a c i b w h hm
  · exact word_4 d n m a c i b w h hm
  · exact word_5 d n m a c i b w h hm
  · exact word_6 d n m a c i b w h hm
  · exact word_7 d n m a c i b w h hm
  · exact word_8 d n m a c i b w h hm
  · exact word_9 d n m a c i b w h hm
  · exact word_10 d n m a c i b w h hm
  · exact word_11 d n m a c i b w h hm
  · exact word_12 d n m a c i b w h hm
  · exact word_13 d n m a c i b w h hm
  · exact word_14 d n m a c i b w h hm
  · exact word_15 d n m a c i b w h hm
  · exact word_16 d n m a c i b w h hm
  · exact word_17 d n m a c i b w h hm
  · exact word_18 d n m a c i b w h hm
  · exact word_19 d n m a c i b w h hm
  · exact word_20 d n m a c i b w h hm
  · exact word_21 d n m a c i b w h hm
  · exact word_22 d n m a c i b w h hm
  · exact word_23 d n m a c i b w h hm
  · exact word_24 d n m a c i b w h hm
  · exact word_25 d n m a c i b w h hm
  · exact word_26 d n m a c i b w h hm
  · exact word_27 d n m a c i b w h hm
  · exact word_28 d n m a c i b w h hm
  · exact word_29 d n m a c i b w h hm
  · exact word_30 d n m a c i b w h hm
  · exact word_31 d n m a c i b w h hm
  · exact word_32 d n m a c i b w h hm
  · exact word_33 d n m a c i b w h hm
  · exact word_34 d n m a c i b w h hm
  · exact word_35 d n m a c i b w h hm
  · exact word_36 d n m a c i b w h hm
  · exact word_37 d n m a c i b w h hm
  · exact word_38 d n m a c i b w h hm
  · exact word_39 d n m a c i b w h hm
  · exact word_40 d n m a c i b w h hm
  · exact word_41 d n m a c i b w h hm
  · exact word_42 d n m a c i b w h hm
theorem check_f (op d n m a c i : Int) (j : Nat) (hj : j < 43) (ho : op = (j : Int)) (h : okN j d n m a c i = false) : ∀ w, Calls Try.prog 31 #[J7 op d n m a c i] w fun e w' => e = .returned (.int .i64 1) ∧ Below w.heap.size w w' := by
  have : j = 0 ∨ j = 1 ∨ j = 2 ∨ j = 3 ∨ j = 4 ∨ j = 5 ∨ j = 6 ∨ j = 7 ∨ j = 8 ∨ j = 9 ∨ j = 10 ∨ j = 11 ∨ j = 12 ∨ j = 13 ∨ j = 14 ∨ j = 15 ∨ j = 16 ∨ j = 17 ∨ j = 18 ∨ j = 19 ∨ j = 20 ∨ j = 21 ∨ j = 22 ∨ j = 23 ∨ j = 24 ∨ j = 25 ∨ j = 26 ∨ j = 27 ∨ j = 28 ∨ j = 29 ∨ j = 30 ∨ j = 31 ∨ j = 32 ∨ j = 33 ∨ j = 34 ∨ j = 35 ∨ j = 36 ∨ j = 37 ∨ j = 38 ∨ j = 39 ∨ j = 40 ∨ j = 41 ∨ j = 42 := by omega
  subst ho
  rcases this with rfl | rfl | rfl | rfl | rfl | rfl | rfl | rfl | rfl | rfl | rfl | rfl | rfl | rfl | rfl | rfl | rfl | rfl | rfl | rfl | rfl | rfl | rfl | rfl | rfl | rfl | rfl | rfl | rfl | rfl | rfl | rfl | rfl | rfl | rfl | rfl | rfl | rfl | rfl | rfl | rfl | rfl | rfl
  · exact fun w => by have hc := check_0 d n m a c i w; rw [show ok_0 d n m a c i = false from h] at hc; exact hc
  · exact fun w => by have hc := check_1 d n m a c i w; rw [show ok_1 d n m a c i = false from h] at hc; exact hc
  · exact fun w => by have hc := check_2 d n m a c i w; rw [show ok_2 d n m a c i = false from h] at hc; exact hc
  · exact fun w => by have hc := check_3 d n m a c i w; rw [show ok_3 d n m a c i = false from h] at hc; exact hc
  · exact fun w => by have hc := check_4 d n m a c i w; rw [show ok_4 d n m a c i = false from h] at hc; exact hc
  · exact fun w => by have hc := check_5 d n m a c i w; rw [show ok_5 d n m a c i = false from h] at hc; exact hc
  · exact fun w => by have hc := check_6 d n m a c i w; rw [show ok_6 d n m a c i = false from h] at hc; exact hc
  · exact fun w => by have hc := check_7 d n m a c i w; rw [show ok_7 d n m a c i = false from h] at hc; exact hc
  · exact fun w => by have hc := check_8 d n m a c i w; rw [show ok_8 d n m a c i = false from h] at hc; exact hc
  · exact fun w => by have hc := check_9 d n m a c i w; rw [show ok_9 d n m a c i = false from h] at hc; exact hc
  · exact fun w => by have hc := check_10 d n m a c i w; rw [show ok_10 d n m a c i = false from h] at hc; exact hc
  · exact fun w => by have hc := check_11 d n m a c i w; rw [show ok_11 d n m a c i = false from h] at hc; exact hc
  · exact fun w => by have hc := check_12 d n m a c i w; rw [show ok_12 d n m a c i = false from h] at hc; exact hc
  · exact fun w => by have hc := check_13 d n m a c i w; rw [show ok_13 d n m a c i = false from h] at hc; exact hc
  · exact fun w => by have hc := check_14 d n m a c i w; rw [show ok_14 d n m a c i = false from h] at hc; exact hc
  · exact fun w => by have hc := check_15 d n m a c i w; rw [show ok_15 d n m a c i = false from h] at hc; exact hc
  · exact fun w => by have hc := check_16 d n m a c i w; rw [show ok_16 d n m a c i = false from h] at hc; exact hc
  · exact fun w => by have hc := check_17 d n m a c i w; rw [show ok_17 d n m a c i = false from h] at hc; exact hc
  · exact fun w => by have hc := check_18 d n m a c i w; rw [show ok_18 d n m a c i = false from h] at hc; exact hc
  · exact fun w => by have hc := check_19 d n m a c i w; rw [show ok_19 d n m a c i = false from h] at hc; exact hc
  · exact fun w => by have hc := check_20 d n m a c i w; rw [show ok_20 d n m a c i = false from h] at hc; exact hc
  · exact fun w => by have hc := check_21 d n m a c i w; rw [show ok_21 d n m a c i = false from h] at hc; exact hc
  · exact fun w => by have hc := check_22 d n m a c i w; rw [show ok_22 d n m a c i = false from h] at hc; exact hc
  · exact fun w => by have hc := check_23 d n m a c i w; rw [show ok_23 d n m a c i = false from h] at hc; exact hc
  · exact fun w => by have hc := check_24 d n m a c i w; rw [show ok_24 d n m a c i = false from h] at hc; exact hc
  · exact fun w => by have hc := check_25 d n m a c i w; rw [show ok_25 d n m a c i = false from h] at hc; exact hc
  · exact fun w => by have hc := check_26 d n m a c i w; rw [show ok_26 d n m a c i = false from h] at hc; exact hc
  · exact fun w => by have hc := check_27 d n m a c i w; rw [show ok_27 d n m a c i = false from h] at hc; exact hc
  · exact fun w => by have hc := check_28 d n m a c i w; rw [show ok_28 d n m a c i = false from h] at hc; exact hc
  · exact fun w => by have hc := check_29 d n m a c i w; rw [show ok_29 d n m a c i = false from h] at hc; exact hc
  · exact fun w => by have hc := check_30 d n m a c i w; rw [show ok_30 d n m a c i = false from h] at hc; exact hc
  · exact fun w => by have hc := check_31 d n m a c i w; rw [show ok_31 d n m a c i = false from h] at hc; exact hc
  · exact fun w => by have hc := check_32 d n m a c i w; rw [show ok_32 d n m a c i = false from h] at hc; exact hc
  · exact fun w => by have hc := check_33 d n m a c i w; rw [show ok_33 d n m a c i = false from h] at hc; exact hc
  · exact fun w => by have hc := check_34 d n m a c i w; rw [show ok_34 d n m a c i = false from h] at hc; exact hc
  · exact fun w => by have hc := check_35 d n m a c i w; rw [show ok_35 d n m a c i = false from h] at hc; exact hc
  · exact fun w => by have hc := check_36 d n m a c i w; rw [show ok_36 d n m a c i = false from h] at hc; exact hc
  · exact fun w => by have hc := check_37 d n m a c i w; rw [show ok_37 d n m a c i = false from h] at hc; exact hc
  · exact fun w => by have hc := check_38 d n m a c i w; rw [show ok_38 d n m a c i = false from h] at hc; exact hc
  · exact fun w => by have hc := check_39 d n m a c i w; rw [show ok_39 d n m a c i = false from h] at hc; exact hc
  · exact fun w => by have hc := check_40 d n m a c i w; rw [show ok_40 d n m a c i = false from h] at hc; exact hc
  · exact fun w => by have hc := check_41 d n m a c i w; rw [show ok_41 d n m a c i = false from h] at hc; exact hc
  · exact fun w => by have hc := check_42 d n m a c i w; rw [show ok_42 d n m a c i = false from h] at hc; exact hc
theorem In.bad (x : In) (h : x.ok = false) : ∀ w, Calls Try.prog 31 #[x.v] w fun e w' => e = .returned (.int .i64 1) ∧ Below w.heap.size w w' := by
  by_cases ho : 0 ≤ x.op ∧ x.op ≤ 42
  · have h' : okN x.op.toNat x.d x.n x.m x.a x.c x.i = false := by
      unfold In.ok at h
      rw [decide_eq_true ho, Bool.true_and] at h
      exact h
    exact check_f x.op _ _ _ _ _ _ x.op.toNat (by omega) (by omega) h'
  · exact fun w => check_non x.op _ _ _ _ _ _ 0 w (fun w => isop_n x.op w (by omega))
theorem In.word (x : In) (b : Nat) (w : World) (hm : w.ownsMap Try.prog 3 (plainElem (H := Unit) Try.prog 54) b 42 DD) : Calls Try.prog 166 #[.agg #[.map (some b)], x.v] w fun r w' => r = .returned (.tuple #[.int .u32 x.w, .int .i64 x.e]) ∧ Below w.heap.size w w' := by
  rcases hx : x.ok
  · unfold In.w In.e
    rw [hx]
    exact word_bad x.op _ _ _ _ _ _ b w (x.bad hx)
  · have h := hx
    simp only [In.ok, Bool.and_eq_true, decide_eq_true_eq] at h
    unfold In.w In.e
    rw [hx]
    exact word_y x.op _ _ _ _ _ _ x.op.toNat (by omega) (by omega) h.2 b w hm
theorem check_y (op d n m a c i : Int) (j : Nat) (hj : j < 43) (ho : op = (j : Int)) (h : okN j d n m a c i = true) (w : World) : Calls Try.prog 31 #[J7 op d n m a c i] w fun e w' => e = .returned (.int .i64 0) ∧ Below w.heap.size w w' := by
  have : j = 0 ∨ j = 1 ∨ j = 2 ∨ j = 3 ∨ j = 4 ∨ j = 5 ∨ j = 6 ∨ j = 7 ∨ j = 8 ∨ j = 9 ∨ j = 10 ∨ j = 11 ∨ j = 12 ∨ j = 13 ∨ j = 14 ∨ j = 15 ∨ j = 16 ∨ j = 17 ∨ j = 18 ∨ j = 19 ∨ j = 20 ∨ j = 21 ∨ j = 22 ∨ j = 23 ∨ j = 24 ∨ j = 25 ∨ j = 26 ∨ j = 27 ∨ j = 28 ∨ j = 29 ∨ j = 30 ∨ j = 31 ∨ j = 32 ∨ j = 33 ∨ j = 34 ∨ j = 35 ∨ j = 36 ∨ j = 37 ∨ j = 38 ∨ j = 39 ∨ j = 40 ∨ j = 41 ∨ j = 42 := by omega
  subst ho
  rcases this with rfl | rfl | rfl | rfl | rfl | rfl | rfl | rfl | rfl | rfl | rfl | rfl | rfl | rfl | rfl | rfl | rfl | rfl | rfl | rfl | rfl | rfl | rfl | rfl | rfl | rfl | rfl | rfl | rfl | rfl | rfl | rfl | rfl | rfl | rfl | rfl | rfl | rfl | rfl | rfl | rfl | rfl | rfl
  · have hc := check_0 d n m a c i w; rw [show ok_0 d n m a c i = true from h] at hc; exact hc
  · have hc := check_1 d n m a c i w; rw [show ok_1 d n m a c i = true from h] at hc; exact hc
  · have hc := check_2 d n m a c i w; rw [show ok_2 d n m a c i = true from h] at hc; exact hc
  · have hc := check_3 d n m a c i w; rw [show ok_3 d n m a c i = true from h] at hc; exact hc
  · have hc := check_4 d n m a c i w; rw [show ok_4 d n m a c i = true from h] at hc; exact hc
  · have hc := check_5 d n m a c i w; rw [show ok_5 d n m a c i = true from h] at hc; exact hc
  · have hc := check_6 d n m a c i w; rw [show ok_6 d n m a c i = true from h] at hc; exact hc
  · have hc := check_7 d n m a c i w; rw [show ok_7 d n m a c i = true from h] at hc; exact hc
  · have hc := check_8 d n m a c i w; rw [show ok_8 d n m a c i = true from h] at hc; exact hc
  · have hc := check_9 d n m a c i w; rw [show ok_9 d n m a c i = true from h] at hc; exact hc
  · have hc := check_10 d n m a c i w; rw [show ok_10 d n m a c i = true from h] at hc; exact hc
  · have hc := check_11 d n m a c i w; rw [show ok_11 d n m a c i = true from h] at hc; exact hc
  · have hc := check_12 d n m a c i w; rw [show ok_12 d n m a c i = true from h] at hc; exact hc
  · have hc := check_13 d n m a c i w; rw [show ok_13 d n m a c i = true from h] at hc; exact hc
  · have hc := check_14 d n m a c i w; rw [show ok_14 d n m a c i = true from h] at hc; exact hc
  · have hc := check_15 d n m a c i w; rw [show ok_15 d n m a c i = true from h] at hc; exact hc
  · have hc := check_16 d n m a c i w; rw [show ok_16 d n m a c i = true from h] at hc; exact hc
  · have hc := check_17 d n m a c i w; rw [show ok_17 d n m a c i = true from h] at hc; exact hc
  · have hc := check_18 d n m a c i w; rw [show ok_18 d n m a c i = true from h] at hc; exact hc
  · have hc := check_19 d n m a c i w; rw [show ok_19 d n m a c i = true from h] at hc; exact hc
  · have hc := check_20 d n m a c i w; rw [show ok_20 d n m a c i = true from h] at hc; exact hc
  · have hc := check_21 d n m a c i w; rw [show ok_21 d n m a c i = true from h] at hc; exact hc
  · have hc := check_22 d n m a c i w; rw [show ok_22 d n m a c i = true from h] at hc; exact hc
  · have hc := check_23 d n m a c i w; rw [show ok_23 d n m a c i = true from h] at hc; exact hc
  · have hc := check_24 d n m a c i w; rw [show ok_24 d n m a c i = true from h] at hc; exact hc
  · have hc := check_25 d n m a c i w; rw [show ok_25 d n m a c i = true from h] at hc; exact hc
  · have hc := check_26 d n m a c i w; rw [show ok_26 d n m a c i = true from h] at hc; exact hc
  · have hc := check_27 d n m a c i w; rw [show ok_27 d n m a c i = true from h] at hc; exact hc
  · have hc := check_28 d n m a c i w; rw [show ok_28 d n m a c i = true from h] at hc; exact hc
  · have hc := check_29 d n m a c i w; rw [show ok_29 d n m a c i = true from h] at hc; exact hc
  · have hc := check_30 d n m a c i w; rw [show ok_30 d n m a c i = true from h] at hc; exact hc
  · have hc := check_31 d n m a c i w; rw [show ok_31 d n m a c i = true from h] at hc; exact hc
  · have hc := check_32 d n m a c i w; rw [show ok_32 d n m a c i = true from h] at hc; exact hc
  · have hc := check_33 d n m a c i w; rw [show ok_33 d n m a c i = true from h] at hc; exact hc
  · have hc := check_34 d n m a c i w; rw [show ok_34 d n m a c i = true from h] at hc; exact hc
  · have hc := check_35 d n m a c i w; rw [show ok_35 d n m a c i = true from h] at hc; exact hc
  · have hc := check_36 d n m a c i w; rw [show ok_36 d n m a c i = true from h] at hc; exact hc
  · have hc := check_37 d n m a c i w; rw [show ok_37 d n m a c i = true from h] at hc; exact hc
  · have hc := check_38 d n m a c i w; rw [show ok_38 d n m a c i = true from h] at hc; exact hc
  · have hc := check_39 d n m a c i w; rw [show ok_39 d n m a c i = true from h] at hc; exact hc
  · have hc := check_40 d n m a c i w; rw [show ok_40 d n m a c i = true from h] at hc; exact hc
  · have hc := check_41 d n m a c i w; rw [show ok_41 d n m a c i = true from h] at hc; exact hc
  · have hc := check_42 d n m a c i w; rw [show ok_42 d n m a c i = true from h] at hc; exact hc
theorem In.check (x : In) (w : World) : Calls Try.prog 31 #[x.v] w fun e w' => e = .returned (.int .i64 x.e) ∧ Below w.heap.size w w' := by
  rcases hx : x.ok
  · unfold In.e
    rw [hx]
    exact x.bad hx w
  · have h := hx
    simp only [In.ok, Bool.and_eq_true, decide_eq_true_eq] at h
    unfold In.e
    rw [hx]
    exact check_y x.op _ _ _ _ _ _ x.op.toNat (by omega) (by omega) h.2 w
end Go.Proofs.Ytnbpgoacooddjaa.En
