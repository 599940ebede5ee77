import Derived.Test.YthgpolddbadfmaaEx
import Derived.Test.YthgpolddbadfmaaWdB
import Derived.Test.YthgpolddbadfmaaWdC
import Derived.Test.YthgpolddbadfmaaRwA
import Derived.Test.YthgpolddbadfmaaRwB
import Derived.Test.YthgpolddbadfmaaRwC
import Derived.Test.YthgpolddbadfmaaRwD
namespace Go.Proofs.Ythgpolddbadfmaa
open Go.ChangeShapes Go.WideShapes Go.ChangeAt Go.RowKit Go.Maps
set_option linter.unusedVariables false
theorem rbase_any (op : Int) (w : World) : Calls Try.prog 13 #[.int .i64 op] w fun e w' => e = .returned (.int .u32 (baseT op)) ∧ Below w.heap.size w w' := by
  by_cases h : 0 ≤ op ∧ op ≤ 42
  · have : op = 0 ∨ op = 1 ∨ op = 2 ∨ op = 3 ∨ op = 4 ∨ op = 5 ∨ op = 6 ∨ op = 7 ∨ op = 8 ∨ op = 9 ∨ op = 10 ∨ op = 11 ∨ op = 12 ∨ op = 13 ∨ op = 14 ∨ op = 15 ∨ op = 16 ∨ op = 17 ∨ op = 18 ∨ op = 19 ∨ op = 20 ∨ op = 21 ∨ op = 22 ∨ op = 23 ∨ op = 24 ∨ op = 25 ∨ op = 26 ∨ op = 27 ∨ op = 28 ∨ op = 29 ∨ op = 30 ∨ op = 31 ∨ op = 32 ∨ op = 33 ∨ op = 34 ∨ op = 35 ∨ op = 36 ∨ op = 37 ∨ op = 38 ∨ op = 39 ∨ op = 40 ∨ op = 41 ∨ op = 42 := by omega
    rcases this with rfl | rfl | rfl | rfl | rfl | rfl | rfl | rfl | rfl | rfl | rfl | rfl | rfl | rfl | rfl | rfl | rfl | rfl | rfl | rfl | rfl | rfl | rfl | rfl | rfl | rfl | rfl | rfl | rfl | rfl | rfl | rfl | rfl | rfl | rfl | rfl | rfl | rfl | rfl | rfl | rfl | rfl | rfl
    · exact rbase_0 w
    · exact rbase_1 w
    · exact rbase_2 w
    · exact rbase_3 w
    · exact rbase_4 w
    · exact rbase_5 w
    · exact rbase_6 w
    · exact rbase_7 w
    · exact rbase_8 w
    · exact rbase_9 w
    · exact rbase_10 w
    · exact rbase_11 w
    · exact rbase_12 w
    · exact rbase_13 w
    · exact rbase_14 w
    · exact rbase_15 w
    · exact rbase_16 w
    · exact rbase_17 w
    · exact rbase_18 w
    · exact rbase_19 w
    · exact rbase_20 w
    · exact rbase_21 w
    · exact rbase_22 w
    · exact rbase_23 w
    · exact rbase_24 w
    · exact rbase_25 w
    · exact rbase_26 w
    · exact rbase_27 w
    · exact rbase_28 w
    · exact rbase_29 w
    · exact rbase_30 w
    · exact rbase_31 w
    · exact rbase_32 w
    · exact rbase_33 w
    · exact rbase_34 w
    · exact rbase_35 w
    · exact rbase_36 w
    · exact rbase_37 w
    · exact rbase_38 w
    · exact rbase_39 w
    · exact rbase_40 w
    · exact rbase_41 w
    · exact rbase_42 w
  · exact rbase_n op w (by omega)
theorem encwords_0 (d n m a c i op2 : Int) (hw : (Lit.int .i64 op2).wf = true) (w : World) : Calls Try.prog 3 #[.agg #[.int .i64 0, .int .i64 d, .int .i64 n, .int .i64 m, .int .i64 a, .int .i64 c, .int .i64 i], .int .i64 op2] w fun r w' => r = .returned (.bool true) ∧ Below w.heap.size w w' := by
  rcases h : ok_0 d n m a c i
  · exact encwords_gen 0 d n m a c i 0 1 op2 (baseT op2) w (fun w => encw_gen 0 d n m a c i 0 1 w (fun b w _ => word_bad 0 d n m a c i b w (fun w => by have := check_0 d n m a c i w; rw [h] at this; exact this))) (fun w => rword_bad 0 d n m a c i w (fun w => by have := rcheck_0 d n m a c i w; rw [h] at this; exact this)) (base_c op2 hw) (rbase_any op2)
  · exact encwords_gen 0 d n m a c i (putS 0 0 16 i) 0 op2 (baseT op2) w (fun w => encw_gen 0 d n m a c i _ 0 w (fun b w hm => word_0 d n m a c i b w h hm)) (fun w => rword_0 d n m a c i w h) (base_c op2 hw) (rbase_any op2)
theorem encwords_1 (d n m a c i op2 : Int) (hw : (Lit.int .i64 op2).wf = true) (w : World) : Calls Try.prog 3 #[.agg #[.int .i64 1, .int .i64 d, .int .i64 n, .int .i64 m, .int .i64 a, .int .i64 c, .int .i64 i], .int .i64 op2] w fun r w' => r = .returned (.bool true) ∧ Below w.heap.size w w' := by
  rcases h : ok_1 d n m a c i
  · exact encwords_gen 1 d n m a c i 0 1 op2 (baseT op2) w (fun w => encw_gen 1 d n m a c i 0 1 w (fun b w _ => word_bad 1 d n m a c i b w (fun w => by have := check_1 d n m a c i w; rw [h] at this; exact this))) (fun w => rword_bad 1 d n m a c i w (fun w => by have := rcheck_1 d n m a c i w; rw [h] at this; exact this)) (base_c op2 hw) (rbase_any op2)
  · exact encwords_gen 1 d n m a c i 3573751839 0 op2 (baseT op2) w (fun w => encw_gen 1 d n m a c i _ 0 w (fun b w hm => word_1 d n m a c i b w h hm)) (fun w => rword_1 d n m a c i w h) (base_c op2 hw) (rbase_any op2)
theorem encwords_2 (d n m a c i op2 : Int) (hw : (Lit.int .i64 op2).wf = true) (w : World) : Calls Try.prog 3 #[.agg #[.int .i64 2, .int .i64 d, .int .i64 n, .int .i64 m, .int .i64 a, .int .i64 c, .int .i64 i], .int .i64 op2] w fun r w' => r = .returned (.bool true) ∧ Below w.heap.size w w' := by
  rcases h : ok_2 d n m a c i
  · exact encwords_gen 2 d n m a c i 0 1 op2 (baseT op2) w (fun w => encw_gen 2 d n m a c i 0 1 w (fun b w _ => word_bad 2 d n m a c i b w (fun w => by have := check_2 d n m a c i w; rw [h] at this; exact this))) (fun w => rword_bad 2 d n m a c i w (fun w => by have := rcheck_2 d n m a c i w; rw [h] at this; exact this)) (base_c op2 hw) (rbase_any op2)
  · exact encwords_gen 2 d n m a c i (putS (putS (putS 3531603968 21 2 m) 5 16 i) 0 5 d) 0 op2 (baseT op2) w (fun w => encw_gen 2 d n m a c i _ 0 w (fun b w hm => word_2 d n m a c i b w h hm)) (fun w => rword_2 d n m a c i w h) (base_c op2 hw) (rbase_any op2)
theorem encwords_3 (d n m a c i op2 : Int) (hw : (Lit.int .i64 op2).wf = true) (w : World) : Calls Try.prog 3 #[.agg #[.int .i64 3, .int .i64 d, .int .i64 n, .int .i64 m, .int .i64 a, .int .i64 c, .int .i64 i], .int .i64 op2] w fun r w' => r = .returned (.bool true) ∧ Below w.heap.size w w' := by
  rcases h : ok_3 d n m a c i
  · exact encwords_gen 3 d n m a c i 0 1 op2 (baseT op2) w (fun w => encw_gen 3 d n m a c i 0 1 w (fun b w _ => word_bad 3 d n m a c i b w (fun w => by have := check_3 d n m a c i w; rw [h] at this; exact this))) (fun w => rword_bad 3 d n m a c i w (fun w => by have := rcheck_3 d n m a c i w; rw [h] at this; exact this)) (base_c op2 hw) (rbase_any op2)
  · exact encwords_gen 3 d n m a c i (putS (putS (putS 4068474880 21 2 m) 5 16 i) 0 5 d) 0 op2 (baseT op2) w (fun w => encw_gen 3 d n m a c i _ 0 w (fun b w hm => word_3 d n m a c i b w h hm)) (fun w => rword_3 d n m a c i w h) (base_c op2 hw) (rbase_any op2)
theorem encwords_4 (d n m a c i op2 : Int) (hw : (Lit.int .i64 op2).wf = true) (w : World) : Calls Try.prog 3 #[.agg #[.int .i64 4, .int .i64 d, .int .i64 n, .int .i64 m, .int .i64 a, .int .i64 c, .int .i64 i], .int .i64 op2] w fun r w' => r = .returned (.bool true) ∧ Below w.heap.size w w' := by
  rcases h : ok_4 d n m a c i
  · exact encwords_gen 4 d n m a c i 0 1 op2 (baseT op2) w (fun w => encw_gen 4 d n m a c i 0 1 w (fun b w _ => word_bad 4 d n m a c i b w (fun w => by have := check_4 d n m a c i w; rw [h] at this; exact this))) (fun w => rword_bad 4 d n m a c i w (fun w => by have := rcheck_4 d n m a c i w; rw [h] at this; exact this)) (base_c op2 hw) (rbase_any op2)
  · exact encwords_gen 4 d n m a c i (putS (putS (putS 2432696320 10 12 i) 5 5 n) 0 5 d) 0 op2 (baseT op2) w (fun w => encw_gen 4 d n m a c i _ 0 w (fun b w hm => word_4 d n m a c i b w h hm)) (fun w => rword_4 d n m a c i w h) (base_c op2 hw) (rbase_any op2)
theorem encwords_5 (d n m a c i op2 : Int) (hw : (Lit.int .i64 op2).wf = true) (w : World) : Calls Try.prog 3 #[.agg #[.int .i64 5, .int .i64 d, .int .i64 n, .int .i64 m, .int .i64 a, .int .i64 c, .int .i64 i], .int .i64 op2] w fun r w' => r = .returned (.bool true) ∧ Below w.heap.size w w' := by
  rcases h : ok_5 d n m a c i
  · exact encwords_gen 5 d n m a c i 0 1 op2 (baseT op2) w (fun w => encw_gen 5 d n m a c i 0 1 w (fun b w _ => word_bad 5 d n m a c i b w (fun w => by have := check_5 d n m a c i w; rw [h] at this; exact this))) (fun w => rword_bad 5 d n m a c i w (fun w => by have := rcheck_5 d n m a c i w; rw [h] at this; exact this)) (base_c op2 hw) (rbase_any op2)
  · exact encwords_gen 5 d n m a c i (putS (putS (putS 3506438144 10 12 i) 5 5 n) 0 5 d) 0 op2 (baseT op2) w (fun w => encw_gen 5 d n m a c i _ 0 w (fun b w hm => word_5 d n m a c i b w h hm)) (fun w => rword_5 d n m a c i w h) (base_c op2 hw) (rbase_any op2)
theorem encwords_6 (d n m a c i op2 : Int) (hw : (Lit.int .i64 op2).wf = true) (w : World) : Calls Try.prog 3 #[.agg #[.int .i64 6, .int .i64 d, .int .i64 n, .int .i64 m, .int .i64 a, .int .i64 c, .int .i64 i], .int .i64 op2] w fun r w' => r = .returned (.bool true) ∧ Below w.heap.size w w' := by
  rcases h : ok_6 d n m a c i
  · exact encwords_gen 6 d n m a c i 0 1 op2 (baseT op2) w (fun w => encw_gen 6 d n m a c i 0 1 w (fun b w _ => word_bad 6 d n m a c i b w (fun w => by have := check_6 d n m a c i w; rw [h] at this; exact this))) (fun w => rword_bad 6 d n m a c i w (fun w => by have := rcheck_6 d n m a c i w; rw [h] at this; exact this)) (base_c op2 hw) (rbase_any op2)
  · exact encwords_gen 6 d n m a c i (putS (putS (putS 4043309056 10 12 i) 5 5 n) 0 5 d) 0 op2 (baseT op2) w (fun w => encw_gen 6 d n m a c i _ 0 w (fun b w hm => word_6 d n m a c i b w h hm)) (fun w => rword_6 d n m a c i w h) (base_c op2 hw) (rbase_any op2)
theorem encwords_7 (d n m a c i op2 : Int) (hw : (Lit.int .i64 op2).wf = true) (w : World) : Calls Try.prog 3 #[.agg #[.int .i64 7, .int .i64 d, .int .i64 n, .int .i64 m, .int .i64 a, .int .i64 c, .int .i64 i], .int .i64 op2] w fun r w' => r = .returned (.bool true) ∧ Below w.heap.size w w' := by
  rcases h : ok_7 d n m a c i
  · exact encwords_gen 7 d n m a c i 0 1 op2 (baseT op2) w (fun w => encw_gen 7 d n m a c i 0 1 w (fun b w _ => word_bad 7 d n m a c i b w (fun w => by have := check_7 d n m a c i w; rw [h] at this; exact this))) (fun w => rword_bad 7 d n m a c i w (fun w => by have := rcheck_7 d n m a c i w; rw [h] at this; exact this)) (base_c op2 hw) (rbase_any op2)
  · exact encwords_gen 7 d n m a c i (putS (putS (putS 2332033024 16 5 m) 5 5 n) 0 5 d) 0 op2 (baseT op2) w (fun w => encw_gen 7 d n m a c i _ 0 w (fun b w hm => word_7 d n m a c i b w h hm)) (fun w => rword_7 d n m a c i w h) (base_c op2 hw) (rbase_any op2)
theorem encwords_8 (d n m a c i op2 : Int) (hw : (Lit.int .i64 op2).wf = true) (w : World) : Calls Try.prog 3 #[.agg #[.int .i64 8, .int .i64 d, .int .i64 n, .int .i64 m, .int .i64 a, .int .i64 c, .int .i64 i], .int .i64 op2] w fun r w' => r = .returned (.bool true) ∧ Below w.heap.size w w' := by
  rcases h : ok_8 d n m a c i
  · exact encwords_gen 8 d n m a c i 0 1 op2 (baseT op2) w (fun w => encw_gen 8 d n m a c i 0 1 w (fun b w _ => word_bad 8 d n m a c i b w (fun w => by have := check_8 d n m a c i w; rw [h] at this; exact this))) (fun w => rword_bad 8 d n m a c i w (fun w => by have := rcheck_8 d n m a c i w; rw [h] at this; exact this)) (base_c op2 hw) (rbase_any op2)
  · exact encwords_gen 8 d n m a c i (putS (putS (putS 3405774848 16 5 m) 5 5 n) 0 5 d) 0 op2 (baseT op2) w (fun w => encw_gen 8 d n m a c i _ 0 w (fun b w hm => word_8 d n m a c i b w h hm)) (fun w => rword_8 d n m a c i w h) (base_c op2 hw) (rbase_any op2)
theorem encwords_9 (d n m a c i op2 : Int) (hw : (Lit.int .i64 op2).wf = true) (w : World) : Calls Try.prog 3 #[.agg #[.int .i64 9, .int .i64 d, .int .i64 n, .int .i64 m, .int .i64 a, .int .i64 c, .int .i64 i], .int .i64 op2] w fun r w' => r = .returned (.bool true) ∧ Below w.heap.size w w' := by
  rcases h : ok_9 d n m a c i
  · exact encwords_gen 9 d n m a c i 0 1 op2 (baseT op2) w (fun w => encw_gen 9 d n m a c i 0 1 w (fun b w _ => word_bad 9 d n m a c i b w (fun w => by have := check_9 d n m a c i w; rw [h] at this; exact this))) (fun w => rword_bad 9 d n m a c i w (fun w => by have := rcheck_9 d n m a c i w; rw [h] at this; exact this)) (base_c op2 hw) (rbase_any op2)
  · exact encwords_gen 9 d n m a c i (putS (putS (putS 3942645760 16 5 m) 5 5 n) 0 5 d) 0 op2 (baseT op2) w (fun w => encw_gen 9 d n m a c i _ 0 w (fun b w hm => word_9 d n m a c i b w h hm)) (fun w => rword_9 d n m a c i w h) (base_c op2 hw) (rbase_any op2)
theorem encwords_10 (d n m a c i op2 : Int) (hw : (Lit.int .i64 op2).wf = true) (w : World) : Calls Try.prog 3 #[.agg #[.int .i64 10, .int .i64 d, .int .i64 n, .int .i64 m, .int .i64 a, .int .i64 c, .int .i64 i], .int .i64 op2] w fun r w' => r = .returned (.bool true) ∧ Below w.heap.size w w' := by
  rcases h : ok_10 d n m a c i
  · exact encwords_gen 10 d n m a c i 0 1 op2 (baseT op2) w (fun w => encw_gen 10 d n m a c i 0 1 w (fun b w _ => word_bad 10 d n m a c i b w (fun w => by have := check_10 d n m a c i w; rw [h] at this; exact this))) (fun w => rword_bad 10 d n m a c i w (fun w => by have := rcheck_10 d n m a c i w; rw [h] at this; exact this)) (base_c op2 hw) (rbase_any op2)
  · exact encwords_gen 10 d n m a c i (putS (putS (putS 2315255808 16 5 m) 5 5 n) 0 5 d) 0 op2 (baseT op2) w (fun w => encw_gen 10 d n m a c i _ 0 w (fun b w hm => word_10 d n m a c i b w h hm)) (fun w => rword_10 d n m a c i w h) (base_c op2 hw) (rbase_any op2)
theorem encwords_11 (d n m a c i op2 : Int) (hw : (Lit.int .i64 op2).wf = true) (w : World) : Calls Try.prog 3 #[.agg #[.int .i64 11, .int .i64 d, .int .i64 n, .int .i64 m, .int .i64 a, .int .i64 c, .int .i64 i], .int .i64 op2] w fun r w' => r = .returned (.bool true) ∧ Below w.heap.size w w' := by
  rcases h : ok_11 d n m a c i
  · exact encwords_gen 11 d n m a c i 0 1 op2 (baseT op2) w (fun w => encw_gen 11 d n m a c i 0 1 w (fun b w _ => word_bad 11 d n m a c i b w (fun w => by have := check_11 d n m a c i w; rw [h] at this; exact this))) (fun w => rword_bad 11 d n m a c i w (fun w => by have := rcheck_11 d n m a c i w; rw [h] at this; exact this)) (base_c op2 hw) (rbase_any op2)
  · exact encwords_gen 11 d n m a c i (putS (putS (putS 2852126720 16 5 m) 5 5 n) 0 5 d) 0 op2 (baseT op2) w (fun w => encw_gen 11 d n m a c i _ 0 w (fun b w hm => word_11 d n m a c i b w h hm)) (fun w => rword_11 d n m a c i w h) (base_c op2 hw) (rbase_any op2)
theorem encwords_12 (d n m a c i op2 : Int) (hw : (Lit.int .i64 op2).wf = true) (w : World) : Calls Try.prog 3 #[.agg #[.int .i64 12, .int .i64 d, .int .i64 n, .int .i64 m, .int .i64 a, .int .i64 c, .int .i64 i], .int .i64 op2] w fun r w' => r = .returned (.bool true) ∧ Below w.heap.size w w' := by
  rcases h : ok_12 d n m a c i
  · exact encwords_gen 12 d n m a c i 0 1 op2 (baseT op2) w (fun w => encw_gen 12 d n m a c i 0 1 w (fun b w _ => word_bad 12 d n m a c i b w (fun w => by have := check_12 d n m a c i w; rw [h] at this; exact this))) (fun w => rword_bad 12 d n m a c i w (fun w => by have := rcheck_12 d n m a c i w; rw [h] at this; exact this)) (base_c op2 hw) (rbase_any op2)
  · exact encwords_gen 12 d n m a c i (putS (putS (putS 3388997632 16 5 m) 5 5 n) 0 5 d) 0 op2 (baseT op2) w (fun w => encw_gen 12 d n m a c i _ 0 w (fun b w hm => word_12 d n m a c i b w h hm)) (fun w => rword_12 d n m a c i w h) (base_c op2 hw) (rbase_any op2)
theorem encwords_13 (d n m a c i op2 : Int) (hw : (Lit.int .i64 op2).wf = true) (w : World) : Calls Try.prog 3 #[.agg #[.int .i64 13, .int .i64 d, .int .i64 n, .int .i64 m, .int .i64 a, .int .i64 c, .int .i64 i], .int .i64 op2] w fun r w' => r = .returned (.bool true) ∧ Below w.heap.size w w' := by
  rcases h : ok_13 d n m a c i
  · exact encwords_gen 13 d n m a c i 0 1 op2 (baseT op2) w (fun w => encw_gen 13 d n m a c i 0 1 w (fun b w _ => word_bad 13 d n m a c i b w (fun w => by have := check_13 d n m a c i w; rw [h] at this; exact this))) (fun w => rword_bad 13 d n m a c i w (fun w => by have := rcheck_13 d n m a c i w; rw [h] at this; exact this)) (base_c op2 hw) (rbase_any op2)
  · exact encwords_gen 13 d n m a c i (putS (putS (putS (putS 2600468480 16 5 m) 10 5 a) 5 5 n) 0 5 d) 0 op2 (baseT op2) w (fun w => encw_gen 13 d n m a c i _ 0 w (fun b w hm => word_13 d n m a c i b w h hm)) (fun w => rword_13 d n m a c i w h) (base_c op2 hw) (rbase_any op2)
theorem encwords_14 (d n m a c i op2 : Int) (hw : (Lit.int .i64 op2).wf = true) (w : World) : Calls Try.prog 3 #[.agg #[.int .i64 14, .int .i64 d, .int .i64 n, .int .i64 m, .int .i64 a, .int .i64 c, .int .i64 i], .int .i64 op2] w fun r w' => r = .returned (.bool true) ∧ Below w.heap.size w w' := by
  rcases h : ok_14 d n m a c i
  · exact encwords_gen 14 d n m a c i 0 1 op2 (baseT op2) w (fun w => encw_gen 14 d n m a c i 0 1 w (fun b w _ => word_bad 14 d n m a c i b w (fun w => by have := check_14 d n m a c i w; rw [h] at this; exact this))) (fun w => rword_bad 14 d n m a c i w (fun w => by have := rcheck_14 d n m a c i w; rw [h] at this; exact this)) (base_c op2 hw) (rbase_any op2)
  · exact encwords_gen 14 d n m a c i (putS (putS (putS (putS 2600501248 16 5 m) 10 5 a) 5 5 n) 0 5 d) 0 op2 (baseT op2) w (fun w => encw_gen 14 d n m a c i _ 0 w (fun b w hm => word_14 d n m a c i b w h hm)) (fun w => rword_14 d n m a c i w h) (base_c op2 hw) (rbase_any op2)
theorem encwords_15 (d n m a c i op2 : Int) (hw : (Lit.int .i64 op2).wf = true) (w : World) : Calls Try.prog 3 #[.agg #[.int .i64 15, .int .i64 d, .int .i64 n, .int .i64 m, .int .i64 a, .int .i64 c, .int .i64 i], .int .i64 op2] w fun r w' => r = .returned (.bool true) ∧ Below w.heap.size w w' := by
  rcases h : ok_15 d n m a c i
  · exact encwords_gen 15 d n m a c i 0 1 op2 (baseT op2) w (fun w => encw_gen 15 d n m a c i 0 1 w (fun b w _ => word_bad 15 d n m a c i b w (fun w => by have := check_15 d n m a c i w; rw [h] at this; exact this))) (fun w => rword_bad 15 d n m a c i w (fun w => by have := rcheck_15 d n m a c i w; rw [h] at this; exact this)) (base_c op2 hw) (rbase_any op2)
  · exact encwords_gen 15 d n m a c i (putS (putS (putS 2596277248 16 5 m) 5 5 n) 0 5 d) 0 op2 (baseT op2) w (fun w => encw_gen 15 d n m a c i _ 0 w (fun b w hm => word_15 d n m a c i b w h hm)) (fun w => rword_15 d n m a c i w h) (base_c op2 hw) (rbase_any op2)
theorem encwords_16 (d n m a c i op2 : Int) (hw : (Lit.int .i64 op2).wf = true) (w : World) : Calls Try.prog 3 #[.agg #[.int .i64 16, .int .i64 d, .int .i64 n, .int .i64 m, .int .i64 a, .int .i64 c, .int .i64 i], .int .i64 op2] w fun r w' => r = .returned (.bool true) ∧ Below w.heap.size w w' := by
  rcases h : ok_16 d n m a c i
  · exact encwords_gen 16 d n m a c i 0 1 op2 (baseT op2) w (fun w => encw_gen 16 d n m a c i 0 1 w (fun b w _ => word_bad 16 d n m a c i b w (fun w => by have := check_16 d n m a c i w; rw [h] at this; exact this))) (fun w => rword_bad 16 d n m a c i w (fun w => by have := rcheck_16 d n m a c i w; rw [h] at this; exact this)) (base_c op2 hw) (rbase_any op2)
  · exact encwords_gen 16 d n m a c i (putS (putS (putS 2596282368 16 5 m) 5 5 n) 0 5 d) 0 op2 (baseT op2) w (fun w => encw_gen 16 d n m a c i _ 0 w (fun b w hm => word_16 d n m a c i b w h hm)) (fun w => rword_16 d n m a c i w h) (base_c op2 hw) (rbase_any op2)
theorem encwords_17 (d n m a c i op2 : Int) (hw : (Lit.int .i64 op2).wf = true) (w : World) : Calls Try.prog 3 #[.agg #[.int .i64 17, .int .i64 d, .int .i64 n, .int .i64 m, .int .i64 a, .int .i64 c, .int .i64 i], .int .i64 op2] w fun r w' => r = .returned (.bool true) ∧ Below w.heap.size w w' := by
  rcases h : ok_17 d n m a c i
  · exact encwords_gen 17 d n m a c i 0 1 op2 (baseT op2) w (fun w => encw_gen 17 d n m a c i 0 1 w (fun b w _ => word_bad 17 d n m a c i b w (fun w => by have := check_17 d n m a c i w; rw [h] at this; exact this))) (fun w => rword_bad 17 d n m a c i w (fun w => by have := rcheck_17 d n m a c i w; rw [h] at this; exact this)) (base_c op2 hw) (rbase_any op2)
  · exact encwords_gen 17 d n m a c i (putS (putS (putS 2596283392 16 5 m) 5 5 n) 0 5 d) 0 op2 (baseT op2) w (fun w => encw_gen 17 d n m a c i _ 0 w (fun b w hm => word_17 d n m a c i b w h hm)) (fun w => rword_17 d n m a c i w h) (base_c op2 hw) (rbase_any op2)
theorem encwords_18 (d n m a c i op2 : Int) (hw : (Lit.int .i64 op2).wf = true) (w : World) : Calls Try.prog 3 #[.agg #[.int .i64 18, .int .i64 d, .int .i64 n, .int .i64 m, .int .i64 a, .int .i64 c, .int .i64 i], .int .i64 op2] w fun r w' => r = .returned (.bool true) ∧ Below w.heap.size w w' := by
  rcases h : ok_18 d n m a c i
  · exact encwords_gen 18 d n m a c i 0 1 op2 (baseT op2) w (fun w => encw_gen 18 d n m a c i 0 1 w (fun b w _ => word_bad 18 d n m a c i b w (fun w => by have := check_18 d n m a c i w; rw [h] at this; exact this))) (fun w => rword_bad 18 d n m a c i w (fun w => by have := rcheck_18 d n m a c i w; rw [h] at this; exact this)) (base_c op2 hw) (rbase_any op2)
  · exact encwords_gen 18 d n m a c i (putS (putS (putS 2596284416 16 5 m) 5 5 n) 0 5 d) 0 op2 (baseT op2) w (fun w => encw_gen 18 d n m a c i _ 0 w (fun b w hm => word_18 d n m a c i b w h hm)) (fun w => rword_18 d n m a c i w h) (base_c op2 hw) (rbase_any op2)
theorem encwords_19 (d n m a c i op2 : Int) (hw : (Lit.int .i64 op2).wf = true) (w : World) : Calls Try.prog 3 #[.agg #[.int .i64 19, .int .i64 d, .int .i64 n, .int .i64 m, .int .i64 a, .int .i64 c, .int .i64 i], .int .i64 op2] w fun r w' => r = .returned (.bool true) ∧ Below w.heap.size w w' := by
  rcases h : ok_19 d n m a c i
  · exact encwords_gen 19 d n m a c i 0 1 op2 (baseT op2) w (fun w => encw_gen 19 d n m a c i 0 1 w (fun b w _ => word_bad 19 d n m a c i b w (fun w => by have := check_19 d n m a c i w; rw [h] at this; exact this))) (fun w => rword_bad 19 d n m a c i w (fun w => by have := rcheck_19 d n m a c i w; rw [h] at this; exact this)) (base_c op2 hw) (rbase_any op2)
  · exact encwords_gen 19 d n m a c i (putS (putS (putS (putS 2592080896 16 5 m) 12 4 c) 5 5 n) 0 5 d) 0 op2 (baseT op2) w (fun w => encw_gen 19 d n m a c i _ 0 w (fun b w hm => word_19 d n m a c i b w h hm)) (fun w => rword_19 d n m a c i w h) (base_c op2 hw) (rbase_any op2)
theorem encwords_20 (d n m a c i op2 : Int) (hw : (Lit.int .i64 op2).wf = true) (w : World) : Calls Try.prog 3 #[.agg #[.int .i64 20, .int .i64 d, .int .i64 n, .int .i64 m, .int .i64 a, .int .i64 c, .int .i64 i], .int .i64 op2] w fun r w' => r = .returned (.bool true) ∧ Below w.heap.size w w' := by
  rcases h : ok_20 d n m a c i
  · exact encwords_gen 20 d n m a c i 0 1 op2 (baseT op2) w (fun w => encw_gen 20 d n m a c i 0 1 w (fun b w _ => word_bad 20 d n m a c i b w (fun w => by have := check_20 d n m a c i w; rw [h] at this; exact this))) (fun w => rword_bad 20 d n m a c i w (fun w => by have := rcheck_20 d n m a c i w; rw [h] at this; exact this)) (base_c op2 hw) (rbase_any op2)
  · exact encwords_gen 20 d n m a c i (putS 335544320 0 26 (i / 4 % 4294967296)) 0 op2 (baseT op2) w (fun w => encw_gen 20 d n m a c i _ 0 w (fun b w hm => word_20 d n m a c i b w h hm)) (fun w => rword_20 d n m a c i w h) (base_c op2 hw) (rbase_any op2)
theorem encwords_21 (d n m a c i op2 : Int) (hw : (Lit.int .i64 op2).wf = true) (w : World) : Calls Try.prog 3 #[.agg #[.int .i64 21, .int .i64 d, .int .i64 n, .int .i64 m, .int .i64 a, .int .i64 c, .int .i64 i], .int .i64 op2] w fun r w' => r = .returned (.bool true) ∧ Below w.heap.size w w' := by
  rcases h : ok_21 d n m a c i
  · exact encwords_gen 21 d n m a c i 0 1 op2 (baseT op2) w (fun w => encw_gen 21 d n m a c i 0 1 w (fun b w _ => word_bad 21 d n m a c i b w (fun w => by have := check_21 d n m a c i w; rw [h] at this; exact this))) (fun w => rword_bad 21 d n m a c i w (fun w => by have := rcheck_21 d n m a c i w; rw [h] at this; exact this)) (base_c op2 hw) (rbase_any op2)
  · exact encwords_gen 21 d n m a c i (putS (putS 1409286144 5 19 (i / 4 % 4294967296)) 0 4 c) 0 op2 (baseT op2) w (fun w => encw_gen 21 d n m a c i _ 0 w (fun b w hm => word_21 d n m a c i b w h hm)) (fun w => rword_21 d n m a c i w h) (base_c op2 hw) (rbase_any op2)
theorem encwords_22 (d n m a c i op2 : Int) (hw : (Lit.int .i64 op2).wf = true) (w : World) : Calls Try.prog 3 #[.agg #[.int .i64 22, .int .i64 d, .int .i64 n, .int .i64 m, .int .i64 a, .int .i64 c, .int .i64 i], .int .i64 op2] w fun r w' => r = .returned (.bool true) ∧ Below w.heap.size w w' := by
  rcases h : ok_22 d n m a c i
  · exact encwords_gen 22 d n m a c i 0 1 op2 (baseT op2) w (fun w => encw_gen 22 d n m a c i 0 1 w (fun b w _ => word_bad 22 d n m a c i b w (fun w => by have := check_22 d n m a c i w; rw [h] at this; exact this))) (fun w => rword_bad 22 d n m a c i w (fun w => by have := rcheck_22 d n m a c i w; rw [h] at this; exact this)) (base_c op2 hw) (rbase_any op2)
  · exact encwords_gen 22 d n m a c i (putS (putS 3019898880 5 19 (i / 4 % 4294967296)) 0 5 d) 0 op2 (baseT op2) w (fun w => encw_gen 22 d n m a c i _ 0 w (fun b w hm => word_22 d n m a c i b w h hm)) (fun w => rword_22 d n m a c i w h) (base_c op2 hw) (rbase_any op2)
theorem encwords_23 (d n m a c i op2 : Int) (hw : (Lit.int .i64 op2).wf = true) (w : World) : Calls Try.prog 3 #[.agg #[.int .i64 23, .int .i64 d, .int .i64 n, .int .i64 m, .int .i64 a, .int .i64 c, .int .i64 i], .int .i64 op2] w fun r w' => r = .returned (.bool true) ∧ Below w.heap.size w w' := by
  rcases h : ok_23 d n m a c i
  · exact encwords_gen 23 d n m a c i 0 1 op2 (baseT op2) w (fun w => encw_gen 23 d n m a c i 0 1 w (fun b w _ => word_bad 23 d n m a c i b w (fun w => by have := check_23 d n m a c i w; rw [h] at this; exact this))) (fun w => rword_bad 23 d n m a c i w (fun w => by have := rcheck_23 d n m a c i w; rw [h] at this; exact this)) (base_c op2 hw) (rbase_any op2)
  · exact encwords_gen 23 d n m a c i (putS (putS 3036676096 5 19 (i / 4 % 4294967296)) 0 5 d) 0 op2 (baseT op2) w (fun w => encw_gen 23 d n m a c i _ 0 w (fun b w hm => word_23 d n m a c i b w h hm)) (fun w => rword_23 d n m a c i w h) (base_c op2 hw) (rbase_any op2)
theorem encwords_24 (d n m a c i op2 : Int) (hw : (Lit.int .i64 op2).wf = true) (w : World) : Calls Try.prog 3 #[.agg #[.int .i64 24, .int .i64 d, .int .i64 n, .int .i64 m, .int .i64 a, .int .i64 c, .int .i64 i], .int .i64 op2] w fun r w' => r = .returned (.bool true) ∧ Below w.heap.size w w' := by
  rcases h : ok_24 d n m a c i
  · exact encwords_gen 24 d n m a c i 0 1 op2 (baseT op2) w (fun w => encw_gen 24 d n m a c i 0 1 w (fun b w _ => word_bad 24 d n m a c i b w (fun w => by have := check_24 d n m a c i w; rw [h] at this; exact this))) (fun w => rword_bad 24 d n m a c i w (fun w => by have := rcheck_24 d n m a c i w; rw [h] at this; exact this)) (base_c op2 hw) (rbase_any op2)
  · exact encwords_gen 24 d n m a c i (putS 2483027968 0 26 (i / 4 % 4294967296)) 0 op2 (baseT op2) w (fun w => encw_gen 24 d n m a c i _ 0 w (fun b w hm => word_24 d n m a c i b w h hm)) (fun w => rword_24 d n m a c i w h) (base_c op2 hw) (rbase_any op2)
theorem encwords_25 (d n m a c i op2 : Int) (hw : (Lit.int .i64 op2).wf = true) (w : World) : Calls Try.prog 3 #[.agg #[.int .i64 25, .int .i64 d, .int .i64 n, .int .i64 m, .int .i64 a, .int .i64 c, .int .i64 i], .int .i64 op2] w fun r w' => r = .returned (.bool true) ∧ Below w.heap.size w w' := by
  rcases h : ok_25 d n m a c i
  · exact encwords_gen 25 d n m a c i 0 1 op2 (baseT op2) w (fun w => encw_gen 25 d n m a c i 0 1 w (fun b w _ => word_bad 25 d n m a c i b w (fun w => by have := check_25 d n m a c i w; rw [h] at this; exact this))) (fun w => rword_bad 25 d n m a c i w (fun w => by have := rcheck_25 d n m a c i w; rw [h] at this; exact this)) (base_c op2 hw) (rbase_any op2)
  · exact encwords_gen 25 d n m a c i (putS 3592355840 5 5 n) 0 op2 (baseT op2) w (fun w => encw_gen 25 d n m a c i _ 0 w (fun b w hm => word_25 d n m a c i b w h hm)) (fun w => rword_25 d n m a c i w h) (base_c op2 hw) (rbase_any op2)
theorem encwords_26 (d n m a c i op2 : Int) (hw : (Lit.int .i64 op2).wf = true) (w : World) : Calls Try.prog 3 #[.agg #[.int .i64 26, .int .i64 d, .int .i64 n, .int .i64 m, .int .i64 a, .int .i64 c, .int .i64 i], .int .i64 op2] w fun r w' => r = .returned (.bool true) ∧ Below w.heap.size w w' := by
  rcases h : ok_26 d n m a c i
  · exact encwords_gen 26 d n m a c i 0 1 op2 (baseT op2) w (fun w => encw_gen 26 d n m a c i 0 1 w (fun b w _ => word_bad 26 d n m a c i b w (fun w => by have := check_26 d n m a c i w; rw [h] at this; exact this))) (fun w => rword_bad 26 d n m a c i w (fun w => by have := rcheck_26 d n m a c i w; rw [h] at this; exact this)) (base_c op2 hw) (rbase_any op2)
  · exact encwords_gen 26 d n m a c i (putS 3594452992 5 5 n) 0 op2 (baseT op2) w (fun w => encw_gen 26 d n m a c i _ 0 w (fun b w hm => word_26 d n m a c i b w h hm)) (fun w => rword_26 d n m a c i w h) (base_c op2 hw) (rbase_any op2)
theorem encwords_27 (d n m a c i op2 : Int) (hw : (Lit.int .i64 op2).wf = true) (w : World) : Calls Try.prog 3 #[.agg #[.int .i64 27, .int .i64 d, .int .i64 n, .int .i64 m, .int .i64 a, .int .i64 c, .int .i64 i], .int .i64 op2] w fun r w' => r = .returned (.bool true) ∧ Below w.heap.size w w' := by
  rcases h : ok_27 d n m a c i
  · exact encwords_gen 27 d n m a c i 0 1 op2 (baseT op2) w (fun w => encw_gen 27 d n m a c i 0 1 w (fun b w _ => word_bad 27 d n m a c i b w (fun w => by have := check_27 d n m a c i w; rw [h] at this; exact this))) (fun w => rword_bad 27 d n m a c i w (fun w => by have := rcheck_27 d n m a c i w; rw [h] at this; exact this)) (base_c op2 hw) (rbase_any op2)
  · exact encwords_gen 27 d n m a c i (putS 3596550144 5 5 n) 0 op2 (baseT op2) w (fun w => encw_gen 27 d n m a c i _ 0 w (fun b w hm => word_27 d n m a c i b w h hm)) (fun w => rword_27 d n m a c i w h) (base_c op2 hw) (rbase_any op2)
theorem encwords_28 (d n m a c i op2 : Int) (hw : (Lit.int .i64 op2).wf = true) (w : World) : Calls Try.prog 3 #[.agg #[.int .i64 28, .int .i64 d, .int .i64 n, .int .i64 m, .int .i64 a, .int .i64 c, .int .i64 i], .int .i64 op2] w fun r w' => r = .returned (.bool true) ∧ Below w.heap.size w w' := by
  rcases h : ok_28 d n m a c i
  · exact encwords_gen 28 d n m a c i 0 1 op2 (baseT op2) w (fun w => encw_gen 28 d n m a c i 0 1 w (fun b w _ => word_bad 28 d n m a c i b w (fun w => by have := check_28 d n m a c i w; rw [h] at this; exact this))) (fun w => rword_bad 28 d n m a c i w (fun w => by have := rcheck_28 d n m a c i w; rw [h] at this; exact this)) (base_c op2 hw) (rbase_any op2)
  · exact encwords_gen 28 d n m a c i (putS (putS (putS 4181721088 10 12 (i / 8)) 5 5 n) 0 5 d) 0 op2 (baseT op2) w (fun w => encw_gen 28 d n m a c i _ 0 w (fun b w hm => word_28 d n m a c i b w h hm)) (fun w => rword_28 d n m a c i w h) (base_c op2 hw) (rbase_any op2)
theorem encwords_29 (d n m a c i op2 : Int) (hw : (Lit.int .i64 op2).wf = true) (w : World) : Calls Try.prog 3 #[.agg #[.int .i64 29, .int .i64 d, .int .i64 n, .int .i64 m, .int .i64 a, .int .i64 c, .int .i64 i], .int .i64 op2] w fun r w' => r = .returned (.bool true) ∧ Below w.heap.size w w' := by
  rcases h : ok_29 d n m a c i
  · exact encwords_gen 29 d n m a c i 0 1 op2 (baseT op2) w (fun w => encw_gen 29 d n m a c i 0 1 w (fun b w _ => word_bad 29 d n m a c i b w (fun w => by have := check_29 d n m a c i w; rw [h] at this; exact this))) (fun w => rword_bad 29 d n m a c i w (fun w => by have := rcheck_29 d n m a c i w; rw [h] at this; exact this)) (base_c op2 hw) (rbase_any op2)
  · exact encwords_gen 29 d n m a c i (putS (putS (putS 4177526784 10 12 (i / 8)) 5 5 n) 0 5 d) 0 op2 (baseT op2) w (fun w => encw_gen 29 d n m a c i _ 0 w (fun b w hm => word_29 d n m a c i b w h hm)) (fun w => rword_29 d n m a c i w h) (base_c op2 hw) (rbase_any op2)
theorem encwords_30 (d n m a c i op2 : Int) (hw : (Lit.int .i64 op2).wf = true) (w : World) : Calls Try.prog 3 #[.agg #[.int .i64 30, .int .i64 d, .int .i64 n, .int .i64 m, .int .i64 a, .int .i64 c, .int .i64 i], .int .i64 op2] w fun r w' => r = .returned (.bool true) ∧ Below w.heap.size w w' := by
  rcases h : ok_30 d n m a c i
  · exact encwords_gen 30 d n m a c i 0 1 op2 (baseT op2) w (fun w => encw_gen 30 d n m a c i 0 1 w (fun b w _ => word_bad 30 d n m a c i b w (fun w => by have := check_30 d n m a c i w; rw [h] at this; exact this))) (fun w => rword_bad 30 d n m a c i w (fun w => by have := rcheck_30 d n m a c i w; rw [h] at this; exact this)) (base_c op2 hw) (rbase_any op2)
  · exact encwords_gen 30 d n m a c i (putS (putS (putS 960495616 10 12 i) 5 5 n) 0 5 d) 0 op2 (baseT op2) w (fun w => encw_gen 30 d n m a c i _ 0 w (fun b w hm => word_30 d n m a c i b w h hm)) (fun w => rword_30 d n m a c i w h) (base_c op2 hw) (rbase_any op2)
theorem encwords_31 (d n m a c i op2 : Int) (hw : (Lit.int .i64 op2).wf = true) (w : World) : Calls Try.prog 3 #[.agg #[.int .i64 31, .int .i64 d, .int .i64 n, .int .i64 m, .int .i64 a, .int .i64 c, .int .i64 i], .int .i64 op2] w fun r w' => r = .returned (.bool true) ∧ Below w.heap.size w w' := by
  rcases h : ok_31 d n m a c i
  · exact encwords_gen 31 d n m a c i 0 1 op2 (baseT op2) w (fun w => encw_gen 31 d n m a c i 0 1 w (fun b w _ => word_bad 31 d n m a c i b w (fun w => by have := check_31 d n m a c i w; rw [h] at this; exact this))) (fun w => rword_bad 31 d n m a c i w (fun w => by have := rcheck_31 d n m a c i w; rw [h] at this; exact this)) (base_c op2 hw) (rbase_any op2)
  · exact encwords_gen 31 d n m a c i (putS (putS (putS 4167071744 16 5 m) 5 5 n) 0 5 d) 0 op2 (baseT op2) w (fun w => encw_gen 31 d n m a c i _ 0 w (fun b w hm => word_31 d n m a c i b w h hm)) (fun w => rword_31 d n m a c i w h) (base_c op2 hw) (rbase_any op2)
theorem encwords_32 (d n m a c i op2 : Int) (hw : (Lit.int .i64 op2).wf = true) (w : World) : Calls Try.prog 3 #[.agg #[.int .i64 32, .int .i64 d, .int .i64 n, .int .i64 m, .int .i64 a, .int .i64 c, .int .i64 i], .int .i64 op2] w fun r w' => r = .returned (.bool true) ∧ Below w.heap.size w w' := by
  rcases h : ok_32 d n m a c i
  · exact encwords_gen 32 d n m a c i 0 1 op2 (baseT op2) w (fun w => encw_gen 32 d n m a c i 0 1 w (fun b w _ => word_bad 32 d n m a c i b w (fun w => by have := check_32 d n m a c i w; rw [h] at this; exact this))) (fun w => rword_bad 32 d n m a c i w (fun w => by have := rcheck_32 d n m a c i w; rw [h] at this; exact this)) (base_c op2 hw) (rbase_any op2)
  · exact encwords_gen 32 d n m a c i (putS (putS (putS 4162877440 16 5 m) 5 5 n) 0 5 d) 0 op2 (baseT op2) w (fun w => encw_gen 32 d n m a c i _ 0 w (fun b w hm => word_32 d n m a c i b w h hm)) (fun w => rword_32 d n m a c i w h) (base_c op2 hw) (rbase_any op2)
theorem encwords_33 (d n m a c i op2 : Int) (hw : (Lit.int .i64 op2).wf = true) (w : World) : Calls Try.prog 3 #[.agg #[.int .i64 33, .int .i64 d, .int .i64 n, .int .i64 m, .int .i64 a, .int .i64 c, .int .i64 i], .int .i64 op2] w fun r w' => r = .returned (.bool true) ∧ Below w.heap.size w w' := by
  rcases h : ok_33 d n m a c i
  · exact encwords_gen 33 d n m a c i 0 1 op2 (baseT op2) w (fun w => encw_gen 33 d n m a c i 0 1 w (fun b w _ => word_bad 33 d n m a c i b w (fun w => by have := check_33 d n m a c i w; rw [h] at this; exact this))) (fun w => rword_bad 33 d n m a c i w (fun w => by have := rcheck_33 d n m a c i w; rw [h] at this; exact this)) (base_c op2 hw) (rbase_any op2)
  · exact encwords_gen 33 d n m a c i (putS (putS 3370122240 5 5 n) 0 5 d) 0 op2 (baseT op2) w (fun w => encw_gen 33 d n m a c i _ 0 w (fun b w hm => word_33 d n m a c i b w h hm)) (fun w => rword_33 d n m a c i w h) (base_c op2 hw) (rbase_any op2)
theorem encwords_34 (d n m a c i op2 : Int) (hw : (Lit.int .i64 op2).wf = true) (w : World) : Calls Try.prog 3 #[.agg #[.int .i64 34, .int .i64 d, .int .i64 n, .int .i64 m, .int .i64 a, .int .i64 c, .int .i64 i], .int .i64 op2] w fun r w' => r = .returned (.bool true) ∧ Below w.heap.size w w' := by
  rcases h : ok_34 d n m a c i
  · exact encwords_gen 34 d n m a c i 0 1 op2 (baseT op2) w (fun w => encw_gen 34 d n m a c i 0 1 w (fun b w _ => word_bad 34 d n m a c i b w (fun w => by have := check_34 d n m a c i w; rw [h] at this; exact this))) (fun w => rword_bad 34 d n m a c i w (fun w => by have := rcheck_34 d n m a c i w; rw [h] at this; exact this)) (base_c op2 hw) (rbase_any op2)
  · exact encwords_gen 34 d n m a c i (putS (putS 3365927936 5 5 n) 0 5 d) 0 op2 (baseT op2) w (fun w => encw_gen 34 d n m a c i _ 0 w (fun b w hm => word_34 d n m a c i b w h hm)) (fun w => rword_34 d n m a c i w h) (base_c op2 hw) (rbase_any op2)
theorem encwords_35 (d n m a c i op2 : Int) (hw : (Lit.int .i64 op2).wf = true) (w : World) : Calls Try.prog 3 #[.agg #[.int .i64 35, .int .i64 d, .int .i64 n, .int .i64 m, .int .i64 a, .int .i64 c, .int .i64 i], .int .i64 op2] w fun r w' => r = .returned (.bool true) ∧ Below w.heap.size w w' := by
  rcases h : ok_35 d n m a c i
  · exact encwords_gen 35 d n m a c i 0 1 op2 (baseT op2) w (fun w => encw_gen 35 d n m a c i 0 1 w (fun b w _ => word_bad 35 d n m a c i b w (fun w => by have := check_35 d n m a c i w; rw [h] at this; exact this))) (fun w => rword_bad 35 d n m a c i w (fun w => by have := rcheck_35 d n m a c i w; rw [h] at this; exact this)) (base_c op2 hw) (rbase_any op2)
  · exact encwords_gen 35 d n m a c i (putS (putS 3361700864 5 5 n) 0 5 d) 0 op2 (baseT op2) w (fun w => encw_gen 35 d n m a c i _ 0 w (fun b w hm => word_35 d n m a c i b w h hm)) (fun w => rword_35 d n m a c i w h) (base_c op2 hw) (rbase_any op2)
theorem encwords_36 (d n m a c i op2 : Int) (hw : (Lit.int .i64 op2).wf = true) (w : World) : Calls Try.prog 3 #[.agg #[.int .i64 36, .int .i64 d, .int .i64 n, .int .i64 m, .int .i64 a, .int .i64 c, .int .i64 i], .int .i64 op2] w fun r w' => r = .returned (.bool true) ∧ Below w.heap.size w w' := by
  rcases h : ok_36 d n m a c i
  · exact encwords_gen 36 d n m a c i 0 1 op2 (baseT op2) w (fun w => encw_gen 36 d n m a c i 0 1 w (fun b w _ => word_bad 36 d n m a c i b w (fun w => by have := check_36 d n m a c i w; rw [h] at this; exact this))) (fun w => rword_bad 36 d n m a c i w (fun w => by have := rcheck_36 d n m a c i w; rw [h] at this; exact this)) (base_c op2 hw) (rbase_any op2)
  · exact encwords_gen 36 d n m a c i (putS (putS (putS 3355474944 16 5 d) 5 5 n) 0 5 m) 0 op2 (baseT op2) w (fun w => encw_gen 36 d n m a c i _ 0 w (fun b w hm => word_36 d n m a c i b w h hm)) (fun w => rword_36 d n m a c i w h) (base_c op2 hw) (rbase_any op2)
theorem encwords_37 (d n m a c i op2 : Int) (hw : (Lit.int .i64 op2).wf = true) (w : World) : Calls Try.prog 3 #[.agg #[.int .i64 37, .int .i64 d, .int .i64 n, .int .i64 m, .int .i64 a, .int .i64 c, .int .i64 i], .int .i64 op2] w fun r w' => r = .returned (.bool true) ∧ Below w.heap.size w w' := by
  rcases h : ok_37 d n m a c i
  · exact encwords_gen 37 d n m a c i 0 1 op2 (baseT op2) w (fun w => encw_gen 37 d n m a c i 0 1 w (fun b w _ => word_bad 37 d n m a c i b w (fun w => by have := check_37 d n m a c i w; rw [h] at this; exact this))) (fun w => rword_bad 37 d n m a c i w (fun w => by have := rcheck_37 d n m a c i w; rw [h] at this; exact this)) (base_c op2 hw) (rbase_any op2)
  · exact encwords_gen 37 d n m a c i (barS 3573758911 i) 0 op2 (baseT op2) w (fun w => encw_gen 37 d n m a c i _ 0 w (fun b w hm => word_37 d n m a c i b w h hm)) (fun w => rword_37 d n m a c i w h) (base_c op2 hw) (rbase_any op2)
theorem encwords_38 (d n m a c i op2 : Int) (hw : (Lit.int .i64 op2).wf = true) (w : World) : Calls Try.prog 3 #[.agg #[.int .i64 38, .int .i64 d, .int .i64 n, .int .i64 m, .int .i64 a, .int .i64 c, .int .i64 i], .int .i64 op2] w fun r w' => r = .returned (.bool true) ∧ Below w.heap.size w w' := by
  rcases h : ok_38 d n m a c i
  · exact encwords_gen 38 d n m a c i 0 1 op2 (baseT op2) w (fun w => encw_gen 38 d n m a c i 0 1 w (fun b w _ => word_bad 38 d n m a c i b w (fun w => by have := check_38 d n m a c i w; rw [h] at this; exact this))) (fun w => rword_bad 38 d n m a c i w (fun w => by have := rcheck_38 d n m a c i w; rw [h] at this; exact this)) (base_c op2 hw) (rbase_any op2)
  · exact encwords_gen 38 d n m a c i 3573758879 0 op2 (baseT op2) w (fun w => encw_gen 38 d n m a c i _ 0 w (fun b w hm => word_38 d n m a c i b w h hm)) (fun w => rword_38 d n m a c i w h) (base_c op2 hw) (rbase_any op2)
theorem encwords_39 (d n m a c i op2 : Int) (hw : (Lit.int .i64 op2).wf = true) (w : World) : Calls Try.prog 3 #[.agg #[.int .i64 39, .int .i64 d, .int .i64 n, .int .i64 m, .int .i64 a, .int .i64 c, .int .i64 i], .int .i64 op2] w fun r w' => r = .returned (.bool true) ∧ Below w.heap.size w w' := by
  rcases h : ok_39 d n m a c i
  · exact encwords_gen 39 d n m a c i 0 1 op2 (baseT op2) w (fun w => encw_gen 39 d n m a c i 0 1 w (fun b w _ => word_bad 39 d n m a c i b w (fun w => by have := check_39 d n m a c i w; rw [h] at this; exact this))) (fun w => rword_bad 39 d n m a c i w (fun w => by have := rcheck_39 d n m a c i w; rw [h] at this; exact this)) (base_c op2 hw) (rbase_any op2)
  · exact encwords_gen 39 d n m a c i 3573759967 0 op2 (baseT op2) w (fun w => encw_gen 39 d n m a c i _ 0 w (fun b w hm => word_39 d n m a c i b w h hm)) (fun w => rword_39 d n m a c i w h) (base_c op2 hw) (rbase_any op2)
theorem encwords_40 (d n m a c i op2 : Int) (hw : (Lit.int .i64 op2).wf = true) (w : World) : Calls Try.prog 3 #[.agg #[.int .i64 40, .int .i64 d, .int .i64 n, .int .i64 m, .int .i64 a, .int .i64 c, .int .i64 i], .int .i64 op2] w fun r w' => r = .returned (.bool true) ∧ Below w.heap.size w w' := by
  rcases h : ok_40 d n m a c i
  · exact encwords_gen 40 d n m a c i 0 1 op2 (baseT op2) w (fun w => encw_gen 40 d n m a c i 0 1 w (fun b w _ => word_bad 40 d n m a c i b w (fun w => by have := check_40 d n m a c i w; rw [h] at this; exact this))) (fun w => rword_bad 40 d n m a c i w (fun w => by have := rcheck_40 d n m a c i w; rw [h] at this; exact this)) (base_c op2 hw) (rbase_any op2)
  · exact encwords_gen 40 d n m a c i (putS 3574299424 0 5 n) 0 op2 (baseT op2) w (fun w => encw_gen 40 d n m a c i _ 0 w (fun b w hm => word_40 d n m a c i b w h hm)) (fun w => rword_40 d n m a c i w h) (base_c op2 hw) (rbase_any op2)
theorem encwords_41 (d n m a c i op2 : Int) (hw : (Lit.int .i64 op2).wf = true) (w : World) : Calls Try.prog 3 #[.agg #[.int .i64 41, .int .i64 d, .int .i64 n, .int .i64 m, .int .i64 a, .int .i64 c, .int .i64 i], .int .i64 op2] w fun r w' => r = .returned (.bool true) ∧ Below w.heap.size w w' := by
  rcases h : ok_41 d n m a c i
  · exact encwords_gen 41 d n m a c i 0 1 op2 (baseT op2) w (fun w => encw_gen 41 d n m a c i 0 1 w (fun b w _ => word_bad 41 d n m a c i b w (fun w => by have := check_41 d n m a c i w; rw [h] at this; exact this))) (fun w => rword_bad 41 d n m a c i w (fun w => by have := rcheck_41 d n m a c i w; rw [h] at this; exact this)) (base_c op2 hw) (rbase_any op2)
  · exact encwords_gen 41 d n m a c i (putS 3574297888 0 5 n) 0 op2 (baseT op2) w (fun w => encw_gen 41 d n m a c i _ 0 w (fun b w hm => word_41 d n m a c i b w h hm)) (fun w => rword_41 d n m a c i w h) (base_c op2 hw) (rbase_any op2)
theorem encwords_42 (d n m a c i op2 : Int) (hw : (Lit.int .i64 op2).wf = true) (w : World) : Calls Try.prog 3 #[.agg #[.int .i64 42, .int .i64 d, .int .i64 n, .int .i64 m, .int .i64 a, .int .i64 c, .int .i64 i], .int .i64 op2] w fun r w' => r = .returned (.bool true) ∧ Below w.heap.size w w' := by
  rcases h : ok_42 d n m a c i
  · exact encwords_gen 42 d n m a c i 0 1 op2 (baseT op2) w (fun w => encw_gen 42 d n m a c i 0 1 w (fun b w _ => word_bad 42 d n m a c i b w (fun w => by have := check_42 d n m a c i w; rw [h] at this; exact this))) (fun w => rword_bad 42 d n m a c i w (fun w => by have := rcheck_42 d n m a c i w; rw [h] at this; exact this)) (base_c op2 hw) (rbase_any op2)
  · exact encwords_gen 42 d n m a c i (putS 3556769793 5 16 i) 0 op2 (baseT op2) w (fun w => encw_gen 42 d n m a c i _ 0 w (fun b w hm => word_42 d n m a c i b w h hm)) (fun w => rword_42 d n m a c i w h) (base_c op2 hw) (rbase_any op2)
theorem encwords_any (op d n m a c i op2 : Int) (hw : (Lit.int .i64 op2).wf = true) (w : World) : Calls Try.prog 3 #[.agg #[.int .i64 op, .int .i64 d, .int .i64 n, .int .i64 m, .int .i64 a, .int .i64 c, .int .i64 i], .int .i64 op2] w fun r w' => r = .returned (.bool true) ∧ Below w.heap.size w w' := by
  by_cases h : 0 ≤ op ∧ op ≤ 42
  · have : op = 0 ∨ op = 1 ∨ op = 2 ∨ op = 3 ∨ op = 4 ∨ op = 5 ∨ op = 6 ∨ op = 7 ∨ op = 8 ∨ op = 9 ∨ op = 10 ∨ op = 11 ∨ op = 12 ∨ op = 13 ∨ op = 14 ∨ op = 15 ∨ op = 16 ∨ op = 17 ∨ op = 18 ∨ op = 19 ∨ op = 20 ∨ op = 21 ∨ op = 22 ∨ op = 23 ∨ op = 24 ∨ op = 25 ∨ op = 26 ∨ op = 27 ∨ op = 28 ∨ op = 29 ∨ op = 30 ∨ op = 31 ∨ op = 32 ∨ op = 33 ∨ op = 34 ∨ op = 35 ∨ op = 36 ∨ op = 37 ∨ op = 38 ∨ op = 39 ∨ op = 40 ∨ op = 41 ∨ op = 42 := by omega
    rcases this with rfl | rfl | rfl | rfl | rfl | rfl | rfl | rfl | rfl | rfl | rfl | rfl | rfl | rfl | rfl | rfl | rfl | rfl | rfl | rfl | rfl | rfl | rfl | rfl | rfl | rfl | rfl | rfl | rfl | rfl | rfl | rfl | rfl | rfl | rfl | rfl | rfl | rfl | rfl | rfl | rfl | rfl | rfl
    · exact encwords_0 d n m a c i op2 hw w
    · exact encwords_1 d n m a c i op2 hw w
    · exact encwords_2 d n m a c i op2 hw w
    · exact encwords_3 d n m a c i op2 hw w
    · exact encwords_4 d n m a c i op2 hw w
    · exact encwords_5 d n m a c i op2 hw w
    · exact encwords_6 d n m a c i op2 hw w
    · exact encwords_7 d n m a c i op2 hw w
    · exact encwords_8 d n m a c i op2 hw w
    · exact encwords_9 d n m a c i op2 hw w
    · exact encwords_10 d n m a c i op2 hw w
    · exact encwords_11 d n m a c i op2 hw w
    · exact encwords_12 d n m a c i op2 hw w
    · exact encwords_13 d n m a c i op2 hw w
    · exact encwords_14 d n m a c i op2 hw w
    · exact encwords_15 d n m a c i op2 hw w
    · exact encwords_16 d n m a c i op2 hw w
    · exact encwords_17 d n m a c i op2 hw w
    · exact encwords_18 d n m a c i op2 hw w
    · exact encwords_19 d n m a c i op2 hw w
    · exact encwords_20 d n m a c i op2 hw w
    · exact encwords_21 d n m a c i op2 hw w
    · exact encwords_22 d n m a c i op2 hw w
    · exact encwords_23 d n m a c i op2 hw w
    · exact encwords_24 d n m a c i op2 hw w
    · exact encwords_25 d n m a c i op2 hw w
    · exact encwords_26 d n m a c i op2 hw w
    · exact encwords_27 d n m a c i op2 hw w
    · exact encwords_28 d n m a c i op2 hw w
    · exact encwords_29 d n m a c i op2 hw w
    · exact encwords_30 d n m a c i op2 hw w
    · exact encwords_31 d n m a c i op2 hw w
    · exact encwords_32 d n m a c i op2 hw w
    · exact encwords_33 d n m a c i op2 hw w
    · exact encwords_34 d n m a c i op2 hw w
    · exact encwords_35 d n m a c i op2 hw w
    · exact encwords_36 d n m a c i op2 hw w
    · exact encwords_37 d n m a c i op2 hw w
    · exact encwords_38 d n m a c i op2 hw w
    · exact encwords_39 d n m a c i op2 hw w
    · exact encwords_40 d n m a c i op2 hw w
    · exact encwords_41 d n m a c i op2 hw w
    · exact encwords_42 d n m a c i op2 hw w
  · have h' : op < 0 ∨ 42 < op := by omega
    exact encwords_gen op d n m a c i 0 1 op2 (baseT op2) w (fun w => encw_gen op d n m a c i 0 1 w (fun b w _ => word_bad op d n m a c i b w (fun w => check_non op d n m a c i 0 w (fun w => isop_n op w h')))) (fun w => rword_bad op d n m a c i w (fun w => rcheck_non op d n m a c i w h')) (base_c op2 hw) (rbase_any op2)
end Go.Proofs.Ythgpolddbadfmaa
