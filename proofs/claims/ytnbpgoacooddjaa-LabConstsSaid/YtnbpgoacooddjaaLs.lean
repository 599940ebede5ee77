import Derived.Test.YtnbpgoacooddjaaLk
import Derived.Test.YtnbpgoacooddjaaLr
namespace Go.Proofs.Ytnbpgoacooddjaa.Lab
open Go.ChangeShapes Go.WideShapes Go.ChangeAt Go.RowKit
set_option linter.unusedVariables false
attribute [local go_sem] rowAt_drew rowAt_drewN
set_option maxRecDepth 100000 in
set_option maxHeartbeats 2000000 in
theorem rreg_y (v : Int) (h0 : 0 ≤ v) (h1 : v ≤ 31) (w : World) : Calls Try.prog 168 #[.bool true, .int .i64 v] w fun e w' => e = .returned (.bool true) ∧ w' = w := by
  go_enter Try.func168, Try.ntmps168
  go_wp2
  go_ret
  exact ⟨rfl, rfl⟩
set_option maxRecDepth 100000 in
set_option maxHeartbeats 2000000 in
theorem rreg_n (w : World) : Calls Try.prog 168 #[.bool false, .int .i64 0] w fun e w' => e = .returned (.bool true) ∧ w' = w := by
  go_enter Try.func168, Try.ntmps168
  go_wp2
  go_ret
  exact ⟨rfl, rfl⟩
set_option maxRecDepth 100000 in
set_option maxHeartbeats 2000000 in
theorem rfields_23 (o : Int) (ho : o = 2 ∨ o = 3) (w : World) : Calls Try.prog 167 #[.int .i64 o] w fun e w' => e = .returned (.tuple #[.bool true, .bool false, .bool true, .bool false, .bool false, .bool true]) ∧ w' = w := by
  rcases ho with rfl | rfl
  all_goals
    go_enter Try.func167, Try.ntmps167
    go_wp2
    refine bodyPost_ret (v := .tuple #[.bool true, .bool false, .bool true, .bool false, .bool false, .bool true]) (by simp [results, Try.results167, go_sem]) rfl ⟨rfl, rfl⟩
set_option maxRecDepth 100000 in
set_option maxHeartbeats 2000000 in
theorem rimm_23 (o d m i : Int) (ho : o = 2 ∨ o = 3) (i1 : 0 ≤ i) (i2 : i ≤ 65535) (w : World) : Calls Try.prog 169 #[.agg #[.int .i64 o, .int .i64 d, .int .i64 0, .int .i64 m, .int .i64 0, .int .i64 0, .int .i64 i]] w fun e w' => e = .returned (.bool true) ∧ Below w.heap.size w w' := by
  rcases ho with rfl | rfl
  all_goals
    go_enter Try.func169, Try.ntmps169
    go_wp2
    go_ret
    exact ⟨rfl, (Below.refl _ _).alloc (Nat.le_refl _) _⟩
set_option maxRecDepth 100000 in
set_option maxHeartbeats 2000000 in
theorem rcheck_23 (o d m i : Int) (ho : o = 2 ∨ o = 3) (d1 : 0 ≤ d) (d2 : d ≤ 30) (m1 : 0 ≤ m) (m2 : m ≤ 3) (i1 : 0 ≤ i) (i2 : i ≤ 65535) (w : World) : Calls Try.prog 83 #[.agg #[.int .i64 o, .int .i64 d, .int .i64 0, .int .i64 m, .int .i64 0, .int .i64 0, .int .i64 i]] w fun e w' => e = .returned (.int .i64 0) ∧ Below w.heap.size w w' := by
  have HF := Lib.hid (rfields_23 o ho)
  have HD := Lib.hid (rreg_y d d1 (by omega))
  have HM := Lib.hid (rreg_y m m1 (by omega))
  have HN := Lib.hid rreg_n
  have HI := Lib.hid (rimm_23 o d m i ho i1 i2)
  have m3 : decide (3 < m) = false := decide_eq_false (by omega)
  have HR0 := Lib.hid (rowAt_new w #[.int .i64 o, .int .i64 d, .int .i64 0, .int .i64 m, .int .i64 0, .int .i64 0, .int .i64 i] 29)
  rcases ho with rfl | rfl
  all_goals
    go_enter Try.func83, Try.ntmps83
    go_wp2_with (first | (go_at_call 167; refine (HF.out _).mono ?_; rintro e w' ⟨rfl, rfl⟩) | (go_at_call 168; (with_reducible refine (HN.out _).mono ?_); rintro e w' ⟨rfl, rfl⟩) | (go_at_call 168; (with_reducible refine (HD.out _).mono ?_); rintro e w' ⟨rfl, rfl⟩) | (go_at_call 168; (with_reducible refine (HM.out _).mono ?_); rintro e w' ⟨rfl, rfl⟩) | (go_at_call 169; refine (HI.out _).mono ?_; rintro e w2 ⟨rfl, hb2⟩; have HB2 := Lib.hid (((Below.refl _ _).alloc (Nat.le_refl _) _).trans (hb2.mono (by simp)) : Below w.heap.size w w2); have hr2 := rowAt_below HR0.out hb2 rfl; have c0 := rowAt_cell hr2 0; have c3 := rowAt_cell hr2 3; have c5 := rowAt_cell hr2 5; simp only [List.getElem?_toArray, List.getElem?_cons_zero, List.getElem?_cons_succ] at c0 c3 c5; clear hr2; clear hb2))
    go_ret
    exact ⟨rfl, HB2.out⟩
set_option maxRecDepth 100000 in
set_option maxHeartbeats 2000000 in
theorem rdest_23 (o d m i : Int) (d1 : 0 ≤ d) (d2 : d ≤ 30) (w : World) : Calls Try.prog 87 #[.agg #[.int .i64 o, .int .i64 d, .int .i64 0, .int .i64 m, .int .i64 0, .int .i64 0, .int .i64 i]] w fun e w' => e = .returned (.int .i64 d) ∧ Below w.heap.size w w' := by
  have e1 : (d == 31) = false := by simp; omega
  go_enter Try.func87, Try.ntmps87
  go_wp2
  go_ret
  exact ⟨rfl, (Below.refl _ _).alloc (Nat.le_refl _) _⟩
set_option maxRecDepth 100000 in
set_option maxHeartbeats 2000000 in
theorem rbase_23 (o d m i : Int) (w : World) : Calls Try.prog 90 #[.agg #[.int .i64 o, .int .i64 d, .int .i64 0, .int .i64 m, .int .i64 0, .int .i64 0, .int .i64 i]] w fun e w' => e = .returned (.int .i64 0) ∧ Below w.heap.size w w' := by
  go_enter Try.func90, Try.ntmps90
  go_wp2
  go_ret
  exact ⟨rfl, (Below.refl _ _).alloc (Nat.le_refl _) _⟩
set_option maxRecDepth 100000 in
set_option maxHeartbeats 2000000 in
theorem rstore_23 (o : Int) (ho : o = 2 ∨ o = 3) (w : World) : Calls Try.prog 92 #[.int .i64 o] w fun e w' => e = .returned (.bool false) ∧ w' = w := by
  rcases ho with rfl | rfl
  all_goals
    go_enter Try.func92, Try.ntmps92
    go_wp2
    go_ret
    exact ⟨rfl, rfl⟩
set_option maxRecDepth 100000 in
set_option maxHeartbeats 4000000 in
theorem rgoes_23 (o d m i pc : Int) (ho : o = 2 ∨ o = 3) (r : Rg) (w : World) : Calls Try.prog 84 #[.agg #[.int .i64 o, .int .i64 d, .int .i64 0, .int .i64 m, .int .i64 0, .int .i64 0, .int .i64 i], .int .u64 pc, .agg r.arr] w fun e w' => e = .returned (.tuple #[.int .u64 0, .bool false]) ∧ Below w.heap.size w w' := by
  rcases ho with rfl | rfl
  all_goals
    go_enter Try.func84, Try.ntmps84
    go_wp2
    refine bodyPost_ret (v := .tuple #[.int .u64 0, .bool false]) (by simp [results, Try.results84, go_sem]) rfl ⟨rfl, ?_⟩
    exact ((Below.refl _ _).alloc (Nat.le_refl _) _).alloc (by simp) _
end Go.Proofs.Ytnbpgoacooddjaa.Lab
