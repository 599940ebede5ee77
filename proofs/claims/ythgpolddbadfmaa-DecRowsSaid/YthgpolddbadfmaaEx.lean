import Derived.Test.YthgpolddbadfmaaEw
import Derived.Test.YthgpolddbadfmaaWdA
import Derived.Test.YthgpolddbadfmaaWdD
import Derived.Test.YthgpolddbadfmaaRfB
namespace Go.Proofs.Ythgpolddbadfmaa
open Go.ChangeShapes Go.WideShapes Go.ChangeAt Go.RowKit Go.Maps
set_option linter.unusedVariables false
theorem word_a (w : World) : Calls Try.prog 10 #[.agg #[.int .i64 4, .int .i64 0, .int .i64 0, .int .i64 0, .int .i64 0, .int .i64 0, .int .i64 1]] w fun r w' => r = .returned (.tuple #[.int .u32 2432697344, .int .i64 0]) ∧ Below w.heap.size w w' := by
  have := encw_gen 4 0 0 0 0 0 1 _ 0 w (fun b w h => word_4 0 0 0 0 0 1 b w (by decide) h)
  rwa [show putS (putS (putS 2432696320 10 12 1) 5 5 0) 0 5 0 = 2432697344 from by decide] at this
theorem word_b (w : World) : Calls Try.prog 10 #[.agg #[.int .i64 27, .int .i64 0, .int .i64 30, .int .i64 0, .int .i64 0, .int .i64 0, .int .i64 0]] w fun r w' => r = .returned (.tuple #[.int .u32 3596551104, .int .i64 0]) ∧ Below w.heap.size w w' := by
  have := encw_gen 27 0 30 0 0 0 0 _ 0 w (fun b w h => word_27 0 30 0 0 0 0 b w (by decide) h)
  rwa [show putS 3596550144 5 5 30 = 3596551104 from by decide] at this
set_option maxRecDepth 100000 in
set_option maxHeartbeats 4000000 in
theorem known_c (w : World) : Calls Try.prog 9 #[] w fun e w' => e = .returned (.bool true) ∧ Below w.heap.size w w' := by
  go_enter Try.func9, Try.ntmps9
  go_wp2_with fail
  refine (word_a _).mono ?_
  rintro e w1 ⟨rfl, hb⟩
  have HB1 := Lib.hid hb
  clear hb
  go_wp2_with fail
  refine (word_b _).mono ?_
  rintro e w2 ⟨rfl, hb⟩
  have HB2 := Lib.hid (HB1.out.trans (hb.mono HB1.out.size))
  clear hb
  go_wp2
  go_ret
  exact ⟨rfl, HB2.out⟩
set_option maxRecDepth 100000 in
set_option maxHeartbeats 4000000 in
theorem encwords_gen (op d n m a c i x e op2 v : Int) (w : World) (h10 : ∀ w, Calls Try.prog 10 #[.agg #[.int .i64 op, .int .i64 d, .int .i64 n, .int .i64 m, .int .i64 a, .int .i64 c, .int .i64 i]] w fun r w' => r = .returned (.tuple #[.int .u32 x, .int .i64 e]) ∧ Below w.heap.size w w') (h11 : ∀ w, Calls Try.prog 11 #[.agg #[.int .i64 op, .int .i64 d, .int .i64 n, .int .i64 m, .int .i64 a, .int .i64 c, .int .i64 i]] w fun r w' => r = .returned (.tuple #[.int .u32 x, .int .i64 e]) ∧ Below w.heap.size w w')
    (h12 : ∀ w, Calls Try.prog 12 #[.int .i64 op2] w fun e w' => e = .returned (.int .u32 v) ∧ Below w.heap.size w w') (h13 : ∀ w, Calls Try.prog 13 #[.int .i64 op2] w fun e w' => e = .returned (.int .u32 v) ∧ Below w.heap.size w w') :
    Calls Try.prog 3 #[.agg #[.int .i64 op, .int .i64 d, .int .i64 n, .int .i64 m, .int .i64 a, .int .i64 c, .int .i64 i], .int .i64 op2] w fun r w' => r = .returned (.bool true) ∧ Below w.heap.size w w' := by
  have H10 := Lib.hid h10
  have H11 := Lib.hid h11
  have H12 := Lib.hid h12
  have H13 := Lib.hid h13
  clear h10 h11 h12 h13
  go_enter Try.func3, Try.ntmps3
  go_wp2_with fail
  refine (known_c _).mono ?_
  rintro r w0 ⟨rfl, hb⟩
  have HI0 := Lib.hid ((InsC.new w (.int .i64 op) (.int .i64 d) (.int .i64 n) (.int .i64 m) (.int .i64 a) (.int .i64 c) (.int .i64 i)).below' hb rfl)
  have HB0 : Hid (Below w.heap.size w w0) := Lib.hid (((Below.refl _ _).alloc (Nat.le_refl _) _).trans (hb.mono (by simp)))
  obtain ⟨hl, i0, i1, i2, i3, i4, i5, i6⟩ := HI0.out
  clear hb
  go_wp2_with fail
  refine (H10.out _).mono ?_
  rintro r w1 ⟨rfl, hb⟩
  have HI1 := Lib.hid (HI0.out.below' hb rfl)
  have HB1 := Lib.hid (HB0.out.trans (hb.mono HB0.out.size))
  clear hb hl i0 i1 i2 i3 i4 i5 i6 HI0 HB0
  obtain ⟨hl, i0, i1, i2, i3, i4, i5, i6⟩ := HI1.out
  go_wp2_with fail
  refine (H11.out _).mono ?_
  rintro r w2 ⟨rfl, hb⟩
  have HB2 := Lib.hid (HB1.out.trans (hb.mono HB1.out.size))
  clear hb hl i0 i1 i2 i3 i4 i5 i6 HI1 HB1
  go_wp2_with fail
  refine (H12.out _).mono ?_
  rintro r w3 ⟨rfl, hb⟩
  have HB3 := Lib.hid (HB2.out.trans (hb.mono HB2.out.size))
  clear hb HB2
  go_wp2_with fail
  refine (H13.out _).mono ?_
  rintro r w4 ⟨rfl, hb⟩
  have HB4 := Lib.hid (HB3.out.trans (hb.mono HB3.out.size))
  clear hb HB3
  go_wp2
  go_ret
  exact ⟨rfl, HB4.out⟩
set_option maxRecDepth 100000 in
set_option maxHeartbeats 4000000 in
theorem rcheck_non (op d n m a c i : Int) (w : World) (h : op < 0 ∨ 42 < op) : Calls Try.prog 26 #[.agg #[.int .i64 op, .int .i64 d, .int .i64 n, .int .i64 m, .int .i64 a, .int .i64 c, .int .i64 i]] w fun e w' => e = .returned (.int .i64 1) ∧ Below w.heap.size w w' := by
  rcases h with h | h
  · go_enter Try.func26, Try.ntmps26
    go_wp2
    go_ret
    exact ⟨rfl, (Below.refl _ _).alloc (Nat.le_refl _) _⟩
  · have h0 : ¬ op < 0 := by omega
    go_enter Try.func26, Try.ntmps26
    go_wp2
    go_ret
    exact ⟨rfl, (Below.refl _ _).alloc (Nat.le_refl _) _⟩
set_option maxRecDepth 100000 in
set_option maxHeartbeats 4000000 in
theorem rbase_n (op : Int) (w : World) (h : op < 0 ∨ 42 < op) : Calls Try.prog 13 #[.int .i64 op] w fun e w' => e = .returned (.int .u32 (baseT op)) ∧ Below w.heap.size w w' := by
  have hx : baseT op = 0 := by rw [baseT, if_neg (by omega)]
  rw [hx]
  clear hx
  rcases h with h | h
  · go_enter Try.func13, Try.ntmps13
    go_wp2
    go_ret
    exact ⟨rfl, (Below.refl _ _).alloc (Nat.le_refl _) _⟩
  · have h0 : 0 ≤ op := by omega
    have h1 : ¬ op < 0 := by omega
    have h2 : (43 : Int) ≤ op := by omega
    go_enter Try.func13, Try.ntmps13
    go_wp2
    go_ret
    exact ⟨rfl, (Below.refl _ _).alloc (Nat.le_refl _) _⟩
end Go.Proofs.Ythgpolddbadfmaa
