import Derived.Test.YthgpolddbadfmaaEx
namespace Go.Proofs.Ythgpolddbadfmaa
open Go.ChangeShapes Go.WideShapes Go.ChangeAt Go.RowKit Go.Maps
set_option linter.unusedVariables false
set_option maxRecDepth 100000 in
set_option maxHeartbeats 4000000 in
theorem unlike_a (op d n m a c i p d2 n2 m2 a2 c2 i2 : Int) (w : World) (h1 : ∀ w, Calls Try.prog 16 #[.agg #[.int .i64 op, .int .i64 d, .int .i64 n, .int .i64 m, .int .i64 a, .int .i64 c, .int .i64 i]] w fun e w' => e = .returned (.int .i64 1) ∧ Below w.heap.size w w') : Calls Try.prog 5 #[.agg #[.int .i64 op, .int .i64 d, .int .i64 n, .int .i64 m, .int .i64 a, .int .i64 c, .int .i64 i], .agg #[.int .i64 p, .int .i64 d2, .int .i64 n2, .int .i64 m2, .int .i64 a2, .int .i64 c2, .int .i64 i2]] w fun r w' => r = .returned (.bool true) ∧ Below w.heap.size w w' := by
  have H1 := Lib.hid h1
  clear h1
  go_enter Try.func5, Try.ntmps5
  go_wp2_with fail
  have HI0 := Lib.hid (InsC.new w (.int .i64 op) (.int .i64 d) (.int .i64 n) (.int .i64 m) (.int .i64 a) (.int .i64 c) (.int .i64 i))
  have HJ0 := Lib.hid (InsC.new (w.alloc (.cells #[.int .i64 op, .int .i64 d, .int .i64 n, .int .i64 m, .int .i64 a, .int .i64 c, .int .i64 i] 23)) (.int .i64 p) (.int .i64 d2) (.int .i64 n2) (.int .i64 m2) (.int .i64 a2) (.int .i64 c2) (.int .i64 i2))
  have HI1 := Lib.hid (HI0.out.below' ((Below.refl _ _).alloc (Nat.le_refl _) (.cells #[.int .i64 p, .int .i64 d2, .int .i64 n2, .int .i64 m2, .int .i64 a2, .int .i64 c2, .int .i64 i2] 23)) rfl)
  refine (known_c _).mono ?_
  rintro e w0 ⟨rfl, hb⟩
  have HI := Lib.hid (HI1.out.below' hb rfl)
  have HJ := Lib.hid (HJ0.out.below' hb rfl)
  rw [World.size_alloc] at HJ
  have HB0 : Hid (Below w.heap.size w w0) := Lib.hid ((((Below.refl _ _).alloc (Nat.le_refl _) _).alloc (by simp) _).trans (hb.mono (by simp; omega)))
  clear hb HI0 HI1 HJ0
  obtain ⟨hl, i0, i1, i2', i3, i4, i5, i6⟩ := HI.out
  obtain ⟨gl, j0, j1, j2, j3, j4, j5, j6⟩ := HJ.out
  go_wp2_with fail
  refine (H1.out _).mono ?_
  rintro e w1 ⟨rfl, hb⟩
  have HI1 := Lib.hid (HI.out.below' hb rfl)
  have HJ1 := Lib.hid (HJ.out.below' hb rfl)
  have HB1 := Lib.hid (HB0.out.trans (hb.mono HB0.out.size))
  clear hb hl i0 i1 i2' i3 i4 i5 i6 gl j0 j1 j2 j3 j4 j5 j6
  obtain ⟨hl, i0, i1, i2', i3, i4, i5, i6⟩ := HI1.out
  obtain ⟨gl, j0, j1, j2, j3, j4, j5, j6⟩ := HJ1.out
  go_wp2
  go_ret
  exact ⟨rfl, HB1.out⟩
set_option maxRecDepth 100000 in
set_option maxHeartbeats 4000000 in
theorem unlike_b (op d n m a c i p d2 n2 m2 a2 c2 i2 : Int) (w : World) (h1 : ∀ w, Calls Try.prog 16 #[.agg #[.int .i64 op, .int .i64 d, .int .i64 n, .int .i64 m, .int .i64 a, .int .i64 c, .int .i64 i]] w fun e w' => e = .returned (.int .i64 0) ∧ Below w.heap.size w w') (h2 : ∀ w, Calls Try.prog 16 #[.agg #[.int .i64 p, .int .i64 d2, .int .i64 n2, .int .i64 m2, .int .i64 a2, .int .i64 c2, .int .i64 i2]] w fun e w' => e = .returned (.int .i64 1) ∧ Below w.heap.size w w') : Calls Try.prog 5 #[.agg #[.int .i64 op, .int .i64 d, .int .i64 n, .int .i64 m, .int .i64 a, .int .i64 c, .int .i64 i], .agg #[.int .i64 p, .int .i64 d2, .int .i64 n2, .int .i64 m2, .int .i64 a2, .int .i64 c2, .int .i64 i2]] w fun r w' => r = .returned (.bool true) ∧ Below w.heap.size w w' := by
  have H1 := Lib.hid h1
  have H2 := Lib.hid h2
  clear h1 h2
  go_enter Try.func5, Try.ntmps5
  go_wp2_with fail
  have HI0 := Lib.hid (InsC.new w (.int .i64 op) (.int .i64 d) (.int .i64 n) (.int .i64 m) (.int .i64 a) (.int .i64 c) (.int .i64 i))
  have HJ0 := Lib.hid (InsC.new (w.alloc (.cells #[.int .i64 op, .int .i64 d, .int .i64 n, .int .i64 m, .int .i64 a, .int .i64 c, .int .i64 i] 23)) (.int .i64 p) (.int .i64 d2) (.int .i64 n2) (.int .i64 m2) (.int .i64 a2) (.int .i64 c2) (.int .i64 i2))
  have HI1 := Lib.hid (HI0.out.below' ((Below.refl _ _).alloc (Nat.le_refl _) (.cells #[.int .i64 p, .int .i64 d2, .int .i64 n2, .int .i64 m2, .int .i64 a2, .int .i64 c2, .int .i64 i2] 23)) rfl)
  refine (known_c _).mono ?_
  rintro e w0 ⟨rfl, hb⟩
  have HI := Lib.hid (HI1.out.below' hb rfl)
  have HJ := Lib.hid (HJ0.out.below' hb rfl)
  rw [World.size_alloc] at HJ
  have HB0 : Hid (Below w.heap.size w w0) := Lib.hid ((((Below.refl _ _).alloc (Nat.le_refl _) _).alloc (by simp) _).trans (hb.mono (by simp; omega)))
  clear hb HI0 HI1 HJ0
  obtain ⟨hl, i0, i1, i2', i3, i4, i5, i6⟩ := HI.out
  obtain ⟨gl, j0, j1, j2, j3, j4, j5, j6⟩ := HJ.out
  go_wp2_with fail
  refine (H1.out _).mono ?_
  rintro e w1 ⟨rfl, hb⟩
  have HI1 := Lib.hid (HI.out.below' hb rfl)
  have HJ1 := Lib.hid (HJ.out.below' hb rfl)
  have HB1 := Lib.hid (HB0.out.trans (hb.mono HB0.out.size))
  clear hb hl i0 i1 i2' i3 i4 i5 i6 gl j0 j1 j2 j3 j4 j5 j6
  obtain ⟨hl, i0, i1, i2', i3, i4, i5, i6⟩ := HI1.out
  obtain ⟨gl, j0, j1, j2, j3, j4, j5, j6⟩ := HJ1.out
  go_wp2_with fail
  refine (H2.out _).mono ?_
  rintro e w2 ⟨rfl, hb⟩
  have HI2 := Lib.hid (HI1.out.below' hb rfl)
  have HJ2 := Lib.hid (HJ1.out.below' hb rfl)
  have HB2 := Lib.hid (HB1.out.trans (hb.mono HB1.out.size))
  clear hb hl i0 i1 i2' i3 i4 i5 i6 gl j0 j1 j2 j3 j4 j5 j6
  obtain ⟨hl, i0, i1, i2', i3, i4, i5, i6⟩ := HI2.out
  obtain ⟨gl, j0, j1, j2, j3, j4, j5, j6⟩ := HJ2.out
  go_wp2
  go_ret
  exact ⟨rfl, HB2.out⟩
set_option maxRecDepth 100000 in
set_option maxHeartbeats 4000000 in
theorem unlike_c (op d n m a c i p d2 n2 m2 a2 c2 i2 : Int) (x y : Int) (w : World) (h1 : ∀ w, Calls Try.prog 16 #[.agg #[.int .i64 op, .int .i64 d, .int .i64 n, .int .i64 m, .int .i64 a, .int .i64 c, .int .i64 i]] w fun e w' => e = .returned (.int .i64 0) ∧ Below w.heap.size w w') (h2 : ∀ w, Calls Try.prog 16 #[.agg #[.int .i64 p, .int .i64 d2, .int .i64 n2, .int .i64 m2, .int .i64 a2, .int .i64 c2, .int .i64 i2]] w fun e w' => e = .returned (.int .i64 0) ∧ Below w.heap.size w w') (h3 : ∀ w, Calls Try.prog 10 #[.agg #[.int .i64 op, .int .i64 d, .int .i64 n, .int .i64 m, .int .i64 a, .int .i64 c, .int .i64 i]] w fun r w' => r = .returned (.tuple #[.int .u32 x, .int .i64 0]) ∧ Below w.heap.size w w') (h4 : ∀ w, Calls Try.prog 10 #[.agg #[.int .i64 p, .int .i64 d2, .int .i64 n2, .int .i64 m2, .int .i64 a2, .int .i64 c2, .int .i64 i2]] w fun r w' => r = .returned (.tuple #[.int .u32 y, .int .i64 0]) ∧ Below w.heap.size w w') (hxy : (x == y) = false) (hij : ¬ (op = p ∧ d = d2 ∧ n = n2 ∧ m = m2 ∧ a = a2 ∧ c = c2 ∧ i = i2)) : Calls Try.prog 5 #[.agg #[.int .i64 op, .int .i64 d, .int .i64 n, .int .i64 m, .int .i64 a, .int .i64 c, .int .i64 i], .agg #[.int .i64 p, .int .i64 d2, .int .i64 n2, .int .i64 m2, .int .i64 a2, .int .i64 c2, .int .i64 i2]] w fun r w' => r = .returned (.bool true) ∧ Below w.heap.size w w' := by
  have H1 := Lib.hid h1
  have H2 := Lib.hid h2
  have H3 := Lib.hid h3
  have H4 := Lib.hid h4
  have HNE := Lib.hid hij
  clear h1 h2 h3 h4 hij
  go_enter Try.func5, Try.ntmps5
  go_wp2_with fail
  have HI0 := Lib.hid (InsC.new w (.int .i64 op) (.int .i64 d) (.int .i64 n) (.int .i64 m) (.int .i64 a) (.int .i64 c) (.int .i64 i))
  have HJ0 := Lib.hid (InsC.new (w.alloc (.cells #[.int .i64 op, .int .i64 d, .int .i64 n, .int .i64 m, .int .i64 a, .int .i64 c, .int .i64 i] 23)) (.int .i64 p) (.int .i64 d2) (.int .i64 n2) (.int .i64 m2) (.int .i64 a2) (.int .i64 c2) (.int .i64 i2))
  have HI1 := Lib.hid (HI0.out.below' ((Below.refl _ _).alloc (Nat.le_refl _) (.cells #[.int .i64 p, .int .i64 d2, .int .i64 n2, .int .i64 m2, .int .i64 a2, .int .i64 c2, .int .i64 i2] 23)) rfl)
  refine (known_c _).mono ?_
  rintro e w0 ⟨rfl, hb⟩
  have HI := Lib.hid (HI1.out.below' hb rfl)
  have HJ := Lib.hid (HJ0.out.below' hb rfl)
  rw [World.size_alloc] at HJ
  have HB0 : Hid (Below w.heap.size w w0) := Lib.hid ((((Below.refl _ _).alloc (Nat.le_refl _) _).alloc (by simp) _).trans (hb.mono (by simp; omega)))
  clear hb HI0 HI1 HJ0
  obtain ⟨hl, i0, i1, i2', i3, i4, i5, i6⟩ := HI.out
  obtain ⟨gl, j0, j1, j2, j3, j4, j5, j6⟩ := HJ.out
  go_wp2_with fail
  refine (H1.out _).mono ?_
  rintro e w1 ⟨rfl, hb⟩
  have HI1 := Lib.hid (HI.out.below' hb rfl)
  have HJ1 := Lib.hid (HJ.out.below' hb rfl)
  have HB1 := Lib.hid (HB0.out.trans (hb.mono HB0.out.size))
  clear hb hl i0 i1 i2' i3 i4 i5 i6 gl j0 j1 j2 j3 j4 j5 j6
  obtain ⟨hl, i0, i1, i2', i3, i4, i5, i6⟩ := HI1.out
  obtain ⟨gl, j0, j1, j2, j3, j4, j5, j6⟩ := HJ1.out
  go_wp2_with fail
  refine (H2.out _).mono ?_
  rintro e w2 ⟨rfl, hb⟩
  have HI2 := Lib.hid (HI1.out.below' hb rfl)
  have HJ2 := Lib.hid (HJ1.out.below' hb rfl)
  have HB2 := Lib.hid (HB1.out.trans (hb.mono HB1.out.size))
  clear hb hl i0 i1 i2' i3 i4 i5 i6 gl j0 j1 j2 j3 j4 j5 j6
  obtain ⟨hl, i0, i1, i2', i3, i4, i5, i6⟩ := HI2.out
  obtain ⟨gl, j0, j1, j2, j3, j4, j5, j6⟩ := HJ2.out
  go_wp2_with fail
  refine (H3.out _).mono ?_
  rintro e w3 ⟨rfl, hb⟩
  have HI3 := Lib.hid (HI2.out.below' hb rfl)
  have HJ3 := Lib.hid (HJ2.out.below' hb rfl)
  have HB3 := Lib.hid (HB2.out.trans (hb.mono HB2.out.size))
  clear hb hl i0 i1 i2' i3 i4 i5 i6 gl j0 j1 j2 j3 j4 j5 j6
  obtain ⟨hl, i0, i1, i2', i3, i4, i5, i6⟩ := HI3.out
  obtain ⟨gl, j0, j1, j2, j3, j4, j5, j6⟩ := HJ3.out
  go_wp2_with fail
  refine (H4.out _).mono ?_
  rintro e w4 ⟨rfl, hb⟩
  have HI4 := Lib.hid (HI3.out.below' hb rfl)
  have HJ4 := Lib.hid (HJ3.out.below' hb rfl)
  have HB4 := Lib.hid (HB3.out.trans (hb.mono HB3.out.size))
  clear hb hl i0 i1 i2' i3 i4 i5 i6 gl j0 j1 j2 j3 j4 j5 j6
  obtain ⟨hl, i0, i1, i2', i3, i4, i5, i6⟩ := HI4.out
  obtain ⟨gl, j0, j1, j2, j3, j4, j5, j6⟩ := HJ4.out
  go_wp2
  all_goals
    first
      | (exfalso; have := HNE.out; omega)
      | (go_ret; exact ⟨rfl, HB4.out⟩)
set_option maxRecDepth 100000 in
set_option maxHeartbeats 4000000 in
theorem unlike_d (op d n m a c i x : Int) (w : World) (h1 : ∀ w, Calls Try.prog 16 #[.agg #[.int .i64 op, .int .i64 d, .int .i64 n, .int .i64 m, .int .i64 a, .int .i64 c, .int .i64 i]] w fun e w' => e = .returned (.int .i64 0) ∧ Below w.heap.size w w') (h3 : ∀ w, Calls Try.prog 10 #[.agg #[.int .i64 op, .int .i64 d, .int .i64 n, .int .i64 m, .int .i64 a, .int .i64 c, .int .i64 i]] w fun r w' => r = .returned (.tuple #[.int .u32 x, .int .i64 0]) ∧ Below w.heap.size w w') : Calls Try.prog 5 #[.agg #[.int .i64 op, .int .i64 d, .int .i64 n, .int .i64 m, .int .i64 a, .int .i64 c, .int .i64 i], .agg #[.int .i64 op, .int .i64 d, .int .i64 n, .int .i64 m, .int .i64 a, .int .i64 c, .int .i64 i]] w fun r w' => r = .returned (.bool true) ∧ Below w.heap.size w w' := by
  have H1 := Lib.hid h1
  have H3 := Lib.hid h3
  clear h1 h3
  go_enter Try.func5, Try.ntmps5
  go_wp2_with fail
  have HI0 := Lib.hid (InsC.new w (.int .i64 op) (.int .i64 d) (.int .i64 n) (.int .i64 m) (.int .i64 a) (.int .i64 c) (.int .i64 i))
  have HJ0 := Lib.hid (InsC.new (w.alloc (.cells #[.int .i64 op, .int .i64 d, .int .i64 n, .int .i64 m, .int .i64 a, .int .i64 c, .int .i64 i] 23)) (.int .i64 op) (.int .i64 d) (.int .i64 n) (.int .i64 m) (.int .i64 a) (.int .i64 c) (.int .i64 i))
  have HI1 := Lib.hid (HI0.out.below' ((Below.refl _ _).alloc (Nat.le_refl _) (.cells #[.int .i64 op, .int .i64 d, .int .i64 n, .int .i64 m, .int .i64 a, .int .i64 c, .int .i64 i] 23)) rfl)
  refine (known_c _).mono ?_
  rintro e w0 ⟨rfl, hb⟩
  have HI := Lib.hid (HI1.out.below' hb rfl)
  have HJ := Lib.hid (HJ0.out.below' hb rfl)
  rw [World.size_alloc] at HJ
  have HB0 : Hid (Below w.heap.size w w0) := Lib.hid ((((Below.refl _ _).alloc (Nat.le_refl _) _).alloc (by simp) _).trans (hb.mono (by simp; omega)))
  clear hb HI0 HI1 HJ0
  obtain ⟨hl, i0, i1, i2', i3, i4, i5, i6⟩ := HI.out
  obtain ⟨gl, j0, j1, j2, j3, j4, j5, j6⟩ := HJ.out
  go_wp2_with fail
  refine (H1.out _).mono ?_
  rintro e w1 ⟨rfl, hb⟩
  have HI1 := Lib.hid (HI.out.below' hb rfl)
  have HJ1 := Lib.hid (HJ.out.below' hb rfl)
  have HB1 := Lib.hid (HB0.out.trans (hb.mono HB0.out.size))
  clear hb hl i0 i1 i2' i3 i4 i5 i6 gl j0 j1 j2 j3 j4 j5 j6
  obtain ⟨hl, i0, i1, i2', i3, i4, i5, i6⟩ := HI1.out
  obtain ⟨gl, j0, j1, j2, j3, j4, j5, j6⟩ := HJ1.out
  go_wp2_with fail
  refine (H1.out _).mono ?_
  rintro e w2 ⟨rfl, hb⟩
  have HI2 := Lib.hid (HI1.out.below' hb rfl)
  have HJ2 := Lib.hid (HJ1.out.below' hb rfl)
  have HB2 := Lib.hid (HB1.out.trans (hb.mono HB1.out.size))
  clear hb hl i0 i1 i2' i3 i4 i5 i6 gl j0 j1 j2 j3 j4 j5 j6
  obtain ⟨hl, i0, i1, i2', i3, i4, i5, i6⟩ := HI2.out
  obtain ⟨gl, j0, j1, j2, j3, j4, j5, j6⟩ := HJ2.out
  go_wp2_with fail
  refine (H3.out _).mono ?_
  rintro e w3 ⟨rfl, hb⟩
  have HI3 := Lib.hid (HI2.out.below' hb rfl)
  have HJ3 := Lib.hid (HJ2.out.below' hb rfl)
  have HB3 := Lib.hid (HB2.out.trans (hb.mono HB2.out.size))
  clear hb hl i0 i1 i2' i3 i4 i5 i6 gl j0 j1 j2 j3 j4 j5 j6
  obtain ⟨hl, i0, i1, i2', i3, i4, i5, i6⟩ := HI3.out
  obtain ⟨gl, j0, j1, j2, j3, j4, j5, j6⟩ := HJ3.out
  go_wp2_with fail
  refine (H3.out _).mono ?_
  rintro e w4 ⟨rfl, hb⟩
  have HI4 := Lib.hid (HI3.out.below' hb rfl)
  have HJ4 := Lib.hid (HJ3.out.below' hb rfl)
  have HB4 := Lib.hid (HB3.out.trans (hb.mono HB3.out.size))
  clear hb hl i0 i1 i2' i3 i4 i5 i6 gl j0 j1 j2 j3 j4 j5 j6
  obtain ⟨hl, i0, i1, i2', i3, i4, i5, i6⟩ := HI4.out
  obtain ⟨gl, j0, j1, j2, j3, j4, j5, j6⟩ := HJ4.out
  go_wp2
  go_ret
  exact ⟨rfl, HB4.out⟩
end Go.Proofs.Ythgpolddbadfmaa
