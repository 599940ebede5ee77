import Derived.Test.YtnbpgoacooddjaaFRdH
namespace Go.Proofs.Ytnbpgoacooddjaa.Fr
open Go.RowKit Go.Shelf
set_option linter.unusedVariables false
attribute [local go_sem] Oper.semAt_some
set_option maxRecDepth 100000 in
set_option maxHeartbeats 2000000 in
theorem fields_5 (w : World) : Calls Try.prog 112 #[.int .i64 5] w fun e w' => e = .returned (.int .i64 35) ∧ w' = w := by
  go_enter Try.func112, Try.ntmps112
  go_wp2
  go_ret
  exact ⟨rfl, rfl⟩
set_option maxRecDepth 100000 in
set_option maxHeartbeats 2000000 in
theorem readsD_5 (w : World) : Calls Try.prog 190 #[.int .i64 5] w fun e w' => e = .returned (.bool false) ∧ w' = w := by
  go_enter Try.func190, Try.ntmps190
  go_wp2
  go_ret
  exact ⟨rfl, rfl⟩
set_option maxRecDepth 100000 in
set_option maxHeartbeats 2000000 in
theorem takesSP_5 (w : World) : Calls Try.prog 206 #[.int .i64 5] w fun e w' => e = .returned (.bool true) ∧ w' = w := by
  go_enter Try.func206, Try.ntmps206
  go_wp2
  go_ret
  exact ⟨rfl, rfl⟩
set_option maxRecDepth 100000 in
set_option maxHeartbeats 2000000 in
theorem memory_5 (w : World) : Calls Try.prog 154 #[.int .i64 5] w fun e w' => e = .returned (.bool false) ∧ w' = w := by
  go_enter Try.func154, Try.ntmps154
  go_wp2
  go_ret
  exact ⟨rfl, rfl⟩
set_option maxRecDepth 100000 in
set_option maxHeartbeats 2000000 in
theorem first_5 (d n m a c i : Int) (w : World) : Calls Try.prog 191 #[.agg #[.int .i64 5, .int .i64 d, .int .i64 n, .int .i64 m, .int .i64 a, .int .i64 c, .int .i64 i]] w fun e w' => e = .returned (.int .i64 (spOr n)) ∧ Below w.heap.size w w' := by
  rcases hb : (n == 31)
  · have hn : n ≠ 31 := by simpa using hb
    go_enter Try.func191, Try.ntmps191
    go_wp2
    go_ret
    exact ⟨by simp [spOr, hn], (Below.refl _ _).alloc (Nat.le_refl _) _⟩
  · have hn : n = 31 := by simpa using hb
    subst hn
    go_enter Try.func191, Try.ntmps191
    go_wp2_with (first | (go_at_call 206; refine (takesSP_5 _).mono ?_; rintro e w' ⟨rfl, rfl⟩) | (go_at_call 154; refine (memory_5 _).mono ?_; rintro e w' ⟨rfl, rfl⟩))
    go_ret
    exact ⟨rfl, (Below.refl _ _).alloc (Nat.le_refl _) _⟩
set_option maxRecDepth 100000 in
set_option maxHeartbeats 2000000 in
theorem read_5 (d n m a c i : Int) (Bi : Nat) (w : World) (h : InsAt w Bi (.int .i64 5) (.int .i64 d) (.int .i64 n) (.int .i64 m) (.int .i64 a) (.int .i64 c) (.int .i64 i)) :
    SeqStopsK Fence.wide 4 Try.prog 189 #[.pointer (some ⟨Bi, 0, none⟩)] (fun x : Int => #[.int .i64 x]) (KpI Bi) (fun xs => xs = [(spOr n)]) (fun _ => True) 6 w := fun l J Jx W hW hJ hJx hY h0 => by
  have HI := Lib.hid (h.below' hW rfl)
  have x2 : bits .and .i64 35 2 = 2 := by decide
  have x4 : bits .and .i64 35 4 = 0 := by decide
  have x8 : bits .and .i64 35 8 = 0 := by decide
  have x16 : bits .and .i64 35 16 = 0 := by decide
  refine callsIn_of_wp Try.func189 rfl trivial ?_ rfl
  simp only [Try.ntmps189, List.size_toArray, List.length_cons, List.length_nil, Nat.reduceAdd, Nat.reduceSub, Array.replicate_succ, Array.replicate_zero, List.push_toArray, List.append_toArray, List.nil_append, List.cons_append]
  obtain ⟨hl, i0, i1, i2, i3, i4, i5, i6⟩ := HI.out
  gi_wp2_with (first | (refine wpListIn_skipW (by rfl) ?_; simp only [Act.put, List.setIfInBounds_toArray, List.set_cons_succ, List.set_cons_zero]) | (refine ⟨trivial, ?_⟩; gi_at_call 112; refine (callsIn_wide.2 (fields_5 _)).mono ?_; rintro e w' ⟨rfl, rfl⟩) | (refine ⟨trivial, ?_⟩; gi_at_call 190; refine (callsIn_wide.2 (readsD_5 _)).mono ?_; rintro e w' ⟨rfl, rfl⟩))
  refine ⟨trivial, ?_⟩
  refine (callsIn_wide.2 (first_5 d n m a c i _)).mono ?_
  rintro e v0 ⟨rfl, hb0⟩
  obtain ⟨f0, t0, a0, b0, hy0, hR0⟩ := hY [] (spOr n) v0 (hJ _ _ _ none h0 (grown_none hb0) (fun r e => by cases e)) (by simp)
  try dsimp only at hy0
  have HV0 := Lib.hid (HI.out.below' hb0 rfl)
  clear hl i0 i1 i2 i3 i4 i5 i6
  obtain ⟨hl, i0, i1, i2, i3, i4, i5, i6⟩ := HV0.out
  gi_wp2_with (first | (refine wpListIn_skipW (by rfl) ?_; simp only [Act.put, List.setIfInBounds_toArray, List.set_cons_succ, List.set_cons_zero]) | (refine ⟨trivial, ?_⟩; gi_at_call 112; refine (callsIn_wide.2 (fields_5 _)).mono ?_; rintro e w' ⟨rfl, rfl⟩) | (refine ⟨trivial, ?_⟩; gi_at_call 190; refine (callsIn_wide.2 (readsD_5 _)).mono ?_; rintro e w' ⟨rfl, rfl⟩))
  refine hR0.mono ?_
  rintro e W0 (⟨rfl, hJ0, hk0⟩ | ⟨rfl, hx0⟩)
  rotate_left
  · gi_wp2_with (refine wpListIn_skipW (by rfl) ?_; simp only [Act.put, List.setIfInBounds_toArray, List.set_cons_succ, List.set_cons_zero])
    go_end0
    exact ⟨⟨_, rfl⟩, .inr ⟨[] ++ [(spOr n)], by first | exact ⟨trivial, hx0⟩ | exact hx0⟩⟩
  have HI0 := Lib.hid (HV0.out.kp hk0)
  clear hl i0 i1 i2 i3 i4 i5 i6
  obtain ⟨hl, i0, i1, i2, i3, i4, i5, i6⟩ := HI0.out
  gi_wp2_with (first | (refine wpListIn_skipW (by rfl) ?_; simp only [Act.put, List.setIfInBounds_toArray, List.set_cons_succ, List.set_cons_zero]) | (refine ⟨trivial, ?_⟩; gi_at_call 112; refine (callsIn_wide.2 (fields_5 _)).mono ?_; rintro e w' ⟨rfl, rfl⟩) | (refine ⟨trivial, ?_⟩; gi_at_call 190; refine (callsIn_wide.2 (readsD_5 _)).mono ?_; rintro e w' ⟨rfl, rfl⟩))
  go_end0
  exact ⟨⟨_, rfl⟩, .inl ⟨_, rfl, hJ0⟩⟩
set_option maxRecDepth 100000 in
set_option maxHeartbeats 2000000 in
theorem fields_11 (w : World) : Calls Try.prog 112 #[.int .i64 11] w fun e w' => e = .returned (.int .i64 7) ∧ w' = w := by
  go_enter Try.func112, Try.ntmps112
  go_wp2
  go_ret
  exact ⟨rfl, rfl⟩
set_option maxRecDepth 100000 in
set_option maxHeartbeats 2000000 in
theorem readsD_11 (w : World) : Calls Try.prog 190 #[.int .i64 11] w fun e w' => e = .returned (.bool false) ∧ w' = w := by
  go_enter Try.func190, Try.ntmps190
  go_wp2
  go_ret
  exact ⟨rfl, rfl⟩
set_option maxRecDepth 100000 in
set_option maxHeartbeats 2000000 in
theorem takesSP_11 (w : World) : Calls Try.prog 206 #[.int .i64 11] w fun e w' => e = .returned (.bool false) ∧ w' = w := by
  go_enter Try.func206, Try.ntmps206
  go_wp2
  go_ret
  exact ⟨rfl, rfl⟩
set_option maxRecDepth 100000 in
set_option maxHeartbeats 2000000 in
theorem memory_11 (w : World) : Calls Try.prog 154 #[.int .i64 11] w fun e w' => e = .returned (.bool false) ∧ w' = w := by
  go_enter Try.func154, Try.ntmps154
  go_wp2
  go_ret
  exact ⟨rfl, rfl⟩
set_option maxRecDepth 100000 in
set_option maxHeartbeats 2000000 in
theorem first_11 (d n m a c i : Int) (w : World) : Calls Try.prog 191 #[.agg #[.int .i64 11, .int .i64 d, .int .i64 n, .int .i64 m, .int .i64 a, .int .i64 c, .int .i64 i]] w fun e w' => e = .returned (.int .i64 n) ∧ Below w.heap.size w w' := by
  rcases hb : (n == 31)
  · have hn : n ≠ 31 := by simpa using hb
    go_enter Try.func191, Try.ntmps191
    go_wp2
    go_ret
    exact ⟨rfl, (Below.refl _ _).alloc (Nat.le_refl _) _⟩
  · have hn : n = 31 := by simpa using hb
    subst hn
    go_enter Try.func191, Try.ntmps191
    go_wp2_with (first | (go_at_call 206; refine (takesSP_11 _).mono ?_; rintro e w' ⟨rfl, rfl⟩) | (go_at_call 154; refine (memory_11 _).mono ?_; rintro e w' ⟨rfl, rfl⟩))
    go_ret
    exact ⟨rfl, (Below.refl _ _).alloc (Nat.le_refl _) _⟩
set_option maxRecDepth 100000 in
set_option maxHeartbeats 2000000 in
theorem read_11 (d n m a c i : Int) (Bi : Nat) (w : World) (h : InsAt w Bi (.int .i64 11) (.int .i64 d) (.int .i64 n) (.int .i64 m) (.int .i64 a) (.int .i64 c) (.int .i64 i)) :
    SeqStopsK Fence.wide 4 Try.prog 189 #[.pointer (some ⟨Bi, 0, none⟩)] (fun x : Int => #[.int .i64 x]) (KpI Bi) (fun xs => xs = [n, m]) (fun _ => True) 6 w := fun l J Jx W hW hJ hJx hY h0 => by
  have HI := Lib.hid (h.below' hW rfl)
  have x2 : bits .and .i64 7 2 = 2 := by decide
  have x4 : bits .and .i64 7 4 = 4 := by decide
  have x8 : bits .and .i64 7 8 = 0 := by decide
  have x16 : bits .and .i64 7 16 = 0 := by decide
  refine callsIn_of_wp Try.func189 rfl trivial ?_ rfl
  simp only [Try.ntmps189, List.size_toArray, List.length_cons, List.length_nil, Nat.reduceAdd, Nat.reduceSub, Array.replicate_succ, Array.replicate_zero, List.push_toArray, List.append_toArray, List.nil_append, List.cons_append]
  obtain ⟨hl, i0, i1, i2, i3, i4, i5, i6⟩ := HI.out
  gi_wp2_with (first | (refine wpListIn_skipW (by rfl) ?_; simp only [Act.put, List.setIfInBounds_toArray, List.set_cons_succ, List.set_cons_zero]) | (refine ⟨trivial, ?_⟩; gi_at_call 112; refine (callsIn_wide.2 (fields_11 _)).mono ?_; rintro e w' ⟨rfl, rfl⟩) | (refine ⟨trivial, ?_⟩; gi_at_call 190; refine (callsIn_wide.2 (readsD_11 _)).mono ?_; rintro e w' ⟨rfl, rfl⟩))
  refine ⟨trivial, ?_⟩
  refine (callsIn_wide.2 (first_11 d n m a c i _)).mono ?_
  rintro e v0 ⟨rfl, hb0⟩
  obtain ⟨f0, t0, a0, b0, hy0, hR0⟩ := hY [] n v0 (hJ _ _ _ none h0 (grown_none hb0) (fun r e => by cases e)) (by simp)
  try dsimp only at hy0
  have HV0 := Lib.hid (HI.out.below' hb0 rfl)
  clear hl i0 i1 i2 i3 i4 i5 i6
  obtain ⟨hl, i0, i1, i2, i3, i4, i5, i6⟩ := HV0.out
  gi_wp2_with (first | (refine wpListIn_skipW (by rfl) ?_; simp only [Act.put, List.setIfInBounds_toArray, List.set_cons_succ, List.set_cons_zero]) | (refine ⟨trivial, ?_⟩; gi_at_call 112; refine (callsIn_wide.2 (fields_11 _)).mono ?_; rintro e w' ⟨rfl, rfl⟩) | (refine ⟨trivial, ?_⟩; gi_at_call 190; refine (callsIn_wide.2 (readsD_11 _)).mono ?_; rintro e w' ⟨rfl, rfl⟩))
  refine hR0.mono ?_
  rintro e W0 (⟨rfl, hJ0, hk0⟩ | ⟨rfl, hx0⟩)
  rotate_left
  · gi_wp2_with (refine wpListIn_skipW (by rfl) ?_; simp only [Act.put, List.setIfInBounds_toArray, List.set_cons_succ, List.set_cons_zero])
    go_end0
    exact ⟨⟨_, rfl⟩, .inr ⟨[] ++ [n], by first | exact ⟨trivial, hx0⟩ | exact hx0⟩⟩
  have HI0 := Lib.hid (HV0.out.kp hk0)
  clear hl i0 i1 i2 i3 i4 i5 i6
  obtain ⟨hl, i0, i1, i2, i3, i4, i5, i6⟩ := HI0.out
  obtain ⟨f1, t1, a1, b1, hy1, hR1⟩ := hY [n] m W0 hJ0 (by simp)
  try dsimp only at hy1
  gi_wp2_with (first | (refine wpListIn_skipW (by rfl) ?_; simp only [Act.put, List.setIfInBounds_toArray, List.set_cons_succ, List.set_cons_zero]) | (refine ⟨trivial, ?_⟩; gi_at_call 112; refine (callsIn_wide.2 (fields_11 _)).mono ?_; rintro e w' ⟨rfl, rfl⟩) | (refine ⟨trivial, ?_⟩; gi_at_call 190; refine (callsIn_wide.2 (readsD_11 _)).mono ?_; rintro e w' ⟨rfl, rfl⟩))
  refine hR1.mono ?_
  rintro e W1 (⟨rfl, hJ1, hk1⟩ | ⟨rfl, hx1⟩)
  rotate_left
  · gi_wp2_with (refine wpListIn_skipW (by rfl) ?_; simp only [Act.put, List.setIfInBounds_toArray, List.set_cons_succ, List.set_cons_zero])
    go_end0
    exact ⟨⟨_, rfl⟩, .inr ⟨[n] ++ [m], by first | exact ⟨trivial, hx1⟩ | exact hx1⟩⟩
  have HI1 := Lib.hid (HI0.out.kp hk1)
  clear hl i0 i1 i2 i3 i4 i5 i6
  obtain ⟨hl, i0, i1, i2, i3, i4, i5, i6⟩ := HI1.out
  gi_wp2_with (first | (refine wpListIn_skipW (by rfl) ?_; simp only [Act.put, List.setIfInBounds_toArray, List.set_cons_succ, List.set_cons_zero]) | (refine ⟨trivial, ?_⟩; gi_at_call 112; refine (callsIn_wide.2 (fields_11 _)).mono ?_; rintro e w' ⟨rfl, rfl⟩) | (refine ⟨trivial, ?_⟩; gi_at_call 190; refine (callsIn_wide.2 (readsD_11 _)).mono ?_; rintro e w' ⟨rfl, rfl⟩))
  go_end0
  exact ⟨⟨_, rfl⟩, .inl ⟨_, rfl, hJ1⟩⟩
set_option maxRecDepth 100000 in
set_option maxHeartbeats 2000000 in
theorem fields_17 (w : World) : Calls Try.prog 112 #[.int .i64 17] w fun e w' => e = .returned (.int .i64 7) ∧ w' = w := by
  go_enter Try.func112, Try.ntmps112
  go_wp2
  go_ret
  exact ⟨rfl, rfl⟩
set_option maxRecDepth 100000 in
set_option maxHeartbeats 2000000 in
theorem readsD_17 (w : World) : Calls Try.prog 190 #[.int .i64 17] w fun e w' => e = .returned (.bool false) ∧ w' = w := by
  go_enter Try.func190, Try.ntmps190
  go_wp2
  go_ret
  exact ⟨rfl, rfl⟩
set_option maxRecDepth 100000 in
set_option maxHeartbeats 2000000 in
theorem takesSP_17 (w : World) : Calls Try.prog 206 #[.int .i64 17] w fun e w' => e = .returned (.bool false) ∧ w' = w := by
  go_enter Try.func206, Try.ntmps206
  go_wp2
  go_ret
  exact ⟨rfl, rfl⟩
set_option maxRecDepth 100000 in
set_option maxHeartbeats 2000000 in
theorem memory_17 (w : World) : Calls Try.prog 154 #[.int .i64 17] w fun e w' => e = .returned (.bool false) ∧ w' = w := by
  go_enter Try.func154, Try.ntmps154
  go_wp2
  go_ret
  exact ⟨rfl, rfl⟩
set_option maxRecDepth 100000 in
set_option maxHeartbeats 2000000 in
theorem first_17 (d n m a c i : Int) (w : World) : Calls Try.prog 191 #[.agg #[.int .i64 17, .int .i64 d, .int .i64 n, .int .i64 m, .int .i64 a, .int .i64 c, .int .i64 i]] w fun e w' => e = .returned (.int .i64 n) ∧ Below w.heap.size w w' := by
  rcases hb : (n == 31)
  · have hn : n ≠ 31 := by simpa using hb
    go_enter Try.func191, Try.ntmps191
    go_wp2
    go_ret
    exact ⟨rfl, (Below.refl _ _).alloc (Nat.le_refl _) _⟩
  · have hn : n = 31 := by simpa using hb
    subst hn
    go_enter Try.func191, Try.ntmps191
    go_wp2_with (first | (go_at_call 206; refine (takesSP_17 _).mono ?_; rintro e w' ⟨rfl, rfl⟩) | (go_at_call 154; refine (memory_17 _).mono ?_; rintro e w' ⟨rfl, rfl⟩))
    go_ret
    exact ⟨rfl, (Below.refl _ _).alloc (Nat.le_refl _) _⟩
set_option maxRecDepth 100000 in
set_option maxHeartbeats 2000000 in
theorem read_17 (d n m a c i : Int) (Bi : Nat) (w : World) (h : InsAt w Bi (.int .i64 17) (.int .i64 d) (.int .i64 n) (.int .i64 m) (.int .i64 a) (.int .i64 c) (.int .i64 i)) :
    SeqStopsK Fence.wide 4 Try.prog 189 #[.pointer (some ⟨Bi, 0, none⟩)] (fun x : Int => #[.int .i64 x]) (KpI Bi) (fun xs => xs = [n, m]) (fun _ => True) 6 w := fun l J Jx W hW hJ hJx hY h0 => by
  have HI := Lib.hid (h.below' hW rfl)
  have x2 : bits .and .i64 7 2 = 2 := by decide
  have x4 : bits .and .i64 7 4 = 4 := by decide
  have x8 : bits .and .i64 7 8 = 0 := by decide
  have x16 : bits .and .i64 7 16 = 0 := by decide
  refine callsIn_of_wp Try.func189 rfl trivial ?_ rfl
  simp only [Try.ntmps189, List.size_toArray, List.length_cons, List.length_nil, Nat.reduceAdd, Nat.reduceSub, Array.replicate_succ, Array.replicate_zero, List.push_toArray, List.append_toArray, List.nil_append, List.cons_append]
  obtain ⟨hl, i0, i1, i2, i3, i4, i5, i6⟩ := HI.out
  gi_wp2_with (first | (refine wpListIn_skipW (by rfl) ?_; simp only [Act.put, List.setIfInBounds_toArray, List.set_cons_succ, List.set_cons_zero]) | (refine ⟨trivial, ?_⟩; gi_at_call 112; refine (callsIn_wide.2 (fields_17 _)).mono ?_; rintro e w' ⟨rfl, rfl⟩) | (refine ⟨trivial, ?_⟩; gi_at_call 190; refine (callsIn_wide.2 (readsD_17 _)).mono ?_; rintro e w' ⟨rfl, rfl⟩))
  refine ⟨trivial, ?_⟩
  refine (callsIn_wide.2 (first_17 d n m a c i _)).mono ?_
  rintro e v0 ⟨rfl, hb0⟩
  obtain ⟨f0, t0, a0, b0, hy0, hR0⟩ := hY [] n v0 (hJ _ _ _ none h0 (grown_none hb0) (fun r e => by cases e)) (by simp)
  try dsimp only at hy0
  have HV0 := Lib.hid (HI.out.below' hb0 rfl)
  clear hl i0 i1 i2 i3 i4 i5 i6
  obtain ⟨hl, i0, i1, i2, i3, i4, i5, i6⟩ := HV0.out
  gi_wp2_with (first | (refine wpListIn_skipW (by rfl) ?_; simp only [Act.put, List.setIfInBounds_toArray, List.set_cons_succ, List.set_cons_zero]) | (refine ⟨trivial, ?_⟩; gi_at_call 112; refine (callsIn_wide.2 (fields_17 _)).mono ?_; rintro e w' ⟨rfl, rfl⟩) | (refine ⟨trivial, ?_⟩; gi_at_call 190; refine (callsIn_wide.2 (readsD_17 _)).mono ?_; rintro e w' ⟨rfl, rfl⟩))
  refine hR0.mono ?_
  rintro e W0 (⟨rfl, hJ0, hk0⟩ | ⟨rfl, hx0⟩)
  rotate_left
  · gi_wp2_with (refine wpListIn_skipW (by rfl) ?_; simp only [Act.put, List.setIfInBounds_toArray, List.set_cons_succ, List.set_cons_zero])
    go_end0
    exact ⟨⟨_, rfl⟩, .inr ⟨[] ++ [n], by first | exact ⟨trivial, hx0⟩ | exact hx0⟩⟩
  have HI0 := Lib.hid (HV0.out.kp hk0)
  clear hl i0 i1 i2 i3 i4 i5 i6
  obtain ⟨hl, i0, i1, i2, i3, i4, i5, i6⟩ := HI0.out
  obtain ⟨f1, t1, a1, b1, hy1, hR1⟩ := hY [n] m W0 hJ0 (by simp)
  try dsimp only at hy1
  gi_wp2_with (first | (refine wpListIn_skipW (by rfl) ?_; simp only [Act.put, List.setIfInBounds_toArray, List.set_cons_succ, List.set_cons_zero]) | (refine ⟨trivial, ?_⟩; gi_at_call 112; refine (callsIn_wide.2 (fields_17 _)).mono ?_; rintro e w' ⟨rfl, rfl⟩) | (refine ⟨trivial, ?_⟩; gi_at_call 190; refine (callsIn_wide.2 (readsD_17 _)).mono ?_; rintro e w' ⟨rfl, rfl⟩))
  refine hR1.mono ?_
  rintro e W1 (⟨rfl, hJ1, hk1⟩ | ⟨rfl, hx1⟩)
  rotate_left
  · gi_wp2_with (refine wpListIn_skipW (by rfl) ?_; simp only [Act.put, List.setIfInBounds_toArray, List.set_cons_succ, List.set_cons_zero])
    go_end0
    exact ⟨⟨_, rfl⟩, .inr ⟨[n] ++ [m], by first | exact ⟨trivial, hx1⟩ | exact hx1⟩⟩
  have HI1 := Lib.hid (HI0.out.kp hk1)
  clear hl i0 i1 i2 i3 i4 i5 i6
  obtain ⟨hl, i0, i1, i2, i3, i4, i5, i6⟩ := HI1.out
  gi_wp2_with (first | (refine wpListIn_skipW (by rfl) ?_; simp only [Act.put, List.setIfInBounds_toArray, List.set_cons_succ, List.set_cons_zero]) | (refine ⟨trivial, ?_⟩; gi_at_call 112; refine (callsIn_wide.2 (fields_17 _)).mono ?_; rintro e w' ⟨rfl, rfl⟩) | (refine ⟨trivial, ?_⟩; gi_at_call 190; refine (callsIn_wide.2 (readsD_17 _)).mono ?_; rintro e w' ⟨rfl, rfl⟩))
  go_end0
  exact ⟨⟨_, rfl⟩, .inl ⟨_, rfl, hJ1⟩⟩
set_option maxRecDepth 100000 in
set_option maxHeartbeats 2000000 in
theorem fields_23 (w : World) : Calls Try.prog 112 #[.int .i64 23] w fun e w' => e = .returned (.int .i64 33) ∧ w' = w := by
  go_enter Try.func112, Try.ntmps112
  go_wp2
  go_ret
  exact ⟨rfl, rfl⟩
set_option maxRecDepth 100000 in
set_option maxHeartbeats 2000000 in
theorem readsD_23 (w : World) : Calls Try.prog 190 #[.int .i64 23] w fun e w' => e = .returned (.bool true) ∧ w' = w := by
  go_enter Try.func190, Try.ntmps190
  go_wp2
  go_ret
  exact ⟨rfl, rfl⟩
set_option maxRecDepth 100000 in
set_option maxHeartbeats 2000000 in
theorem takesSP_23 (w : World) : Calls Try.prog 206 #[.int .i64 23] w fun e w' => e = .returned (.bool false) ∧ w' = w := by
  go_enter Try.func206, Try.ntmps206
  go_wp2
  go_ret
  exact ⟨rfl, rfl⟩
set_option maxRecDepth 100000 in
set_option maxHeartbeats 2000000 in
theorem memory_23 (w : World) : Calls Try.prog 154 #[.int .i64 23] w fun e w' => e = .returned (.bool false) ∧ w' = w := by
  go_enter Try.func154, Try.ntmps154
  go_wp2
  go_ret
  exact ⟨rfl, rfl⟩
set_option maxRecDepth 100000 in
set_option maxHeartbeats 2000000 in
theorem read_23 (d n m a c i : Int) (Bi : Nat) (w : World) (h : InsAt w Bi (.int .i64 23) (.int .i64 d) (.int .i64 n) (.int .i64 m) (.int .i64 a) (.int .i64 c) (.int .i64 i)) :
    SeqStopsK Fence.wide 4 Try.prog 189 #[.pointer (some ⟨Bi, 0, none⟩)] (fun x : Int => #[.int .i64 x]) (KpI Bi) (fun xs => xs = [d]) (fun _ => True) 6 w := fun l J Jx W hW hJ hJx hY h0 => by
  have HI := Lib.hid (h.below' hW rfl)
  have x2 : bits .and .i64 33 2 = 0 := by decide
  have x4 : bits .and .i64 33 4 = 0 := by decide
  have x8 : bits .and .i64 33 8 = 0 := by decide
  have x16 : bits .and .i64 33 16 = 0 := by decide
  refine callsIn_of_wp Try.func189 rfl trivial ?_ rfl
  simp only [Try.ntmps189, List.size_toArray, List.length_cons, List.length_nil, Nat.reduceAdd, Nat.reduceSub, Array.replicate_succ, Array.replicate_zero, List.push_toArray, List.append_toArray, List.nil_append, List.cons_append]
  obtain ⟨hl, i0, i1, i2, i3, i4, i5, i6⟩ := HI.out
  obtain ⟨f0, t0, a0, b0, hy0, hR0⟩ := hY [] d W h0 (by simp)
  try dsimp only at hy0
  gi_wp2_with (first | (refine wpListIn_skipW (by rfl) ?_; simp only [Act.put, List.setIfInBounds_toArray, List.set_cons_succ, List.set_cons_zero]) | (refine ⟨trivial, ?_⟩; gi_at_call 112; refine (callsIn_wide.2 (fields_23 _)).mono ?_; rintro e w' ⟨rfl, rfl⟩) | (refine ⟨trivial, ?_⟩; gi_at_call 190; refine (callsIn_wide.2 (readsD_23 _)).mono ?_; rintro e w' ⟨rfl, rfl⟩))
  refine hR0.mono ?_
  rintro e W0 (⟨rfl, hJ0, hk0⟩ | ⟨rfl, hx0⟩)
  rotate_left
  · gi_wp2_with (refine wpListIn_skipW (by rfl) ?_; simp only [Act.put, List.setIfInBounds_toArray, List.set_cons_succ, List.set_cons_zero])
    go_end0
    exact ⟨⟨_, rfl⟩, .inr ⟨[] ++ [d], by first | exact ⟨trivial, hx0⟩ | exact hx0⟩⟩
  have HI0 := Lib.hid (HI.out.kp hk0)
  clear hl i0 i1 i2 i3 i4 i5 i6
  obtain ⟨hl, i0, i1, i2, i3, i4, i5, i6⟩ := HI0.out
  gi_wp2_with (first | (refine wpListIn_skipW (by rfl) ?_; simp only [Act.put, List.setIfInBounds_toArray, List.set_cons_succ, List.set_cons_zero]) | (refine ⟨trivial, ?_⟩; gi_at_call 112; refine (callsIn_wide.2 (fields_23 _)).mono ?_; rintro e w' ⟨rfl, rfl⟩) | (refine ⟨trivial, ?_⟩; gi_at_call 190; refine (callsIn_wide.2 (readsD_23 _)).mono ?_; rintro e w' ⟨rfl, rfl⟩))
  go_end0
  exact ⟨⟨_, rfl⟩, .inl ⟨_, rfl, hJ0⟩⟩
set_option maxRecDepth 100000 in
set_option maxHeartbeats 2000000 in
theorem fields_29 (w : World) : Calls Try.prog 112 #[.int .i64 29] w fun e w' => e = .returned (.int .i64 35) ∧ w' = w := by
  go_enter Try.func112, Try.ntmps112
  go_wp2
  go_ret
  exact ⟨rfl, rfl⟩
set_option maxRecDepth 100000 in
set_option maxHeartbeats 2000000 in
theorem readsD_29 (w : World) : Calls Try.prog 190 #[.int .i64 29] w fun e w' => e = .returned (.bool true) ∧ w' = w := by
  go_enter Try.func190, Try.ntmps190
  go_wp2
  go_ret
  exact ⟨rfl, rfl⟩
set_option maxRecDepth 100000 in
set_option maxHeartbeats 2000000 in
theorem takesSP_29 (w : World) : Calls Try.prog 206 #[.int .i64 29] w fun e w' => e = .returned (.bool false) ∧ w' = w := by
  go_enter Try.func206, Try.ntmps206
  go_wp2
  go_ret
  exact ⟨rfl, rfl⟩
set_option maxRecDepth 100000 in
set_option maxHeartbeats 2000000 in
theorem memory_29 (w : World) : Calls Try.prog 154 #[.int .i64 29] w fun e w' => e = .returned (.bool true) ∧ w' = w := by
  go_enter Try.func154, Try.ntmps154
  go_wp2
  go_ret
  exact ⟨rfl, rfl⟩
set_option maxRecDepth 100000 in
set_option maxHeartbeats 2000000 in
theorem first_29 (d n m a c i : Int) (w : World) : Calls Try.prog 191 #[.agg #[.int .i64 29, .int .i64 d, .int .i64 n, .int .i64 m, .int .i64 a, .int .i64 c, .int .i64 i]] w fun e w' => e = .returned (.int .i64 (spOr n)) ∧ Below w.heap.size w w' := by
  rcases hb : (n == 31)
  · have hn : n ≠ 31 := by simpa using hb
    go_enter Try.func191, Try.ntmps191
    go_wp2
    go_ret
    exact ⟨by simp [spOr, hn], (Below.refl _ _).alloc (Nat.le_refl _) _⟩
  · have hn : n = 31 := by simpa using hb
    subst hn
    go_enter Try.func191, Try.ntmps191
    go_wp2_with (first | (go_at_call 206; refine (takesSP_29 _).mono ?_; rintro e w' ⟨rfl, rfl⟩) | (go_at_call 154; refine (memory_29 _).mono ?_; rintro e w' ⟨rfl, rfl⟩))
    go_ret
    exact ⟨rfl, (Below.refl _ _).alloc (Nat.le_refl _) _⟩
set_option maxRecDepth 100000 in
set_option maxHeartbeats 2000000 in
theorem read_29 (d n m a c i : Int) (Bi : Nat) (w : World) (h : InsAt w Bi (.int .i64 29) (.int .i64 d) (.int .i64 n) (.int .i64 m) (.int .i64 a) (.int .i64 c) (.int .i64 i)) :
    SeqStopsK Fence.wide 4 Try.prog 189 #[.pointer (some ⟨Bi, 0, none⟩)] (fun x : Int => #[.int .i64 x]) (KpI Bi) (fun xs => xs = [d, (spOr n)]) (fun _ => True) 6 w := fun l J Jx W hW hJ hJx hY h0 => by
  have HI := Lib.hid (h.below' hW rfl)
  have x2 : bits .and .i64 35 2 = 2 := by decide
  have x4 : bits .and .i64 35 4 = 0 := by decide
  have x8 : bits .and .i64 35 8 = 0 := by decide
  have x16 : bits .and .i64 35 16 = 0 := by decide
  refine callsIn_of_wp Try.func189 rfl trivial ?_ rfl
  simp only [Try.ntmps189, List.size_toArray, List.length_cons, List.length_nil, Nat.reduceAdd, Nat.reduceSub, Array.replicate_succ, Array.replicate_zero, List.push_toArray, List.append_toArray, List.nil_append, List.cons_append]
  obtain ⟨hl, i0, i1, i2, i3, i4, i5, i6⟩ := HI.out
  obtain ⟨f0, t0, a0, b0, hy0, hR0⟩ := hY [] d W h0 (by simp)
  try dsimp only at hy0
  gi_wp2_with (first | (refine wpListIn_skipW (by rfl) ?_; simp only [Act.put, List.setIfInBounds_toArray, List.set_cons_succ, List.set_cons_zero]) | (refine ⟨trivial, ?_⟩; gi_at_call 112; refine (callsIn_wide.2 (fields_29 _)).mono ?_; rintro e w' ⟨rfl, rfl⟩) | (refine ⟨trivial, ?_⟩; gi_at_call 190; refine (callsIn_wide.2 (readsD_29 _)).mono ?_; rintro e w' ⟨rfl, rfl⟩))
  refine hR0.mono ?_
  rintro e W0 (⟨rfl, hJ0, hk0⟩ | ⟨rfl, hx0⟩)
  rotate_left
  · gi_wp2_with (refine wpListIn_skipW (by rfl) ?_; simp only [Act.put, List.setIfInBounds_toArray, List.set_cons_succ, List.set_cons_zero])
    go_end0
    exact ⟨⟨_, rfl⟩, .inr ⟨[] ++ [d], by first | exact ⟨trivial, hx0⟩ | exact hx0⟩⟩
  have HI0 := Lib.hid (HI.out.kp hk0)
  clear hl i0 i1 i2 i3 i4 i5 i6
  obtain ⟨hl, i0, i1, i2, i3, i4, i5, i6⟩ := HI0.out
  gi_wp2_with (first | (refine wpListIn_skipW (by rfl) ?_; simp only [Act.put, List.setIfInBounds_toArray, List.set_cons_succ, List.set_cons_zero]) | (refine ⟨trivial, ?_⟩; gi_at_call 112; refine (callsIn_wide.2 (fields_29 _)).mono ?_; rintro e w' ⟨rfl, rfl⟩) | (refine ⟨trivial, ?_⟩; gi_at_call 190; refine (callsIn_wide.2 (readsD_29 _)).mono ?_; rintro e w' ⟨rfl, rfl⟩))
  refine ⟨trivial, ?_⟩
  refine (callsIn_wide.2 (first_29 d n m a c i _)).mono ?_
  rintro e v1 ⟨rfl, hb1⟩
  obtain ⟨f1, t1, a1, b1, hy1, hR1⟩ := hY [d] (spOr n) v1 (hJ _ _ _ none hJ0 (grown_none hb1) (fun r e => by cases e)) (by simp)
  try dsimp only at hy1
  have HV1 := Lib.hid (HI0.out.below' hb1 rfl)
  clear hl i0 i1 i2 i3 i4 i5 i6
  obtain ⟨hl, i0, i1, i2, i3, i4, i5, i6⟩ := HV1.out
  gi_wp2_with (first | (refine wpListIn_skipW (by rfl) ?_; simp only [Act.put, List.setIfInBounds_toArray, List.set_cons_succ, List.set_cons_zero]) | (refine ⟨trivial, ?_⟩; gi_at_call 112; refine (callsIn_wide.2 (fields_29 _)).mono ?_; rintro e w' ⟨rfl, rfl⟩) | (refine ⟨trivial, ?_⟩; gi_at_call 190; refine (callsIn_wide.2 (readsD_29 _)).mono ?_; rintro e w' ⟨rfl, rfl⟩))
  refine hR1.mono ?_
  rintro e W1 (⟨rfl, hJ1, hk1⟩ | ⟨rfl, hx1⟩)
  rotate_left
  · gi_wp2_with (refine wpListIn_skipW (by rfl) ?_; simp only [Act.put, List.setIfInBounds_toArray, List.set_cons_succ, List.set_cons_zero])
    go_end0
    exact ⟨⟨_, rfl⟩, .inr ⟨[d] ++ [(spOr n)], by first | exact ⟨trivial, hx1⟩ | exact hx1⟩⟩
  have HI1 := Lib.hid (HV1.out.kp hk1)
  clear hl i0 i1 i2 i3 i4 i5 i6
  obtain ⟨hl, i0, i1, i2, i3, i4, i5, i6⟩ := HI1.out
  gi_wp2_with (first | (refine wpListIn_skipW (by rfl) ?_; simp only [Act.put, List.setIfInBounds_toArray, List.set_cons_succ, List.set_cons_zero]) | (refine ⟨trivial, ?_⟩; gi_at_call 112; refine (callsIn_wide.2 (fields_29 _)).mono ?_; rintro e w' ⟨rfl, rfl⟩) | (refine ⟨trivial, ?_⟩; gi_at_call 190; refine (callsIn_wide.2 (readsD_29 _)).mono ?_; rintro e w' ⟨rfl, rfl⟩))
  go_end0
  exact ⟨⟨_, rfl⟩, .inl ⟨_, rfl, hJ1⟩⟩
set_option maxRecDepth 100000 in
set_option maxHeartbeats 2000000 in
theorem fields_35 (w : World) : Calls Try.prog 112 #[.int .i64 35] w fun e w' => e = .returned (.int .i64 3) ∧ w' = w := by
  go_enter Try.func112, Try.ntmps112
  go_wp2
  go_ret
  exact ⟨rfl, rfl⟩
set_option maxRecDepth 100000 in
set_option maxHeartbeats 2000000 in
theorem readsD_35 (w : World) : Calls Try.prog 190 #[.int .i64 35] w fun e w' => e = .returned (.bool false) ∧ w' = w := by
  go_enter Try.func190, Try.ntmps190
  go_wp2
  go_ret
  exact ⟨rfl, rfl⟩
set_option maxRecDepth 100000 in
set_option maxHeartbeats 2000000 in
theorem takesSP_35 (w : World) : Calls Try.prog 206 #[.int .i64 35] w fun e w' => e = .returned (.bool false) ∧ w' = w := by
  go_enter Try.func206, Try.ntmps206
  go_wp2
  go_ret
  exact ⟨rfl, rfl⟩
set_option maxRecDepth 100000 in
set_option maxHeartbeats 2000000 in
theorem memory_35 (w : World) : Calls Try.prog 154 #[.int .i64 35] w fun e w' => e = .returned (.bool true) ∧ w' = w := by
  go_enter Try.func154, Try.ntmps154
  go_wp2
  go_ret
  exact ⟨rfl, rfl⟩
set_option maxRecDepth 100000 in
set_option maxHeartbeats 2000000 in
theorem first_35 (d n m a c i : Int) (w : World) : Calls Try.prog 191 #[.agg #[.int .i64 35, .int .i64 d, .int .i64 n, .int .i64 m, .int .i64 a, .int .i64 c, .int .i64 i]] w fun e w' => e = .returned (.int .i64 (spOr n)) ∧ Below w.heap.size w w' := by
  rcases hb : (n == 31)
  · have hn : n ≠ 31 := by simpa using hb
    go_enter Try.func191, Try.ntmps191
    go_wp2
    go_ret
    exact ⟨by simp [spOr, hn], (Below.refl _ _).alloc (Nat.le_refl _) _⟩
  · have hn : n = 31 := by simpa using hb
    subst hn
    go_enter Try.func191, Try.ntmps191
    go_wp2_with (first | (go_at_call 206; refine (takesSP_35 _).mono ?_; rintro e w' ⟨rfl, rfl⟩) | (go_at_call 154; refine (memory_35 _).mono ?_; rintro e w' ⟨rfl, rfl⟩))
    go_ret
    exact ⟨rfl, (Below.refl _ _).alloc (Nat.le_refl _) _⟩
set_option maxRecDepth 100000 in
set_option maxHeartbeats 2000000 in
theorem read_35 (d n m a c i : Int) (Bi : Nat) (w : World) (h : InsAt w Bi (.int .i64 35) (.int .i64 d) (.int .i64 n) (.int .i64 m) (.int .i64 a) (.int .i64 c) (.int .i64 i)) :
    SeqStopsK Fence.wide 4 Try.prog 189 #[.pointer (some ⟨Bi, 0, none⟩)] (fun x : Int => #[.int .i64 x]) (KpI Bi) (fun xs => xs = [(spOr n)]) (fun _ => True) 6 w := fun l J Jx W hW hJ hJx hY h0 => by
  have HI := Lib.hid (h.below' hW rfl)
  have x2 : bits .and .i64 3 2 = 2 := by decide
  have x4 : bits .and .i64 3 4 = 0 := by decide
  have x8 : bits .and .i64 3 8 = 0 := by decide
  have x16 : bits .and .i64 3 16 = 0 := by decide
  refine callsIn_of_wp Try.func189 rfl trivial ?_ rfl
  simp only [Try.ntmps189, List.size_toArray, List.length_cons, List.length_nil, Nat.reduceAdd, Nat.reduceSub, Array.replicate_succ, Array.replicate_zero, List.push_toArray, List.append_toArray, List.nil_append, List.cons_append]
  obtain ⟨hl, i0, i1, i2, i3, i4, i5, i6⟩ := HI.out
  gi_wp2_with (first | (refine wpListIn_skipW (by rfl) ?_; simp only [Act.put, List.setIfInBounds_toArray, List.set_cons_succ, List.set_cons_zero]) | (refine ⟨trivial, ?_⟩; gi_at_call 112; refine (callsIn_wide.2 (fields_35 _)).mono ?_; rintro e w' ⟨rfl, rfl⟩) | (refine ⟨trivial, ?_⟩; gi_at_call 190; refine (callsIn_wide.2 (readsD_35 _)).mono ?_; rintro e w' ⟨rfl, rfl⟩))
  refine ⟨trivial, ?_⟩
  refine (callsIn_wide.2 (first_35 d n m a c i _)).mono ?_
  rintro e v0 ⟨rfl, hb0⟩
  obtain ⟨f0, t0, a0, b0, hy0, hR0⟩ := hY [] (spOr n) v0 (hJ _ _ _ none h0 (grown_none hb0) (fun r e => by cases e)) (by simp)
  try dsimp only at hy0
  have HV0 := Lib.hid (HI.out.below' hb0 rfl)
  clear hl i0 i1 i2 i3 i4 i5 i6
  obtain ⟨hl, i0, i1, i2, i3, i4, i5, i6⟩ := HV0.out
  gi_wp2_with (first | (refine wpListIn_skipW (by rfl) ?_; simp only [Act.put, List.setIfInBounds_toArray, List.set_cons_succ, List.set_cons_zero]) | (refine ⟨trivial, ?_⟩; gi_at_call 112; refine (callsIn_wide.2 (fields_35 _)).mono ?_; rintro e w' ⟨rfl, rfl⟩) | (refine ⟨trivial, ?_⟩; gi_at_call 190; refine (callsIn_wide.2 (readsD_35 _)).mono ?_; rintro e w' ⟨rfl, rfl⟩))
  refine hR0.mono ?_
  rintro e W0 (⟨rfl, hJ0, hk0⟩ | ⟨rfl, hx0⟩)
  rotate_left
  · gi_wp2_with (refine wpListIn_skipW (by rfl) ?_; simp only [Act.put, List.setIfInBounds_toArray, List.set_cons_succ, List.set_cons_zero])
    go_end0
    exact ⟨⟨_, rfl⟩, .inr ⟨[] ++ [(spOr n)], by first | exact ⟨trivial, hx0⟩ | exact hx0⟩⟩
  have HI0 := Lib.hid (HV0.out.kp hk0)
  clear hl i0 i1 i2 i3 i4 i5 i6
  obtain ⟨hl, i0, i1, i2, i3, i4, i5, i6⟩ := HI0.out
  gi_wp2_with (first | (refine wpListIn_skipW (by rfl) ?_; simp only [Act.put, List.setIfInBounds_toArray, List.set_cons_succ, List.set_cons_zero]) | (refine ⟨trivial, ?_⟩; gi_at_call 112; refine (callsIn_wide.2 (fields_35 _)).mono ?_; rintro e w' ⟨rfl, rfl⟩) | (refine ⟨trivial, ?_⟩; gi_at_call 190; refine (callsIn_wide.2 (readsD_35 _)).mono ?_; rintro e w' ⟨rfl, rfl⟩))
  go_end0
  exact ⟨⟨_, rfl⟩, .inl ⟨_, rfl, hJ0⟩⟩
set_option maxRecDepth 100000 in
set_option maxHeartbeats 2000000 in
theorem fields_41 (w : World) : Calls Try.prog 112 #[.int .i64 41] w fun e w' => e = .returned (.int .i64 2) ∧ w' = w := by
  go_enter Try.func112, Try.ntmps112
  go_wp2
  go_ret
  exact ⟨rfl, rfl⟩
set_option maxRecDepth 100000 in
set_option maxHeartbeats 2000000 in
theorem readsD_41 (w : World) : Calls Try.prog 190 #[.int .i64 41] w fun e w' => e = .returned (.bool false) ∧ w' = w := by
  go_enter Try.func190, Try.ntmps190
  go_wp2
  go_ret
  exact ⟨rfl, rfl⟩
set_option maxRecDepth 100000 in
set_option maxHeartbeats 2000000 in
theorem takesSP_41 (w : World) : Calls Try.prog 206 #[.int .i64 41] w fun e w' => e = .returned (.bool false) ∧ w' = w := by
  go_enter Try.func206, Try.ntmps206
  go_wp2
  go_ret
  exact ⟨rfl, rfl⟩
set_option maxRecDepth 100000 in
set_option maxHeartbeats 2000000 in
theorem memory_41 (w : World) : Calls Try.prog 154 #[.int .i64 41] w fun e w' => e = .returned (.bool false) ∧ w' = w := by
  go_enter Try.func154, Try.ntmps154
  go_wp2
  go_ret
  exact ⟨rfl, rfl⟩
set_option maxRecDepth 100000 in
set_option maxHeartbeats 2000000 in
theorem first_41 (d n m a c i : Int) (w : World) : Calls Try.prog 191 #[.agg #[.int .i64 41, .int .i64 d, .int .i64 n, .int .i64 m, .int .i64 a, .int .i64 c, .int .i64 i]] w fun e w' => e = .returned (.int .i64 n) ∧ Below w.heap.size w w' := by
  rcases hb : (n == 31)
  · have hn : n ≠ 31 := by simpa using hb
    go_enter Try.func191, Try.ntmps191
    go_wp2
    go_ret
    exact ⟨rfl, (Below.refl _ _).alloc (Nat.le_refl _) _⟩
  · have hn : n = 31 := by simpa using hb
    subst hn
    go_enter Try.func191, Try.ntmps191
    go_wp2_with (first | (go_at_call 206; refine (takesSP_41 _).mono ?_; rintro e w' ⟨rfl, rfl⟩) | (go_at_call 154; refine (memory_41 _).mono ?_; rintro e w' ⟨rfl, rfl⟩))
    go_ret
    exact ⟨rfl, (Below.refl _ _).alloc (Nat.le_refl _) _⟩
set_option maxRecDepth 100000 in
set_option maxHeartbeats 2000000 in
theorem read_41 (d n m a c i : Int) (Bi : Nat) (w : World) (h : InsAt w Bi (.int .i64 41) (.int .i64 d) (.int .i64 n) (.int .i64 m) (.int .i64 a) (.int .i64 c) (.int .i64 i)) :
    SeqStopsK Fence.wide 4 Try.prog 189 #[.pointer (some ⟨Bi, 0, none⟩)] (fun x : Int => #[.int .i64 x]) (KpI Bi) (fun xs => xs = [n]) (fun _ => True) 6 w := fun l J Jx W hW hJ hJx hY h0 => by
  have HI := Lib.hid (h.below' hW rfl)
  have x2 : bits .and .i64 2 2 = 2 := by decide
  have x4 : bits .and .i64 2 4 = 0 := by decide
  have x8 : bits .and .i64 2 8 = 0 := by decide
  have x16 : bits .and .i64 2 16 = 0 := by decide
  refine callsIn_of_wp Try.func189 rfl trivial ?_ rfl
  simp only [Try.ntmps189, List.size_toArray, List.length_cons, List.length_nil, Nat.reduceAdd, Nat.reduceSub, Array.replicate_succ, Array.replicate_zero, List.push_toArray, List.append_toArray, List.nil_append, List.cons_append]
  obtain ⟨hl, i0, i1, i2, i3, i4, i5, i6⟩ := HI.out
  gi_wp2_with (first | (refine wpListIn_skipW (by rfl) ?_; simp only [Act.put, List.setIfInBounds_toArray, List.set_cons_succ, List.set_cons_zero]) | (refine ⟨trivial, ?_⟩; gi_at_call 112; refine (callsIn_wide.2 (fields_41 _)).mono ?_; rintro e w' ⟨rfl, rfl⟩) | (refine ⟨trivial, ?_⟩; gi_at_call 190; refine (callsIn_wide.2 (readsD_41 _)).mono ?_; rintro e w' ⟨rfl, rfl⟩))
  refine ⟨trivial, ?_⟩
  refine (callsIn_wide.2 (first_41 d n m a c i _)).mono ?_
  rintro e v0 ⟨rfl, hb0⟩
  obtain ⟨f0, t0, a0, b0, hy0, hR0⟩ := hY [] n v0 (hJ _ _ _ none h0 (grown_none hb0) (fun r e => by cases e)) (by simp)
  try dsimp only at hy0
  have HV0 := Lib.hid (HI.out.below' hb0 rfl)
  clear hl i0 i1 i2 i3 i4 i5 i6
  obtain ⟨hl, i0, i1, i2, i3, i4, i5, i6⟩ := HV0.out
  gi_wp2_with (first | (refine wpListIn_skipW (by rfl) ?_; simp only [Act.put, List.setIfInBounds_toArray, List.set_cons_succ, List.set_cons_zero]) | (refine ⟨trivial, ?_⟩; gi_at_call 112; refine (callsIn_wide.2 (fields_41 _)).mono ?_; rintro e w' ⟨rfl, rfl⟩) | (refine ⟨trivial, ?_⟩; gi_at_call 190; refine (callsIn_wide.2 (readsD_41 _)).mono ?_; rintro e w' ⟨rfl, rfl⟩))
  refine hR0.mono ?_
  rintro e W0 (⟨rfl, hJ0, hk0⟩ | ⟨rfl, hx0⟩)
  rotate_left
  · gi_wp2_with (refine wpListIn_skipW (by rfl) ?_; simp only [Act.put, List.setIfInBounds_toArray, List.set_cons_succ, List.set_cons_zero])
    go_end0
    exact ⟨⟨_, rfl⟩, .inr ⟨[] ++ [n], by first | exact ⟨trivial, hx0⟩ | exact hx0⟩⟩
  have HI0 := Lib.hid (HV0.out.kp hk0)
  clear hl i0 i1 i2 i3 i4 i5 i6
  obtain ⟨hl, i0, i1, i2, i3, i4, i5, i6⟩ := HI0.out
  gi_wp2_with (first | (refine wpListIn_skipW (by rfl) ?_; simp only [Act.put, List.setIfInBounds_toArray, List.set_cons_succ, List.set_cons_zero]) | (refine ⟨trivial, ?_⟩; gi_at_call 112; refine (callsIn_wide.2 (fields_41 _)).mono ?_; rintro e w' ⟨rfl, rfl⟩) | (refine ⟨trivial, ?_⟩; gi_at_call 190; refine (callsIn_wide.2 (readsD_41 _)).mono ?_; rintro e w' ⟨rfl, rfl⟩))
  go_end0
  exact ⟨⟨_, rfl⟩, .inl ⟨_, rfl, hJ0⟩⟩
end Go.Proofs.Ytnbpgoacooddjaa.Fr
