import Derived.Test.YtnbpgoacooddjaaFRdH
namespace Go.Proofs.Ytnbpgoacooddjaa.Fr
open Go.RowKit Go.Shelf
set_option linter.unusedVariables false
attribute [local go_sem] Oper.semAt_some
set_option maxRecDepth 100000 in
set_option maxHeartbeats 2000000 in
theorem fields_0 (w : World) : Calls Try.prog 112 #[.int .i64 0] w fun e w' => e = .returned (.int .i64 32) ∧ w' = w := by
  go_enter Try.func112, Try.ntmps112
  go_wp2
  go_ret
  exact ⟨rfl, rfl⟩
set_option maxRecDepth 100000 in
set_option maxHeartbeats 2000000 in
theorem readsD_0 (w : World) : Calls Try.prog 190 #[.int .i64 0] w fun e w' => e = .returned (.bool false) ∧ w' = w := by
  go_enter Try.func190, Try.ntmps190
  go_wp2
  go_ret
  exact ⟨rfl, rfl⟩
set_option maxRecDepth 100000 in
set_option maxHeartbeats 2000000 in
theorem takesSP_0 (w : World) : Calls Try.prog 206 #[.int .i64 0] w fun e w' => e = .returned (.bool false) ∧ w' = w := by
  go_enter Try.func206, Try.ntmps206
  go_wp2
  go_ret
  exact ⟨rfl, rfl⟩
set_option maxRecDepth 100000 in
set_option maxHeartbeats 2000000 in
theorem memory_0 (w : World) : Calls Try.prog 154 #[.int .i64 0] w fun e w' => e = .returned (.bool false) ∧ w' = w := by
  go_enter Try.func154, Try.ntmps154
  go_wp2
  go_ret
  exact ⟨rfl, rfl⟩
set_option maxRecDepth 100000 in
set_option maxHeartbeats 2000000 in
theorem read_0 (d n m a c i : Int) (Bi : Nat) (w : World) (h : InsAt w Bi (.int .i64 0) (.int .i64 d) (.int .i64 n) (.int .i64 m) (.int .i64 a) (.int .i64 c) (.int .i64 i)) :
    SeqStopsK Fence.wide 4 Try.prog 189 #[.pointer (some ⟨Bi, 0, none⟩)] (fun x : Int => #[.int .i64 x]) (KpI Bi) (fun xs => xs = []) (fun _ => True) 6 w := fun l J Jx W hW hJ hJx hY h0 => by
  have HI := Lib.hid (h.below' hW rfl)
  have x2 : bits .and .i64 32 2 = 0 := by decide
  have x4 : bits .and .i64 32 4 = 0 := by decide
  have x8 : bits .and .i64 32 8 = 0 := by decide
  have x16 : bits .and .i64 32 16 = 0 := by decide
  refine callsIn_of_wp Try.func189 rfl trivial ?_ rfl
  simp only [Try.ntmps189, List.size_toArray, List.length_cons, List.length_nil, Nat.reduceAdd, Nat.reduceSub, Array.replicate_succ, Array.replicate_zero, List.push_toArray, List.append_toArray, List.nil_append, List.cons_append]
  obtain ⟨hl, i0, i1, i2, i3, i4, i5, i6⟩ := HI.out
  gi_wp2_with (first | (refine wpListIn_skipW (by rfl) ?_; simp only [Act.put, List.setIfInBounds_toArray, List.set_cons_succ, List.set_cons_zero]) | (refine ⟨trivial, ?_⟩; gi_at_call 112; refine (callsIn_wide.2 (fields_0 _)).mono ?_; rintro e w' ⟨rfl, rfl⟩) | (refine ⟨trivial, ?_⟩; gi_at_call 190; refine (callsIn_wide.2 (readsD_0 _)).mono ?_; rintro e w' ⟨rfl, rfl⟩))
  go_end0
  exact ⟨⟨_, rfl⟩, .inl ⟨_, rfl, h0⟩⟩
set_option maxRecDepth 100000 in
set_option maxHeartbeats 2000000 in
theorem fields_6 (w : World) : Calls Try.prog 112 #[.int .i64 6] w fun e w' => e = .returned (.int .i64 35) ∧ w' = w := by
  go_enter Try.func112, Try.ntmps112
  go_wp2
  go_ret
  exact ⟨rfl, rfl⟩
set_option maxRecDepth 100000 in
set_option maxHeartbeats 2000000 in
theorem readsD_6 (w : World) : Calls Try.prog 190 #[.int .i64 6] w fun e w' => e = .returned (.bool false) ∧ w' = w := by
  go_enter Try.func190, Try.ntmps190
  go_wp2
  go_ret
  exact ⟨rfl, rfl⟩
set_option maxRecDepth 100000 in
set_option maxHeartbeats 2000000 in
theorem takesSP_6 (w : World) : Calls Try.prog 206 #[.int .i64 6] w fun e w' => e = .returned (.bool false) ∧ w' = w := by
  go_enter Try.func206, Try.ntmps206
  go_wp2
  go_ret
  exact ⟨rfl, rfl⟩
set_option maxRecDepth 100000 in
set_option maxHeartbeats 2000000 in
theorem memory_6 (w : World) : Calls Try.prog 154 #[.int .i64 6] w fun e w' => e = .returned (.bool false) ∧ w' = w := by
  go_enter Try.func154, Try.ntmps154
  go_wp2
  go_ret
  exact ⟨rfl, rfl⟩
set_option maxRecDepth 100000 in
set_option maxHeartbeats 2000000 in
theorem first_6 (d n m a c i : Int) (w : World) : Calls Try.prog 191 #[.agg #[.int .i64 6, .int .i64 d, .int .i64 n, .int .i64 m, .int .i64 a, .int .i64 c, .int .i64 i]] w fun e w' => e = .returned (.int .i64 (spOr n)) ∧ Below w.heap.size w w' := by
  rcases hb : (n == 31)
  · have hn : n ≠ 31 := by simpa using hb
    go_enter Try.func191, Try.ntmps191
    go_wp2
    go_ret
    exact ⟨by simp [spOr, hn], (Below.refl _ _).alloc (Nat.le_refl _) _⟩
  · have hn : n = 31 := by simpa using hb
    subst hn
    go_enter Try.func191, Try.ntmps191
    go_wp2_with (first | (go_at_call 206; refine (takesSP_6 _).mono ?_; rintro e w' ⟨rfl, rfl⟩) | (go_at_call 154; refine (memory_6 _).mono ?_; rintro e w' ⟨rfl, rfl⟩))
    go_ret
    exact ⟨rfl, (Below.refl _ _).alloc (Nat.le_refl _) _⟩
set_option maxRecDepth 100000 in
set_option maxHeartbeats 2000000 in
theorem read_6 (d n m a c i : Int) (Bi : Nat) (w : World) (h : InsAt w Bi (.int .i64 6) (.int .i64 d) (.int .i64 n) (.int .i64 m) (.int .i64 a) (.int .i64 c) (.int .i64 i)) :
    SeqStopsK Fence.wide 4 Try.prog 189 #[.pointer (some ⟨Bi, 0, none⟩)] (fun x : Int => #[.int .i64 x]) (KpI Bi) (fun xs => xs = [(spOr n)]) (fun _ => True) 6 w := fun l J Jx W hW hJ hJx hY h0 => by
  have HI := Lib.hid (h.below' hW rfl)
  have x2 : bits .and .i64 35 2 = 2 := by decide
  have x4 : bits .and .i64 35 4 = 0 := by decide
  have x8 : bits .and .i64 35 8 = 0 := by decide
  have x16 : bits .and .i64 35 16 = 0 := by decide
  refine callsIn_of_wp Try.func189 rfl trivial ?_ rfl
  simp only [Try.ntmps189, List.size_toArray, List.length_cons, List.length_nil, Nat.reduceAdd, Nat.reduceSub, Array.replicate_succ, Array.replicate_zero, List.push_toArray, List.append_toArray, List.nil_append, List.cons_append]
  obtain ⟨hl, i0, i1, i2, i3, i4, i5, i6⟩ := HI.out
  gi_wp2_with (first | (refine wpListIn_skipW (by rfl) ?_; simp only [Act.put, List.setIfInBounds_toArray, List.set_cons_succ, List.set_cons_zero]) | (refine ⟨trivial, ?_⟩; gi_at_call 112; refine (callsIn_wide.2 (fields_6 _)).mono ?_; rintro e w' ⟨rfl, rfl⟩) | (refine ⟨trivial, ?_⟩; gi_at_call 190; refine (callsIn_wide.2 (readsD_6 _)).mono ?_; rintro e w' ⟨rfl, rfl⟩))
  refine ⟨trivial, ?_⟩
  refine (callsIn_wide.2 (first_6 d n m a c i _)).mono ?_
  rintro e v0 ⟨rfl, hb0⟩
  obtain ⟨f0, t0, a0, b0, hy0, hR0⟩ := hY [] (spOr n) v0 (hJ _ _ _ none h0 (grown_none hb0) (fun r e => by cases e)) (by simp)
  try dsimp only at hy0
  have HV0 := Lib.hid (HI.out.below' hb0 rfl)
  clear hl i0 i1 i2 i3 i4 i5 i6
  obtain ⟨hl, i0, i1, i2, i3, i4, i5, i6⟩ := HV0.out
  gi_wp2_with (first | (refine wpListIn_skipW (by rfl) ?_; simp only [Act.put, List.setIfInBounds_toArray, List.set_cons_succ, List.set_cons_zero]) | (refine ⟨trivial, ?_⟩; gi_at_call 112; refine (callsIn_wide.2 (fields_6 _)).mono ?_; rintro e w' ⟨rfl, rfl⟩) | (refine ⟨trivial, ?_⟩; gi_at_call 190; refine (callsIn_wide.2 (readsD_6 _)).mono ?_; rintro e w' ⟨rfl, rfl⟩))
  refine hR0.mono ?_
  rintro e W0 (⟨rfl, hJ0, hk0⟩ | ⟨rfl, hx0⟩)
  rotate_left
  · gi_wp2_with (refine wpListIn_skipW (by rfl) ?_; simp only [Act.put, List.setIfInBounds_toArray, List.set_cons_succ, List.set_cons_zero])
    go_end0
    exact ⟨⟨_, rfl⟩, .inr ⟨[] ++ [(spOr n)], by first | exact ⟨trivial, hx0⟩ | exact hx0⟩⟩
  have HI0 := Lib.hid (HV0.out.kp hk0)
  clear hl i0 i1 i2 i3 i4 i5 i6
  obtain ⟨hl, i0, i1, i2, i3, i4, i5, i6⟩ := HI0.out
  gi_wp2_with (first | (refine wpListIn_skipW (by rfl) ?_; simp only [Act.put, List.setIfInBounds_toArray, List.set_cons_succ, List.set_cons_zero]) | (refine ⟨trivial, ?_⟩; gi_at_call 112; refine (callsIn_wide.2 (fields_6 _)).mono ?_; rintro e w' ⟨rfl, rfl⟩) | (refine ⟨trivial, ?_⟩; gi_at_call 190; refine (callsIn_wide.2 (readsD_6 _)).mono ?_; rintro e w' ⟨rfl, rfl⟩))
  go_end0
  exact ⟨⟨_, rfl⟩, .inl ⟨_, rfl, hJ0⟩⟩
set_option maxRecDepth 100000 in
set_option maxHeartbeats 2000000 in
theorem fields_12 (w : World) : Calls Try.prog 112 #[.int .i64 12] w fun e w' => e = .returned (.int .i64 7) ∧ w' = w := by
  go_enter Try.func112, Try.ntmps112
  go_wp2
  go_ret
  exact ⟨rfl, rfl⟩
set_option maxRecDepth 100000 in
set_option maxHeartbeats 2000000 in
theorem readsD_12 (w : World) : Calls Try.prog 190 #[.int .i64 12] w fun e w' => e = .returned (.bool false) ∧ w' = w := by
  go_enter Try.func190, Try.ntmps190
  go_wp2
  go_ret
  exact ⟨rfl, rfl⟩
set_option maxRecDepth 100000 in
set_option maxHeartbeats 2000000 in
theorem takesSP_12 (w : World) : Calls Try.prog 206 #[.int .i64 12] w fun e w' => e = .returned (.bool false) ∧ w' = w := by
  go_enter Try.func206, Try.ntmps206
  go_wp2
  go_ret
  exact ⟨rfl, rfl⟩
set_option maxRecDepth 100000 in
set_option maxHeartbeats 2000000 in
theorem memory_12 (w : World) : Calls Try.prog 154 #[.int .i64 12] w fun e w' => e = .returned (.bool false) ∧ w' = w := by
  go_enter Try.func154, Try.ntmps154
  go_wp2
  go_ret
  exact ⟨rfl, rfl⟩
set_option maxRecDepth 100000 in
set_option maxHeartbeats 2000000 in
theorem first_12 (d n m a c i : Int) (w : World) : Calls Try.prog 191 #[.agg #[.int .i64 12, .int .i64 d, .int .i64 n, .int .i64 m, .int .i64 a, .int .i64 c, .int .i64 i]] w fun e w' => e = .returned (.int .i64 n) ∧ Below w.heap.size w w' := by
  rcases hb : (n == 31)
  · have hn : n ≠ 31 := by simpa using hb
    go_enter Try.func191, Try.ntmps191
    go_wp2
    go_ret
    exact ⟨rfl, (Below.refl _ _).alloc (Nat.le_refl _) _⟩
  · have hn : n = 31 := by simpa using hb
    subst hn
    go_enter Try.func191, Try.ntmps191
    go_wp2_with (first | (go_at_call 206; refine (takesSP_12 _).mono ?_; rintro e w' ⟨rfl, rfl⟩) | (go_at_call 154; refine (memory_12 _).mono ?_; rintro e w' ⟨rfl, rfl⟩))
    go_ret
    exact ⟨rfl, (Below.refl _ _).alloc (Nat.le_refl _) _⟩
set_option maxRecDepth 100000 in
set_option maxHeartbeats 2000000 in
theorem read_12 (d n m a c i : Int) (Bi : Nat) (w : World) (h : InsAt w Bi (.int .i64 12) (.int .i64 d) (.int .i64 n) (.int .i64 m) (.int .i64 a) (.int .i64 c) (.int .i64 i)) :
    SeqStopsK Fence.wide 4 Try.prog 189 #[.pointer (some ⟨Bi, 0, none⟩)] (fun x : Int => #[.int .i64 x]) (KpI Bi) (fun xs => xs = [n, m]) (fun _ => True) 6 w := fun l J Jx W hW hJ hJx hY h0 => by
  have HI := Lib.hid (h.below' hW rfl)
  have x2 : bits .and .i64 7 2 = 2 := by decide
  have x4 : bits .and .i64 7 4 = 4 := by decide
  have x8 : bits .and .i64 7 8 = 0 := by decide
  have x16 : bits .and .i64 7 16 = 0 := by decide
  refine callsIn_of_wp Try.func189 rfl trivial ?_ rfl
  simp only [Try.ntmps189, List.size_toArray, List.length_cons, List.length_nil, Nat.reduceAdd, Nat.reduceSub, Array.replicate_succ, Array.replicate_zero, List.push_toArray, List.append_toArray, List.nil_append, List.cons_append]
  obtain ⟨hl, i0, i1, i2, i3, i4, i5, i6⟩ := HI.out
  gi_wp2_with (first | (refine wpListIn_skipW (by rfl) ?_; simp only [Act.put, List.setIfInBounds_toArray, List.set_cons_succ, List.set_cons_zero]) | (refine ⟨trivial, ?_⟩; gi_at_call 112; refine (callsIn_wide.2 (fields_12 _)).mono ?_; rintro e w' ⟨rfl, rfl⟩) | (refine ⟨trivial, ?_⟩; gi_at_call 190; refine (callsIn_wide.2 (readsD_12 _)).mono ?_; rintro e w' ⟨rfl, rfl⟩))
  refine ⟨trivial, ?_⟩
  refine (callsIn_wide.2 (first_12 d n m a c i _)).mono ?_
  rintro e v0 ⟨rfl, hb0⟩
  obtain ⟨f0, t0, a0, b0, hy0, hR0⟩ := hY [] n v0 (hJ _ _ _ none h0 (grown_none hb0) (fun r e => by cases e)) (by simp)
  try dsimp only at hy0
  have HV0 := Lib.hid (HI.out.below' hb0 rfl)
  clear hl i0 i1 i2 i3 i4 i5 i6
  obtain ⟨hl, i0, i1, i2, i3, i4, i5, i6⟩ := HV0.out
  gi_wp2_with (first | (refine wpListIn_skipW (by rfl) ?_; simp only [Act.put, List.setIfInBounds_toArray, List.set_cons_succ, List.set_cons_zero]) | (refine ⟨trivial, ?_⟩; gi_at_call 112; refine (callsIn_wide.2 (fields_12 _)).mono ?_; rintro e w' ⟨rfl, rfl⟩) | (refine ⟨trivial, ?_⟩; gi_at_call 190; refine (callsIn_wide.2 (readsD_12 _)).mono ?_; rintro e w' ⟨rfl, rfl⟩))
  refine hR0.mono ?_
  rintro e W0 (⟨rfl, hJ0, hk0⟩ | ⟨rfl, hx0⟩)
  rotate_left
  · gi_wp2_with (refine wpListIn_skipW (by rfl) ?_; simp only [Act.put, List.setIfInBounds_toArray, List.set_cons_succ, List.set_cons_zero])
    go_end0
    exact ⟨⟨_, rfl⟩, .inr ⟨[] ++ [n], by first | exact ⟨trivial, hx0⟩ | exact hx0⟩⟩
  have HI0 := Lib.hid (HV0.out.kp hk0)
  clear hl i0 i1 i2 i3 i4 i5 i6
  obtain ⟨hl, i0, i1, i2, i3, i4, i5, i6⟩ := HI0.out
  obtain ⟨f1, t1, a1, b1, hy1, hR1⟩ := hY [n] m W0 hJ0 (by simp)
  try dsimp only at hy1
  gi_wp2_with (first | (refine wpListIn_skipW (by rfl) ?_; simp only [Act.put, List.setIfInBounds_toArray, List.set_cons_succ, List.set_cons_zero]) | (refine ⟨trivial, ?_⟩; gi_at_call 112; refine (callsIn_wide.2 (fields_12 _)).mono ?_; rintro e w' ⟨rfl, rfl⟩) | (refine ⟨trivial, ?_⟩; gi_at_call 190; refine (callsIn_wide.2 (readsD_12 _)).mono ?_; rintro e w' ⟨rfl, rfl⟩))
  refine hR1.mono ?_
  rintro e W1 (⟨rfl, hJ1, hk1⟩ | ⟨rfl, hx1⟩)
  rotate_left
  · gi_wp2_with (refine wpListIn_skipW (by rfl) ?_; simp only [Act.put, List.setIfInBounds_toArray, List.set_cons_succ, List.set_cons_zero])
    go_end0
    exact ⟨⟨_, rfl⟩, .inr ⟨[n] ++ [m], by first | exact ⟨trivial, hx1⟩ | exact hx1⟩⟩
  have HI1 := Lib.hid (HI0.out.kp hk1)
  clear hl i0 i1 i2 i3 i4 i5 i6
  obtain ⟨hl, i0, i1, i2, i3, i4, i5, i6⟩ := HI1.out
  gi_wp2_with (first | (refine wpListIn_skipW (by rfl) ?_; simp only [Act.put, List.setIfInBounds_toArray, List.set_cons_succ, List.set_cons_zero]) | (refine ⟨trivial, ?_⟩; gi_at_call 112; refine (callsIn_wide.2 (fields_12 _)).mono ?_; rintro e w' ⟨rfl, rfl⟩) | (refine ⟨trivial, ?_⟩; gi_at_call 190; refine (callsIn_wide.2 (readsD_12 _)).mono ?_; rintro e w' ⟨rfl, rfl⟩))
  go_end0
  exact ⟨⟨_, rfl⟩, .inl ⟨_, rfl, hJ1⟩⟩
set_option maxRecDepth 100000 in
set_option maxHeartbeats 2000000 in
theorem fields_18 (w : World) : Calls Try.prog 112 #[.int .i64 18] w fun e w' => e = .returned (.int .i64 7) ∧ w' = w := by
  go_enter Try.func112, Try.ntmps112
  go_wp2
  go_ret
  exact ⟨rfl, rfl⟩
set_option maxRecDepth 100000 in
set_option maxHeartbeats 2000000 in
theorem readsD_18 (w : World) : Calls Try.prog 190 #[.int .i64 18] w fun e w' => e = .returned (.bool false) ∧ w' = w := by
  go_enter Try.func190, Try.ntmps190
  go_wp2
  go_ret
  exact ⟨rfl, rfl⟩
set_option maxRecDepth 100000 in
set_option maxHeartbeats 2000000 in
theorem takesSP_18 (w : World) : Calls Try.prog 206 #[.int .i64 18] w fun e w' => e = .returned (.bool false) ∧ w' = w := by
  go_enter Try.func206, Try.ntmps206
  go_wp2
  go_ret
  exact ⟨rfl, rfl⟩
set_option maxRecDepth 100000 in
set_option maxHeartbeats 2000000 in
theorem memory_18 (w : World) : Calls Try.prog 154 #[.int .i64 18] w fun e w' => e = .returned (.bool false) ∧ w' = w := by
  go_enter Try.func154, Try.ntmps154
  go_wp2
  go_ret
  exact ⟨rfl, rfl⟩
set_option maxRecDepth 100000 in
set_option maxHeartbeats 2000000 in
theorem first_18 (d n m a c i : Int) (w : World) : Calls Try.prog 191 #[.agg #[.int .i64 18, .int .i64 d, .int .i64 n, .int .i64 m, .int .i64 a, .int .i64 c, .int .i64 i]] w fun e w' => e = .returned (.int .i64 n) ∧ Below w.heap.size w w' := by
  rcases hb : (n == 31)
  · have hn : n ≠ 31 := by simpa using hb
    go_enter Try.func191, Try.ntmps191
    go_wp2
    go_ret
    exact ⟨rfl, (Below.refl _ _).alloc (Nat.le_refl _) _⟩
  · have hn : n = 31 := by simpa using hb
    subst hn
    go_enter Try.func191, Try.ntmps191
    go_wp2_with (first | (go_at_call 206; refine (takesSP_18 _).mono ?_; rintro e w' ⟨rfl, rfl⟩) | (go_at_call 154; refine (memory_18 _).mono ?_; rintro e w' ⟨rfl, rfl⟩))
    go_ret
    exact ⟨rfl, (Below.refl _ _).alloc (Nat.le_refl _) _⟩
set_option maxRecDepth 100000 in
set_option maxHeartbeats 2000000 in
theorem read_18 (d n m a c i : Int) (Bi : Nat) (w : World) (h : InsAt w Bi (.int .i64 18) (.int .i64 d) (.int .i64 n) (.int .i64 m) (.int .i64 a) (.int .i64 c) (.int .i64 i)) :
    SeqStopsK Fence.wide 4 Try.prog 189 #[.pointer (some ⟨Bi, 0, none⟩)] (fun x : Int => #[.int .i64 x]) (KpI Bi) (fun xs => xs = [n, m]) (fun _ => True) 6 w := fun l J Jx W hW hJ hJx hY h0 => by
  have HI := Lib.hid (h.below' hW rfl)
  have x2 : bits .and .i64 7 2 = 2 := by decide
  have x4 : bits .and .i64 7 4 = 4 := by decide
  have x8 : bits .and .i64 7 8 = 0 := by decide
  have x16 : bits .and .i64 7 16 = 0 := by decide
  refine callsIn_of_wp Try.func189 rfl trivial ?_ rfl
  simp only [Try.ntmps189, List.size_toArray, List.length_cons, List.length_nil, Nat.reduceAdd, Nat.reduceSub, Array.replicate_succ, Array.replicate_zero, List.push_toArray, List.append_toArray, List.nil_append, List.cons_append]
  obtain ⟨hl, i0, i1, i2, i3, i4, i5, i6⟩ := HI.out
  gi_wp2_with (first | (refine wpListIn_skipW (by rfl) ?_; simp only [Act.put, List.setIfInBounds_toArray, List.set_cons_succ, List.set_cons_zero]) | (refine ⟨trivial, ?_⟩; gi_at_call 112; refine (callsIn_wide.2 (fields_18 _)).mono ?_; rintro e w' ⟨rfl, rfl⟩) | (refine ⟨trivial, ?_⟩; gi_at_call 190; refine (callsIn_wide.2 (readsD_18 _)).mono ?_; rintro e w' ⟨rfl, rfl⟩))
  refine ⟨trivial, ?_⟩
  refine (callsIn_wide.2 (first_18 d n m a c i _)).mono ?_
  rintro e v0 ⟨rfl, hb0⟩
  obtain ⟨f0, t0, a0, b0, hy0, hR0⟩ := hY [] n v0 (hJ _ _ _ none h0 (grown_none hb0) (fun r e => by cases e)) (by simp)
  try dsimp only at hy0
  have HV0 := Lib.hid (HI.out.below' hb0 rfl)
  clear hl i0 i1 i2 i3 i4 i5 i6
  obtain ⟨hl, i0, i1, i2, i3, i4, i5, i6⟩ := HV0.out
  gi_wp2_with (first | (refine wpListIn_skipW (by rfl) ?_; simp only [Act.put, List.setIfInBounds_toArray, List.set_cons_succ, List.set_cons_zero]) | (refine ⟨trivial, ?_⟩; gi_at_call 112; refine (callsIn_wide.2 (fields_18 _)).mono ?_; rintro e w' ⟨rfl, rfl⟩) | (refine ⟨trivial, ?_⟩; gi_at_call 190; refine (callsIn_wide.2 (readsD_18 _)).mono ?_; rintro e w' ⟨rfl, rfl⟩))
  refine hR0.mono ?_
  rintro e W0 (⟨rfl, hJ0, hk0⟩ | ⟨rfl, hx0⟩)
  rotate_left
  · gi_wp2_with (refine wpListIn_skipW (by rfl) ?_; simp only [Act.put, List.setIfInBounds_toArray, List.set_cons_succ, List.set_cons_zero])
    go_end0
    exact ⟨⟨_, rfl⟩, .inr ⟨[] ++ [n], by first | exact ⟨trivial, hx0⟩ | exact hx0⟩⟩
  have HI0 := Lib.hid (HV0.out.kp hk0)
  clear hl i0 i1 i2 i3 i4 i5 i6
  obtain ⟨hl, i0, i1, i2, i3, i4, i5, i6⟩ := HI0.out
  obtain ⟨f1, t1, a1, b1, hy1, hR1⟩ := hY [n] m W0 hJ0 (by simp)
  try dsimp only at hy1
  gi_wp2_with (first | (refine wpListIn_skipW (by rfl) ?_; simp only [Act.put, List.setIfInBounds_toArray, List.set_cons_succ, List.set_cons_zero]) | (refine ⟨trivial, ?_⟩; gi_at_call 112; refine (callsIn_wide.2 (fields_18 _)).mono ?_; rintro e w' ⟨rfl, rfl⟩) | (refine ⟨trivial, ?_⟩; gi_at_call 190; refine (callsIn_wide.2 (readsD_18 _)).mono ?_; rintro e w' ⟨rfl, rfl⟩))
  refine hR1.mono ?_
  rintro e W1 (⟨rfl, hJ1, hk1⟩ | ⟨rfl, hx1⟩)
  rotate_left
  · gi_wp2_with (refine wpListIn_skipW (by rfl) ?_; simp only [Act.put, List.setIfInBounds_toArray, List.set_cons_succ, List.set_cons_zero])
    go_end0
    exact ⟨⟨_, rfl⟩, .inr ⟨[n] ++ [m], by first | exact ⟨trivial, hx1⟩ | exact hx1⟩⟩
  have HI1 := Lib.hid (HI0.out.kp hk1)
  clear hl i0 i1 i2 i3 i4 i5 i6
  obtain ⟨hl, i0, i1, i2, i3, i4, i5, i6⟩ := HI1.out
  gi_wp2_with (first | (refine wpListIn_skipW (by rfl) ?_; simp only [Act.put, List.setIfInBounds_toArray, List.set_cons_succ, List.set_cons_zero]) | (refine ⟨trivial, ?_⟩; gi_at_call 112; refine (callsIn_wide.2 (fields_18 _)).mono ?_; rintro e w' ⟨rfl, rfl⟩) | (refine ⟨trivial, ?_⟩; gi_at_call 190; refine (callsIn_wide.2 (readsD_18 _)).mono ?_; rintro e w' ⟨rfl, rfl⟩))
  go_end0
  exact ⟨⟨_, rfl⟩, .inl ⟨_, rfl, hJ1⟩⟩
set_option maxRecDepth 100000 in
set_option maxHeartbeats 2000000 in
theorem fields_24 (w : World) : Calls Try.prog 112 #[.int .i64 24] w fun e w' => e = .returned (.int .i64 32) ∧ w' = w := by
  go_enter Try.func112, Try.ntmps112
  go_wp2
  go_ret
  exact ⟨rfl, rfl⟩
set_option maxRecDepth 100000 in
set_option maxHeartbeats 2000000 in
theorem readsD_24 (w : World) : Calls Try.prog 190 #[.int .i64 24] w fun e w' => e = .returned (.bool false) ∧ w' = w := by
  go_enter Try.func190, Try.ntmps190
  go_wp2
  go_ret
  exact ⟨rfl, rfl⟩
set_option maxRecDepth 100000 in
set_option maxHeartbeats 2000000 in
theorem takesSP_24 (w : World) : Calls Try.prog 206 #[.int .i64 24] w fun e w' => e = .returned (.bool false) ∧ w' = w := by
  go_enter Try.func206, Try.ntmps206
  go_wp2
  go_ret
  exact ⟨rfl, rfl⟩
set_option maxRecDepth 100000 in
set_option maxHeartbeats 2000000 in
theorem memory_24 (w : World) : Calls Try.prog 154 #[.int .i64 24] w fun e w' => e = .returned (.bool false) ∧ w' = w := by
  go_enter Try.func154, Try.ntmps154
  go_wp2
  go_ret
  exact ⟨rfl, rfl⟩
set_option maxRecDepth 100000 in
set_option maxHeartbeats 2000000 in
theorem read_24 (d n m a c i : Int) (Bi : Nat) (w : World) (h : InsAt w Bi (.int .i64 24) (.int .i64 d) (.int .i64 n) (.int .i64 m) (.int .i64 a) (.int .i64 c) (.int .i64 i)) :
    SeqStopsK Fence.wide 4 Try.prog 189 #[.pointer (some ⟨Bi, 0, none⟩)] (fun x : Int => #[.int .i64 x]) (KpI Bi) (fun xs => xs = []) (fun _ => True) 6 w := fun l J Jx W hW hJ hJx hY h0 => by
  have HI := Lib.hid (h.below' hW rfl)
  have x2 : bits .and .i64 32 2 = 0 := by decide
  have x4 : bits .and .i64 32 4 = 0 := by decide
  have x8 : bits .and .i64 32 8 = 0 := by decide
  have x16 : bits .and .i64 32 16 = 0 := by decide
  refine callsIn_of_wp Try.func189 rfl trivial ?_ rfl
  simp only [Try.ntmps189, List.size_toArray, List.length_cons, List.length_nil, Nat.reduceAdd, Nat.reduceSub, Array.replicate_succ, Array.replicate_zero, List.push_toArray, List.append_toArray, List.nil_append, List.cons_append]
  obtain ⟨hl, i0, i1, i2, i3, i4, i5, i6⟩ := HI.out
  gi_wp2_with (first | (refine wpListIn_skipW (by rfl) ?_; simp only [Act.put, List.setIfInBounds_toArray, List.set_cons_succ, List.set_cons_zero]) | (refine ⟨trivial, ?_⟩; gi_at_call 112; refine (callsIn_wide.2 (fields_24 _)).mono ?_; rintro e w' ⟨rfl, rfl⟩) | (refine ⟨trivial, ?_⟩; gi_at_call 190; refine (callsIn_wide.2 (readsD_24 _)).mono ?_; rintro e w' ⟨rfl, rfl⟩))
  go_end0
  exact ⟨⟨_, rfl⟩, .inl ⟨_, rfl, h0⟩⟩
set_option maxRecDepth 100000 in
set_option maxHeartbeats 2000000 in
theorem fields_30 (w : World) : Calls Try.prog 112 #[.int .i64 30] w fun e w' => e = .returned (.int .i64 35) ∧ w' = w := by
  go_enter Try.func112, Try.ntmps112
  go_wp2
  go_ret
  exact ⟨rfl, rfl⟩
set_option maxRecDepth 100000 in
set_option maxHeartbeats 2000000 in
theorem readsD_30 (w : World) : Calls Try.prog 190 #[.int .i64 30] w fun e w' => e = .returned (.bool false) ∧ w' = w := by
  go_enter Try.func190, Try.ntmps190
  go_wp2
  go_ret
  exact ⟨rfl, rfl⟩
set_option maxRecDepth 100000 in
set_option maxHeartbeats 2000000 in
theorem takesSP_30 (w : World) : Calls Try.prog 206 #[.int .i64 30] w fun e w' => e = .returned (.bool false) ∧ w' = w := by
  go_enter Try.func206, Try.ntmps206
  go_wp2
  go_ret
  exact ⟨rfl, rfl⟩
set_option maxRecDepth 100000 in
set_option maxHeartbeats 2000000 in
theorem memory_30 (w : World) : Calls Try.prog 154 #[.int .i64 30] w fun e w' => e = .returned (.bool true) ∧ w' = w := by
  go_enter Try.func154, Try.ntmps154
  go_wp2
  go_ret
  exact ⟨rfl, rfl⟩
set_option maxRecDepth 100000 in
set_option maxHeartbeats 2000000 in
theorem first_30 (d n m a c i : Int) (w : World) : Calls Try.prog 191 #[.agg #[.int .i64 30, .int .i64 d, .int .i64 n, .int .i64 m, .int .i64 a, .int .i64 c, .int .i64 i]] w fun e w' => e = .returned (.int .i64 (spOr n)) ∧ Below w.heap.size w w' := by
  rcases hb : (n == 31)
  · have hn : n ≠ 31 := by simpa using hb
    go_enter Try.func191, Try.ntmps191
    go_wp2
    go_ret
    exact ⟨by simp [spOr, hn], (Below.refl _ _).alloc (Nat.le_refl _) _⟩
  · have hn : n = 31 := by simpa using hb
    subst hn
    go_enter Try.func191, Try.ntmps191
    go_wp2_with (first | (go_at_call 206; refine (takesSP_30 _).mono ?_; rintro e w' ⟨rfl, rfl⟩) | (go_at_call 154; refine (memory_30 _).mono ?_; rintro e w' ⟨rfl, rfl⟩))
    go_ret
    exact ⟨rfl, (Below.refl _ _).alloc (Nat.le_refl _) _⟩
set_option maxRecDepth 100000 in
set_option maxHeartbeats 2000000 in
theorem read_30 (d n m a c i : Int) (Bi : Nat) (w : World) (h : InsAt w Bi (.int .i64 30) (.int .i64 d) (.int .i64 n) (.int .i64 m) (.int .i64 a) (.int .i64 c) (.int .i64 i)) :
    SeqStopsK Fence.wide 4 Try.prog 189 #[.pointer (some ⟨Bi, 0, none⟩)] (fun x : Int => #[.int .i64 x]) (KpI Bi) (fun xs => xs = [(spOr n)]) (fun _ => True) 6 w := fun l J Jx W hW hJ hJx hY h0 => by
  have HI := Lib.hid (h.below' hW rfl)
  have x2 : bits .and .i64 35 2 = 2 := by decide
  have x4 : bits .and .i64 35 4 = 0 := by decide
  have x8 : bits .and .i64 35 8 = 0 := by decide
  have x16 : bits .and .i64 35 16 = 0 := by decide
  refine callsIn_of_wp Try.func189 rfl trivial ?_ rfl
  simp only [Try.ntmps189, List.size_toArray, List.length_cons, List.length_nil, Nat.reduceAdd, Nat.reduceSub, Array.replicate_succ, Array.replicate_zero, List.push_toArray, List.append_toArray, List.nil_append, List.cons_append]
  obtain ⟨hl, i0, i1, i2, i3, i4, i5, i6⟩ := HI.out
  gi_wp2_with (first | (refine wpListIn_skipW (by rfl) ?_; simp only [Act.put, List.setIfInBounds_toArray, List.set_cons_succ, List.set_cons_zero]) | (refine ⟨trivial, ?_⟩; gi_at_call 112; refine (callsIn_wide.2 (fields_30 _)).mono ?_; rintro e w' ⟨rfl, rfl⟩) | (refine ⟨trivial, ?_⟩; gi_at_call 190; refine (callsIn_wide.2 (readsD_30 _)).mono ?_; rintro e w' ⟨rfl, rfl⟩))
  refine ⟨trivial, ?_⟩
  refine (callsIn_wide.2 (first_30 d n m a c i _)).mono ?_
  rintro e v0 ⟨rfl, hb0⟩
  obtain ⟨f0, t0, a0, b0, hy0, hR0⟩ := hY [] (spOr n) v0 (hJ _ _ _ none h0 (grown_none hb0) (fun r e => by cases e)) (by simp)
  try dsimp only at hy0
  have HV0 := Lib.hid (HI.out.below' hb0 rfl)
  clear hl i0 i1 i2 i3 i4 i5 i6
  obtain ⟨hl, i0, i1, i2, i3, i4, i5, i6⟩ := HV0.out
  gi_wp2_with (first | (refine wpListIn_skipW (by rfl) ?_; simp only [Act.put, List.setIfInBounds_toArray, List.set_cons_succ, List.set_cons_zero]) | (refine ⟨trivial, ?_⟩; gi_at_call 112; refine (callsIn_wide.2 (fields_30 _)).mono ?_; rintro e w' ⟨rfl, rfl⟩) | (refine ⟨trivial, ?_⟩; gi_at_call 190; refine (callsIn_wide.2 (readsD_30 _)).mono ?_; rintro e w' ⟨rfl, rfl⟩))
  refine hR0.mono ?_
  rintro e W0 (⟨rfl, hJ0, hk0⟩ | ⟨rfl, hx0⟩)
  rotate_left
  · gi_wp2_with (refine wpListIn_skipW (by rfl) ?_; simp only [Act.put, List.setIfInBounds_toArray, List.set_cons_succ, List.set_cons_zero])
    go_end0
    exact ⟨⟨_, rfl⟩, .inr ⟨[] ++ [(spOr n)], by first | exact ⟨trivial, hx0⟩ | exact hx0⟩⟩
  have HI0 := Lib.hid (HV0.out.kp hk0)
  clear hl i0 i1 i2 i3 i4 i5 i6
  obtain ⟨hl, i0, i1, i2, i3, i4, i5, i6⟩ := HI0.out
  gi_wp2_with (first | (refine wpListIn_skipW (by rfl) ?_; simp only [Act.put, List.setIfInBounds_toArray, List.set_cons_succ, List.set_cons_zero]) | (refine ⟨trivial, ?_⟩; gi_at_call 112; refine (callsIn_wide.2 (fields_30 _)).mono ?_; rintro e w' ⟨rfl, rfl⟩) | (refine ⟨trivial, ?_⟩; gi_at_call 190; refine (callsIn_wide.2 (readsD_30 _)).mono ?_; rintro e w' ⟨rfl, rfl⟩))
  go_end0
  exact ⟨⟨_, rfl⟩, .inl ⟨_, rfl, hJ0⟩⟩
set_option maxRecDepth 100000 in
set_option maxHeartbeats 2000000 in
theorem fields_36 (w : World) : Calls Try.prog 112 #[.int .i64 36] w fun e w' => e = .returned (.int .i64 7) ∧ w' = w := by
  go_enter Try.func112, Try.ntmps112
  go_wp2
  go_ret
  exact ⟨rfl, rfl⟩
set_option maxRecDepth 100000 in
set_option maxHeartbeats 2000000 in
theorem readsD_36 (w : World) : Calls Try.prog 190 #[.int .i64 36] w fun e w' => e = .returned (.bool false) ∧ w' = w := by
  go_enter Try.func190, Try.ntmps190
  go_wp2
  go_ret
  exact ⟨rfl, rfl⟩
set_option maxRecDepth 100000 in
set_option maxHeartbeats 2000000 in
theorem takesSP_36 (w : World) : Calls Try.prog 206 #[.int .i64 36] w fun e w' => e = .returned (.bool false) ∧ w' = w := by
  go_enter Try.func206, Try.ntmps206
  go_wp2
  go_ret
  exact ⟨rfl, rfl⟩
set_option maxRecDepth 100000 in
set_option maxHeartbeats 2000000 in
theorem memory_36 (w : World) : Calls Try.prog 154 #[.int .i64 36] w fun e w' => e = .returned (.bool true) ∧ w' = w := by
  go_enter Try.func154, Try.ntmps154
  go_wp2
  go_ret
  exact ⟨rfl, rfl⟩
set_option maxRecDepth 100000 in
set_option maxHeartbeats 2000000 in
theorem first_36 (d n m a c i : Int) (w : World) : Calls Try.prog 191 #[.agg #[.int .i64 36, .int .i64 d, .int .i64 n, .int .i64 m, .int .i64 a, .int .i64 c, .int .i64 i]] w fun e w' => e = .returned (.int .i64 (spOr n)) ∧ Below w.heap.size w w' := by
  rcases hb : (n == 31)
  · have hn : n ≠ 31 := by simpa using hb
    go_enter Try.func191, Try.ntmps191
    go_wp2
    go_ret
    exact ⟨by simp [spOr, hn], (Below.refl _ _).alloc (Nat.le_refl _) _⟩
  · have hn : n = 31 := by simpa using hb
    subst hn
    go_enter Try.func191, Try.ntmps191
    go_wp2_with (first | (go_at_call 206; refine (takesSP_36 _).mono ?_; rintro e w' ⟨rfl, rfl⟩) | (go_at_call 154; refine (memory_36 _).mono ?_; rintro e w' ⟨rfl, rfl⟩))
    go_ret
    exact ⟨rfl, (Below.refl _ _).alloc (Nat.le_refl _) _⟩
set_option maxRecDepth 100000 in
set_option maxHeartbeats 2000000 in
theorem read_36 (d n m a c i : Int) (Bi : Nat) (w : World) (h : InsAt w Bi (.int .i64 36) (.int .i64 d) (.int .i64 n) (.int .i64 m) (.int .i64 a) (.int .i64 c) (.int .i64 i)) :
    SeqStopsK Fence.wide 4 Try.prog 189 #[.pointer (some ⟨Bi, 0, none⟩)] (fun x : Int => #[.int .i64 x]) (KpI Bi) (fun xs => xs = [(spOr n), m]) (fun _ => True) 6 w := fun l J Jx W hW hJ hJx hY h0 => by
  have HI := Lib.hid (h.below' hW rfl)
  have x2 : bits .and .i64 7 2 = 2 := by decide
  have x4 : bits .and .i64 7 4 = 4 := by decide
  have x8 : bits .and .i64 7 8 = 0 := by decide
  have x16 : bits .and .i64 7 16 = 0 := by decide
  refine callsIn_of_wp Try.func189 rfl trivial ?_ rfl
  simp only [Try.ntmps189, List.size_toArray, List.length_cons, List.length_nil, Nat.reduceAdd, Nat.reduceSub, Array.replicate_succ, Array.replicate_zero, List.push_toArray, List.append_toArray, List.nil_append, List.cons_append]
  obtain ⟨hl, i0, i1, i2, i3, i4, i5, i6⟩ := HI.out
  gi_wp2_with (first | (refine wpListIn_skipW (by rfl) ?_; simp only [Act.put, List.setIfInBounds_toArray, List.set_cons_succ, List.set_cons_zero]) | (refine ⟨trivial, ?_⟩; gi_at_call 112; refine (callsIn_wide.2 (fields_36 _)).mono ?_; rintro e w' ⟨rfl, rfl⟩) | (refine ⟨trivial, ?_⟩; gi_at_call 190; refine (callsIn_wide.2 (readsD_36 _)).mono ?_; rintro e w' ⟨rfl, rfl⟩))
  refine ⟨trivial, ?_⟩
  refine (callsIn_wide.2 (first_36 d n m a c i _)).mono ?_
  rintro e v0 ⟨rfl, hb0⟩
  obtain ⟨f0, t0, a0, b0, hy0, hR0⟩ := hY [] (spOr n) v0 (hJ _ _ _ none h0 (grown_none hb0) (fun r e => by cases e)) (by simp)
  try dsimp only at hy0
  have HV0 := Lib.hid (HI.out.below' hb0 rfl)
  clear hl i0 i1 i2 i3 i4 i5 i6
  obtain ⟨hl, i0, i1, i2, i3, i4, i5, i6⟩ := HV0.out
  gi_wp2_with (first | (refine wpListIn_skipW (by rfl) ?_; simp only [Act.put, List.setIfInBounds_toArray, List.set_cons_succ, List.set_cons_zero]) | (refine ⟨trivial, ?_⟩; gi_at_call 112; refine (callsIn_wide.2 (fields_36 _)).mono ?_; rintro e w' ⟨rfl, rfl⟩) | (refine ⟨trivial, ?_⟩; gi_at_call 190; refine (callsIn_wide.2 (readsD_36 _)).mono ?_; rintro e w' ⟨rfl, rfl⟩))
  refine hR0.mono ?_
  rintro e W0 (⟨rfl, hJ0, hk0⟩ | ⟨rfl, hx0⟩)
  rotate_left
  · gi_wp2_with (refine wpListIn_skipW (by rfl) ?_; simp only [Act.put, List.setIfInBounds_toArray, List.set_cons_succ, List.set_cons_zero])
    go_end0
    exact ⟨⟨_, rfl⟩, .inr ⟨[] ++ [(spOr n)], by first | exact ⟨trivial, hx0⟩ | exact hx0⟩⟩
  have HI0 := Lib.hid (HV0.out.kp hk0)
  clear hl i0 i1 i2 i3 i4 i5 i6
  obtain ⟨hl, i0, i1, i2, i3, i4, i5, i6⟩ := HI0.out
  obtain ⟨f1, t1, a1, b1, hy1, hR1⟩ := hY [(spOr n)] m W0 hJ0 (by simp)
  try dsimp only at hy1
  gi_wp2_with (first | (refine wpListIn_skipW (by rfl) ?_; simp only [Act.put, List.setIfInBounds_toArray, List.set_cons_succ, List.set_cons_zero]) | (refine ⟨trivial, ?_⟩; gi_at_call 112; refine (callsIn_wide.2 (fields_36 _)).mono ?_; rintro e w' ⟨rfl, rfl⟩) | (refine ⟨trivial, ?_⟩; gi_at_call 190; refine (callsIn_wide.2 (readsD_36 _)).mono ?_; rintro e w' ⟨rfl, rfl⟩))
  refine hR1.mono ?_
  rintro e W1 (⟨rfl, hJ1, hk1⟩ | ⟨rfl, hx1⟩)
  rotate_left
  · gi_wp2_with (refine wpListIn_skipW (by rfl) ?_; simp only [Act.put, List.setIfInBounds_toArray, List.set_cons_succ, List.set_cons_zero])
    go_end0
    exact ⟨⟨_, rfl⟩, .inr ⟨[(spOr n)] ++ [m], by first | exact ⟨trivial, hx1⟩ | exact hx1⟩⟩
  have HI1 := Lib.hid (HI0.out.kp hk1)
  clear hl i0 i1 i2 i3 i4 i5 i6
  obtain ⟨hl, i0, i1, i2, i3, i4, i5, i6⟩ := HI1.out
  gi_wp2_with (first | (refine wpListIn_skipW (by rfl) ?_; simp only [Act.put, List.setIfInBounds_toArray, List.set_cons_succ, List.set_cons_zero]) | (refine ⟨trivial, ?_⟩; gi_at_call 112; refine (callsIn_wide.2 (fields_36 _)).mono ?_; rintro e w' ⟨rfl, rfl⟩) | (refine ⟨trivial, ?_⟩; gi_at_call 190; refine (callsIn_wide.2 (readsD_36 _)).mono ?_; rintro e w' ⟨rfl, rfl⟩))
  go_end0
  exact ⟨⟨_, rfl⟩, .inl ⟨_, rfl, hJ1⟩⟩
set_option maxRecDepth 100000 in
set_option maxHeartbeats 2000000 in
theorem fields_42 (w : World) : Calls Try.prog 112 #[.int .i64 42] w fun e w' => e = .returned (.int .i64 32) ∧ w' = w := by
  go_enter Try.func112, Try.ntmps112
  go_wp2
  go_ret
  exact ⟨rfl, rfl⟩
set_option maxRecDepth 100000 in
set_option maxHeartbeats 2000000 in
theorem readsD_42 (w : World) : Calls Try.prog 190 #[.int .i64 42] w fun e w' => e = .returned (.bool false) ∧ w' = w := by
  go_enter Try.func190, Try.ntmps190
  go_wp2
  go_ret
  exact ⟨rfl, rfl⟩
set_option maxRecDepth 100000 in
set_option maxHeartbeats 2000000 in
theorem takesSP_42 (w : World) : Calls Try.prog 206 #[.int .i64 42] w fun e w' => e = .returned (.bool false) ∧ w' = w := by
  go_enter Try.func206, Try.ntmps206
  go_wp2
  go_ret
  exact ⟨rfl, rfl⟩
set_option maxRecDepth 100000 in
set_option maxHeartbeats 2000000 in
theorem memory_42 (w : World) : Calls Try.prog 154 #[.int .i64 42] w fun e w' => e = .returned (.bool false) ∧ w' = w := by
  go_enter Try.func154, Try.ntmps154
  go_wp2
  go_ret
  exact ⟨rfl, rfl⟩
set_option maxRecDepth 100000 in
set_option maxHeartbeats 2000000 in
theorem read_42 (d n m a c i : Int) (Bi : Nat) (w : World) (h : InsAt w Bi (.int .i64 42) (.int .i64 d) (.int .i64 n) (.int .i64 m) (.int .i64 a) (.int .i64 c) (.int .i64 i)) :
    SeqStopsK Fence.wide 4 Try.prog 189 #[.pointer (some ⟨Bi, 0, none⟩)] (fun x : Int => #[.int .i64 x]) (KpI Bi) (fun xs => xs = []) (fun _ => True) 6 w := fun l J Jx W hW hJ hJx hY h0 => by
  have HI := Lib.hid (h.below' hW rfl)
  have x2 : bits .and .i64 32 2 = 0 := by decide
  have x4 : bits .and .i64 32 4 = 0 := by decide
  have x8 : bits .and .i64 32 8 = 0 := by decide
  have x16 : bits .and .i64 32 16 = 0 := by decide
  refine callsIn_of_wp Try.func189 rfl trivial ?_ rfl
  simp only [Try.ntmps189, List.size_toArray, List.length_cons, List.length_nil, Nat.reduceAdd, Nat.reduceSub, Array.replicate_succ, Array.replicate_zero, List.push_toArray, List.append_toArray, List.nil_append, List.cons_append]
  obtain ⟨hl, i0, i1, i2, i3, i4, i5, i6⟩ := HI.out
  gi_wp2_with (first | (refine wpListIn_skipW (by rfl) ?_; simp only [Act.put, List.setIfInBounds_toArray, List.set_cons_succ, List.set_cons_zero]) | (refine ⟨trivial, ?_⟩; gi_at_call 112; refine (callsIn_wide.2 (fields_42 _)).mono ?_; rintro e w' ⟨rfl, rfl⟩) | (refine ⟨trivial, ?_⟩; gi_at_call 190; refine (callsIn_wide.2 (readsD_42 _)).mono ?_; rintro e w' ⟨rfl, rfl⟩))
  go_end0
  exact ⟨⟨_, rfl⟩, .inl ⟨_, rfl, h0⟩⟩
end Go.Proofs.Ytnbpgoacooddjaa.Fr
