import Derived.Test.YtnbpgoacooddjaaFRdA
import Derived.Test.YtnbpgoacooddjaaFRdB
import Derived.Test.YtnbpgoacooddjaaFRdC
import Derived.Test.YtnbpgoacooddjaaFRdD
import Derived.Test.YtnbpgoacooddjaaFRdE
import Derived.Test.YtnbpgoacooddjaaFRdF
namespace Go.Proofs.Ytnbpgoacooddjaa.Fr
open Go.RowKit Go.Shelf
set_option linter.unusedVariables false
attribute [local go_sem] Oper.semAt_some
set_option maxRecDepth 100000 in
set_option maxHeartbeats 2000000 in
theorem written_make (op d n m a c i : Int) (w : World) : Calls Try.prog 186 #[.agg #[.int .i64 op, .int .i64 d, .int .i64 n, .int .i64 m, .int .i64 a, .int .i64 c, .int .i64 i]] w fun e w' => e = .returned (.func (.func 203) #[] #[.pointer (some ⟨w.heap.size, 0, none⟩)]) ∧ w' = w.alloc (.cells #[.int .i64 op, .int .i64 d, .int .i64 n, .int .i64 m, .int .i64 a, .int .i64 c, .int .i64 i] 29) := by
  go_enter Try.func186, Try.ntmps186
  go_wp2
  go_ret
  exact ⟨rfl, rfl⟩
set_option maxRecDepth 100000 in
set_option maxHeartbeats 2000000 in
theorem load_0 (w : World) : Calls Try.prog 161 #[.int .i64 0] w fun e w' => e = .returned (.bool false) ∧ w' = w := by
  go_enter Try.func161, Try.ntmps161
  go_wp2
  go_ret
  exact ⟨rfl, rfl⟩
set_option maxRecDepth 100000 in
set_option maxHeartbeats 2000000 in
theorem writesD_0 (w : World) : Calls Try.prog 204 #[.int .i64 0] w fun e w' => e = .returned (.bool false) ∧ w' = w := by
  go_enter Try.func204, Try.ntmps204
  go_wp2_with (go_at_call 161; refine (load_0 _).mono ?_; rintro e w' ⟨rfl, rfl⟩)
  go_ret
  exact ⟨rfl, rfl⟩
set_option maxRecDepth 100000 in
set_option maxHeartbeats 2000000 in
theorem written_0 (d n m a c i : Int) (Bi : Nat) (w : World) (h : InsAt w Bi (.int .i64 0) (.int .i64 d) (.int .i64 n) (.int .i64 m) (.int .i64 a) (.int .i64 c) (.int .i64 i)) :
    SeqStopsK Fence.wide 4 Try.prog 203 #[.pointer (some ⟨Bi, 0, none⟩)] (fun x : Int => #[.int .i64 x]) (KpI Bi) (fun xs => xs = []) (fun _ => True) 6 w := fun l J Jx W hW hJ hJx hY h0 => by
  have HI := Lib.hid (h.below' hW rfl)
  refine callsIn_of_wp Try.func203 rfl trivial ?_ rfl
  simp only [Try.ntmps203, List.size_toArray, List.length_cons, List.length_nil, Nat.reduceAdd, Nat.reduceSub, Array.replicate_succ, Array.replicate_zero, List.push_toArray, List.append_toArray, List.nil_append, List.cons_append]
  obtain ⟨hl, i0, i1, i2, i3, i4, i5, i6⟩ := HI.out
  gi_wp2_with (first | (refine wpListIn_skipW (by rfl) ?_; simp only [Act.put, List.setIfInBounds_toArray, List.set_cons_succ, List.set_cons_zero]) | (refine ⟨trivial, ?_⟩; gi_at_call 204; refine (callsIn_wide.2 (writesD_0 _)).mono ?_; rintro e w' ⟨rfl, rfl⟩))
  go_end0
  exact ⟨⟨_, rfl⟩, .inl ⟨_, rfl, h0⟩⟩
set_option maxRecDepth 100000 in
set_option maxHeartbeats 2000000 in
theorem load_3 (w : World) : Calls Try.prog 161 #[.int .i64 3] w fun e w' => e = .returned (.bool false) ∧ w' = w := by
  go_enter Try.func161, Try.ntmps161
  go_wp2
  go_ret
  exact ⟨rfl, rfl⟩
set_option maxRecDepth 100000 in
set_option maxHeartbeats 2000000 in
theorem writesD_3 (w : World) : Calls Try.prog 204 #[.int .i64 3] w fun e w' => e = .returned (.bool true) ∧ w' = w := by
  go_enter Try.func204, Try.ntmps204
  go_wp2_with (go_at_call 161; refine (load_3 _).mono ?_; rintro e w' ⟨rfl, rfl⟩)
  go_ret
  exact ⟨rfl, rfl⟩
set_option maxRecDepth 100000 in
set_option maxHeartbeats 2000000 in
theorem target_3 (d n m a c i : Int) (w : World) : Calls Try.prog 205 #[.agg #[.int .i64 3, .int .i64 d, .int .i64 n, .int .i64 m, .int .i64 a, .int .i64 c, .int .i64 i]] w fun e w' => e = .returned (.int .i64 d) ∧ Below w.heap.size w w' := by
  rcases hb : (d == 31)
  · have hn : d ≠ 31 := by simpa using hb
    go_enter Try.func205, Try.ntmps205
    go_wp2
    go_ret
    exact ⟨rfl, (Below.refl _ _).alloc (Nat.le_refl _) _⟩
  · have hn : d = 31 := by simpa using hb
    subst hn
    go_enter Try.func205, Try.ntmps205
    go_wp2_with (go_at_call 206; refine (takesSP_3 _).mono ?_; rintro e w' ⟨rfl, rfl⟩)
    go_ret
    exact ⟨rfl, (Below.refl _ _).alloc (Nat.le_refl _) _⟩
set_option maxRecDepth 100000 in
set_option maxHeartbeats 2000000 in
theorem written_3 (d n m a c i : Int) (Bi : Nat) (w : World) (h : InsAt w Bi (.int .i64 3) (.int .i64 d) (.int .i64 n) (.int .i64 m) (.int .i64 a) (.int .i64 c) (.int .i64 i)) :
    SeqStopsK Fence.wide 4 Try.prog 203 #[.pointer (some ⟨Bi, 0, none⟩)] (fun x : Int => #[.int .i64 x]) (KpI Bi) (fun xs => xs = [d]) (fun _ => True) 6 w := fun l J Jx W hW hJ hJx hY h0 => by
  have HI := Lib.hid (h.below' hW rfl)
  refine callsIn_of_wp Try.func203 rfl trivial ?_ rfl
  simp only [Try.ntmps203, List.size_toArray, List.length_cons, List.length_nil, Nat.reduceAdd, Nat.reduceSub, Array.replicate_succ, Array.replicate_zero, List.push_toArray, List.append_toArray, List.nil_append, List.cons_append]
  obtain ⟨hl, i0, i1, i2, i3, i4, i5, i6⟩ := HI.out
  gi_wp2_with (first | (refine wpListIn_skipW (by rfl) ?_; simp only [Act.put, List.setIfInBounds_toArray, List.set_cons_succ, List.set_cons_zero]) | (refine ⟨trivial, ?_⟩; gi_at_call 204; refine (callsIn_wide.2 (writesD_3 _)).mono ?_; rintro e w' ⟨rfl, rfl⟩))
  refine ⟨trivial, ?_⟩
  refine (callsIn_wide.2 (target_3 d n m a c i _)).mono ?_
  rintro e v0 ⟨rfl, hb0⟩
  obtain ⟨f0, t0, a0, b0, hy0, hR0⟩ := hY [] d v0 (hJ _ _ _ none h0 (grown_none hb0) (fun r e => by cases e)) (by simp)
  try dsimp only at hy0
  have HV0 := Lib.hid (HI.out.below' hb0 rfl)
  clear hl i0 i1 i2 i3 i4 i5 i6
  obtain ⟨hl, i0, i1, i2, i3, i4, i5, i6⟩ := HV0.out
  gi_wp2_with (first | (refine wpListIn_skipW (by rfl) ?_; simp only [Act.put, List.setIfInBounds_toArray, List.set_cons_succ, List.set_cons_zero]) | (refine ⟨trivial, ?_⟩; gi_at_call 204; refine (callsIn_wide.2 (writesD_3 _)).mono ?_; rintro e w' ⟨rfl, rfl⟩))
  refine hR0.mono ?_
  rintro e W0 (⟨rfl, hJ0, hk0⟩ | ⟨rfl, hx0⟩)
  rotate_left
  · gi_wp2_with (refine wpListIn_skipW (by rfl) ?_; simp only [Act.put, List.setIfInBounds_toArray, List.set_cons_succ, List.set_cons_zero])
    go_end0
    exact ⟨⟨_, rfl⟩, .inr ⟨[] ++ [d], by first | exact ⟨trivial, hx0⟩ | exact hx0⟩⟩
  have HI0 := Lib.hid (HV0.out.kp hk0)
  clear hl i0 i1 i2 i3 i4 i5 i6
  obtain ⟨hl, i0, i1, i2, i3, i4, i5, i6⟩ := HI0.out
  gi_wp2_with (first | (refine wpListIn_skipW (by rfl) ?_; simp only [Act.put, List.setIfInBounds_toArray, List.set_cons_succ, List.set_cons_zero]) | (refine ⟨trivial, ?_⟩; gi_at_call 204; refine (callsIn_wide.2 (writesD_3 _)).mono ?_; rintro e w' ⟨rfl, rfl⟩))
  go_end0
  exact ⟨⟨_, rfl⟩, .inl ⟨_, rfl, hJ0⟩⟩
set_option maxRecDepth 100000 in
set_option maxHeartbeats 2000000 in
theorem load_6 (w : World) : Calls Try.prog 161 #[.int .i64 6] w fun e w' => e = .returned (.bool false) ∧ w' = w := by
  go_enter Try.func161, Try.ntmps161
  go_wp2
  go_ret
  exact ⟨rfl, rfl⟩
set_option maxRecDepth 100000 in
set_option maxHeartbeats 2000000 in
theorem writesD_6 (w : World) : Calls Try.prog 204 #[.int .i64 6] w fun e w' => e = .returned (.bool true) ∧ w' = w := by
  go_enter Try.func204, Try.ntmps204
  go_wp2_with (go_at_call 161; refine (load_6 _).mono ?_; rintro e w' ⟨rfl, rfl⟩)
  go_ret
  exact ⟨rfl, rfl⟩
set_option maxRecDepth 100000 in
set_option maxHeartbeats 2000000 in
theorem target_6 (d n m a c i : Int) (w : World) : Calls Try.prog 205 #[.agg #[.int .i64 6, .int .i64 d, .int .i64 n, .int .i64 m, .int .i64 a, .int .i64 c, .int .i64 i]] w fun e w' => e = .returned (.int .i64 d) ∧ Below w.heap.size w w' := by
  rcases hb : (d == 31)
  · have hn : d ≠ 31 := by simpa using hb
    go_enter Try.func205, Try.ntmps205
    go_wp2
    go_ret
    exact ⟨rfl, (Below.refl _ _).alloc (Nat.le_refl _) _⟩
  · have hn : d = 31 := by simpa using hb
    subst hn
    go_enter Try.func205, Try.ntmps205
    go_wp2_with (go_at_call 206; refine (takesSP_6 _).mono ?_; rintro e w' ⟨rfl, rfl⟩)
    go_ret
    exact ⟨rfl, (Below.refl _ _).alloc (Nat.le_refl _) _⟩
set_option maxRecDepth 100000 in
set_option maxHeartbeats 2000000 in
theorem written_6 (d n m a c i : Int) (Bi : Nat) (w : World) (h : InsAt w Bi (.int .i64 6) (.int .i64 d) (.int .i64 n) (.int .i64 m) (.int .i64 a) (.int .i64 c) (.int .i64 i)) :
    SeqStopsK Fence.wide 4 Try.prog 203 #[.pointer (some ⟨Bi, 0, none⟩)] (fun x : Int => #[.int .i64 x]) (KpI Bi) (fun xs => xs = [d, 33]) (fun _ => True) 6 w := fun l J Jx W hW hJ hJx hY h0 => by
  have HI := Lib.hid (h.below' hW rfl)
  refine callsIn_of_wp Try.func203 rfl trivial ?_ rfl
  simp only [Try.ntmps203, List.size_toArray, List.length_cons, List.length_nil, Nat.reduceAdd, Nat.reduceSub, Array.replicate_succ, Array.replicate_zero, List.push_toArray, List.append_toArray, List.nil_append, List.cons_append]
  obtain ⟨hl, i0, i1, i2, i3, i4, i5, i6⟩ := HI.out
  gi_wp2_with (first | (refine wpListIn_skipW (by rfl) ?_; simp only [Act.put, List.setIfInBounds_toArray, List.set_cons_succ, List.set_cons_zero]) | (refine ⟨trivial, ?_⟩; gi_at_call 204; refine (callsIn_wide.2 (writesD_6 _)).mono ?_; rintro e w' ⟨rfl, rfl⟩))
  refine ⟨trivial, ?_⟩
  refine (callsIn_wide.2 (target_6 d n m a c i _)).mono ?_
  rintro e v0 ⟨rfl, hb0⟩
  obtain ⟨f0, t0, a0, b0, hy0, hR0⟩ := hY [] d v0 (hJ _ _ _ none h0 (grown_none hb0) (fun r e => by cases e)) (by simp)
  try dsimp only at hy0
  have HV0 := Lib.hid (HI.out.below' hb0 rfl)
  clear hl i0 i1 i2 i3 i4 i5 i6
  obtain ⟨hl, i0, i1, i2, i3, i4, i5, i6⟩ := HV0.out
  gi_wp2_with (first | (refine wpListIn_skipW (by rfl) ?_; simp only [Act.put, List.setIfInBounds_toArray, List.set_cons_succ, List.set_cons_zero]) | (refine ⟨trivial, ?_⟩; gi_at_call 204; refine (callsIn_wide.2 (writesD_6 _)).mono ?_; rintro e w' ⟨rfl, rfl⟩))
  refine hR0.mono ?_
  rintro e W0 (⟨rfl, hJ0, hk0⟩ | ⟨rfl, hx0⟩)
  rotate_left
  · gi_wp2_with (refine wpListIn_skipW (by rfl) ?_; simp only [Act.put, List.setIfInBounds_toArray, List.set_cons_succ, List.set_cons_zero])
    go_end0
    exact ⟨⟨_, rfl⟩, .inr ⟨[] ++ [d], by first | exact ⟨trivial, hx0⟩ | exact hx0⟩⟩
  have HI0 := Lib.hid (HV0.out.kp hk0)
  clear hl i0 i1 i2 i3 i4 i5 i6
  obtain ⟨hl, i0, i1, i2, i3, i4, i5, i6⟩ := HI0.out
  obtain ⟨f1, t1, a1, b1, hy1, hR1⟩ := hY [d] 33 W0 hJ0 (by simp)
  try dsimp only at hy1
  gi_wp2_with (first | (refine wpListIn_skipW (by rfl) ?_; simp only [Act.put, List.setIfInBounds_toArray, List.set_cons_succ, List.set_cons_zero]) | (refine ⟨trivial, ?_⟩; gi_at_call 204; refine (callsIn_wide.2 (writesD_6 _)).mono ?_; rintro e w' ⟨rfl, rfl⟩))
  refine hR1.mono ?_
  rintro e W1 (⟨rfl, hJ1, hk1⟩ | ⟨rfl, hx1⟩)
  rotate_left
  · gi_wp2_with (refine wpListIn_skipW (by rfl) ?_; simp only [Act.put, List.setIfInBounds_toArray, List.set_cons_succ, List.set_cons_zero])
    go_end0
    exact ⟨⟨_, rfl⟩, .inr ⟨[d] ++ [33], by first | exact ⟨trivial, hx1⟩ | exact hx1⟩⟩
  have HI1 := Lib.hid (HI0.out.kp hk1)
  clear hl i0 i1 i2 i3 i4 i5 i6
  obtain ⟨hl, i0, i1, i2, i3, i4, i5, i6⟩ := HI1.out
  gi_wp2_with (first | (refine wpListIn_skipW (by rfl) ?_; simp only [Act.put, List.setIfInBounds_toArray, List.set_cons_succ, List.set_cons_zero]) | (refine ⟨trivial, ?_⟩; gi_at_call 204; refine (callsIn_wide.2 (writesD_6 _)).mono ?_; rintro e w' ⟨rfl, rfl⟩))
  go_end0
  exact ⟨⟨_, rfl⟩, .inl ⟨_, rfl, hJ1⟩⟩
set_option maxRecDepth 100000 in
set_option maxHeartbeats 2000000 in
theorem load_9 (w : World) : Calls Try.prog 161 #[.int .i64 9] w fun e w' => e = .returned (.bool false) ∧ w' = w := by
  go_enter Try.func161, Try.ntmps161
  go_wp2
  go_ret
  exact ⟨rfl, rfl⟩
set_option maxRecDepth 100000 in
set_option maxHeartbeats 2000000 in
theorem writesD_9 (w : World) : Calls Try.prog 204 #[.int .i64 9] w fun e w' => e = .returned (.bool true) ∧ w' = w := by
  go_enter Try.func204, Try.ntmps204
  go_wp2_with (go_at_call 161; refine (load_9 _).mono ?_; rintro e w' ⟨rfl, rfl⟩)
  go_ret
  exact ⟨rfl, rfl⟩
set_option maxRecDepth 100000 in
set_option maxHeartbeats 2000000 in
theorem target_9 (d n m a c i : Int) (w : World) : Calls Try.prog 205 #[.agg #[.int .i64 9, .int .i64 d, .int .i64 n, .int .i64 m, .int .i64 a, .int .i64 c, .int .i64 i]] w fun e w' => e = .returned (.int .i64 d) ∧ Below w.heap.size w w' := by
  rcases hb : (d == 31)
  · have hn : d ≠ 31 := by simpa using hb
    go_enter Try.func205, Try.ntmps205
    go_wp2
    go_ret
    exact ⟨rfl, (Below.refl _ _).alloc (Nat.le_refl _) _⟩
  · have hn : d = 31 := by simpa using hb
    subst hn
    go_enter Try.func205, Try.ntmps205
    go_wp2_with (go_at_call 206; refine (takesSP_9 _).mono ?_; rintro e w' ⟨rfl, rfl⟩)
    go_ret
    exact ⟨rfl, (Below.refl _ _).alloc (Nat.le_refl _) _⟩
set_option maxRecDepth 100000 in
set_option maxHeartbeats 2000000 in
theorem written_9 (d n m a c i : Int) (Bi : Nat) (w : World) (h : InsAt w Bi (.int .i64 9) (.int .i64 d) (.int .i64 n) (.int .i64 m) (.int .i64 a) (.int .i64 c) (.int .i64 i)) :
    SeqStopsK Fence.wide 4 Try.prog 203 #[.pointer (some ⟨Bi, 0, none⟩)] (fun x : Int => #[.int .i64 x]) (KpI Bi) (fun xs => xs = [d, 33]) (fun _ => True) 6 w := fun l J Jx W hW hJ hJx hY h0 => by
  have HI := Lib.hid (h.below' hW rfl)
  refine callsIn_of_wp Try.func203 rfl trivial ?_ rfl
  simp only [Try.ntmps203, List.size_toArray, List.length_cons, List.length_nil, Nat.reduceAdd, Nat.reduceSub, Array.replicate_succ, Array.replicate_zero, List.push_toArray, List.append_toArray, List.nil_append, List.cons_append]
  obtain ⟨hl, i0, i1, i2, i3, i4, i5, i6⟩ := HI.out
  gi_wp2_with (first | (refine wpListIn_skipW (by rfl) ?_; simp only [Act.put, List.setIfInBounds_toArray, List.set_cons_succ, List.set_cons_zero]) | (refine ⟨trivial, ?_⟩; gi_at_call 204; refine (callsIn_wide.2 (writesD_9 _)).mono ?_; rintro e w' ⟨rfl, rfl⟩))
  refine ⟨trivial, ?_⟩
  refine (callsIn_wide.2 (target_9 d n m a c i _)).mono ?_
  rintro e v0 ⟨rfl, hb0⟩
  obtain ⟨f0, t0, a0, b0, hy0, hR0⟩ := hY [] d v0 (hJ _ _ _ none h0 (grown_none hb0) (fun r e => by cases e)) (by simp)
  try dsimp only at hy0
  have HV0 := Lib.hid (HI.out.below' hb0 rfl)
  clear hl i0 i1 i2 i3 i4 i5 i6
  obtain ⟨hl, i0, i1, i2, i3, i4, i5, i6⟩ := HV0.out
  gi_wp2_with (first | (refine wpListIn_skipW (by rfl) ?_; simp only [Act.put, List.setIfInBounds_toArray, List.set_cons_succ, List.set_cons_zero]) | (refine ⟨trivial, ?_⟩; gi_at_call 204; refine (callsIn_wide.2 (writesD_9 _)).mono ?_; rintro e w' ⟨rfl, rfl⟩))
  refine hR0.mono ?_
  rintro e W0 (⟨rfl, hJ0, hk0⟩ | ⟨rfl, hx0⟩)
  rotate_left
  · gi_wp2_with (refine wpListIn_skipW (by rfl) ?_; simp only [Act.put, List.setIfInBounds_toArray, List.set_cons_succ, List.set_cons_zero])
    go_end0
    exact ⟨⟨_, rfl⟩, .inr ⟨[] ++ [d], by first | exact ⟨trivial, hx0⟩ | exact hx0⟩⟩
  have HI0 := Lib.hid (HV0.out.kp hk0)
  clear hl i0 i1 i2 i3 i4 i5 i6
  obtain ⟨hl, i0, i1, i2, i3, i4, i5, i6⟩ := HI0.out
  obtain ⟨f1, t1, a1, b1, hy1, hR1⟩ := hY [d] 33 W0 hJ0 (by simp)
  try dsimp only at hy1
  gi_wp2_with (first | (refine wpListIn_skipW (by rfl) ?_; simp only [Act.put, List.setIfInBounds_toArray, List.set_cons_succ, List.set_cons_zero]) | (refine ⟨trivial, ?_⟩; gi_at_call 204; refine (callsIn_wide.2 (writesD_9 _)).mono ?_; rintro e w' ⟨rfl, rfl⟩))
  refine hR1.mono ?_
  rintro e W1 (⟨rfl, hJ1, hk1⟩ | ⟨rfl, hx1⟩)
  rotate_left
  · gi_wp2_with (refine wpListIn_skipW (by rfl) ?_; simp only [Act.put, List.setIfInBounds_toArray, List.set_cons_succ, List.set_cons_zero])
    go_end0
    exact ⟨⟨_, rfl⟩, .inr ⟨[d] ++ [33], by first | exact ⟨trivial, hx1⟩ | exact hx1⟩⟩
  have HI1 := Lib.hid (HI0.out.kp hk1)
  clear hl i0 i1 i2 i3 i4 i5 i6
  obtain ⟨hl, i0, i1, i2, i3, i4, i5, i6⟩ := HI1.out
  gi_wp2_with (first | (refine wpListIn_skipW (by rfl) ?_; simp only [Act.put, List.setIfInBounds_toArray, List.set_cons_succ, List.set_cons_zero]) | (refine ⟨trivial, ?_⟩; gi_at_call 204; refine (callsIn_wide.2 (writesD_9 _)).mono ?_; rintro e w' ⟨rfl, rfl⟩))
  go_end0
  exact ⟨⟨_, rfl⟩, .inl ⟨_, rfl, hJ1⟩⟩
set_option maxRecDepth 100000 in
set_option maxHeartbeats 2000000 in
theorem load_12 (w : World) : Calls Try.prog 161 #[.int .i64 12] w fun e w' => e = .returned (.bool false) ∧ w' = w := by
  go_enter Try.func161, Try.ntmps161
  go_wp2
  go_ret
  exact ⟨rfl, rfl⟩
set_option maxRecDepth 100000 in
set_option maxHeartbeats 2000000 in
theorem writesD_12 (w : World) : Calls Try.prog 204 #[.int .i64 12] w fun e w' => e = .returned (.bool true) ∧ w' = w := by
  go_enter Try.func204, Try.ntmps204
  go_wp2_with (go_at_call 161; refine (load_12 _).mono ?_; rintro e w' ⟨rfl, rfl⟩)
  go_ret
  exact ⟨rfl, rfl⟩
set_option maxRecDepth 100000 in
set_option maxHeartbeats 2000000 in
theorem target_12 (d n m a c i : Int) (w : World) : Calls Try.prog 205 #[.agg #[.int .i64 12, .int .i64 d, .int .i64 n, .int .i64 m, .int .i64 a, .int .i64 c, .int .i64 i]] w fun e w' => e = .returned (.int .i64 d) ∧ Below w.heap.size w w' := by
  rcases hb : (d == 31)
  · have hn : d ≠ 31 := by simpa using hb
    go_enter Try.func205, Try.ntmps205
    go_wp2
    go_ret
    exact ⟨rfl, (Below.refl _ _).alloc (Nat.le_refl _) _⟩
  · have hn : d = 31 := by simpa using hb
    subst hn
    go_enter Try.func205, Try.ntmps205
    go_wp2_with (go_at_call 206; refine (takesSP_12 _).mono ?_; rintro e w' ⟨rfl, rfl⟩)
    go_ret
    exact ⟨rfl, (Below.refl _ _).alloc (Nat.le_refl _) _⟩
set_option maxRecDepth 100000 in
set_option maxHeartbeats 2000000 in
theorem written_12 (d n m a c i : Int) (Bi : Nat) (w : World) (h : InsAt w Bi (.int .i64 12) (.int .i64 d) (.int .i64 n) (.int .i64 m) (.int .i64 a) (.int .i64 c) (.int .i64 i)) :
    SeqStopsK Fence.wide 4 Try.prog 203 #[.pointer (some ⟨Bi, 0, none⟩)] (fun x : Int => #[.int .i64 x]) (KpI Bi) (fun xs => xs = [d]) (fun _ => True) 6 w := fun l J Jx W hW hJ hJx hY h0 => by
  have HI := Lib.hid (h.below' hW rfl)
  refine callsIn_of_wp Try.func203 rfl trivial ?_ rfl
  simp only [Try.ntmps203, List.size_toArray, List.length_cons, List.length_nil, Nat.reduceAdd, Nat.reduceSub, Array.replicate_succ, Array.replicate_zero, List.push_toArray, List.append_toArray, List.nil_append, List.cons_append]
  obtain ⟨hl, i0, i1, i2, i3, i4, i5, i6⟩ := HI.out
  gi_wp2_with (first | (refine wpListIn_skipW (by rfl) ?_; simp only [Act.put, List.setIfInBounds_toArray, List.set_cons_succ, List.set_cons_zero]) | (refine ⟨trivial, ?_⟩; gi_at_call 204; refine (callsIn_wide.2 (writesD_12 _)).mono ?_; rintro e w' ⟨rfl, rfl⟩))
  refine ⟨trivial, ?_⟩
  refine (callsIn_wide.2 (target_12 d n m a c i _)).mono ?_
  rintro e v0 ⟨rfl, hb0⟩
  obtain ⟨f0, t0, a0, b0, hy0, hR0⟩ := hY [] d v0 (hJ _ _ _ none h0 (grown_none hb0) (fun r e => by cases e)) (by simp)
  try dsimp only at hy0
  have HV0 := Lib.hid (HI.out.below' hb0 rfl)
  clear hl i0 i1 i2 i3 i4 i5 i6
  obtain ⟨hl, i0, i1, i2, i3, i4, i5, i6⟩ := HV0.out
  gi_wp2_with (first | (refine wpListIn_skipW (by rfl) ?_; simp only [Act.put, List.setIfInBounds_toArray, List.set_cons_succ, List.set_cons_zero]) | (refine ⟨trivial, ?_⟩; gi_at_call 204; refine (callsIn_wide.2 (writesD_12 _)).mono ?_; rintro e w' ⟨rfl, rfl⟩))
  refine hR0.mono ?_
  rintro e W0 (⟨rfl, hJ0, hk0⟩ | ⟨rfl, hx0⟩)
  rotate_left
  · gi_wp2_with (refine wpListIn_skipW (by rfl) ?_; simp only [Act.put, List.setIfInBounds_toArray, List.set_cons_succ, List.set_cons_zero])
    go_end0
    exact ⟨⟨_, rfl⟩, .inr ⟨[] ++ [d], by first | exact ⟨trivial, hx0⟩ | exact hx0⟩⟩
  have HI0 := Lib.hid (HV0.out.kp hk0)
  clear hl i0 i1 i2 i3 i4 i5 i6
  obtain ⟨hl, i0, i1, i2, i3, i4, i5, i6⟩ := HI0.out
  gi_wp2_with (first | (refine wpListIn_skipW (by rfl) ?_; simp only [Act.put, List.setIfInBounds_toArray, List.set_cons_succ, List.set_cons_zero]) | (refine ⟨trivial, ?_⟩; gi_at_call 204; refine (callsIn_wide.2 (writesD_12 _)).mono ?_; rintro e w' ⟨rfl, rfl⟩))
  go_end0
  exact ⟨⟨_, rfl⟩, .inl ⟨_, rfl, hJ0⟩⟩
set_option maxRecDepth 100000 in
set_option maxHeartbeats 2000000 in
theorem load_15 (w : World) : Calls Try.prog 161 #[.int .i64 15] w fun e w' => e = .returned (.bool false) ∧ w' = w := by
  go_enter Try.func161, Try.ntmps161
  go_wp2
  go_ret
  exact ⟨rfl, rfl⟩
set_option maxRecDepth 100000 in
set_option maxHeartbeats 2000000 in
theorem writesD_15 (w : World) : Calls Try.prog 204 #[.int .i64 15] w fun e w' => e = .returned (.bool true) ∧ w' = w := by
  go_enter Try.func204, Try.ntmps204
  go_wp2_with (go_at_call 161; refine (load_15 _).mono ?_; rintro e w' ⟨rfl, rfl⟩)
  go_ret
  exact ⟨rfl, rfl⟩
set_option maxRecDepth 100000 in
set_option maxHeartbeats 2000000 in
theorem target_15 (d n m a c i : Int) (w : World) : Calls Try.prog 205 #[.agg #[.int .i64 15, .int .i64 d, .int .i64 n, .int .i64 m, .int .i64 a, .int .i64 c, .int .i64 i]] w fun e w' => e = .returned (.int .i64 d) ∧ Below w.heap.size w w' := by
  rcases hb : (d == 31)
  · have hn : d ≠ 31 := by simpa using hb
    go_enter Try.func205, Try.ntmps205
    go_wp2
    go_ret
    exact ⟨rfl, (Below.refl _ _).alloc (Nat.le_refl _) _⟩
  · have hn : d = 31 := by simpa using hb
    subst hn
    go_enter Try.func205, Try.ntmps205
    go_wp2_with (go_at_call 206; refine (takesSP_15 _).mono ?_; rintro e w' ⟨rfl, rfl⟩)
    go_ret
    exact ⟨rfl, (Below.refl _ _).alloc (Nat.le_refl _) _⟩
set_option maxRecDepth 100000 in
set_option maxHeartbeats 2000000 in
theorem written_15 (d n m a c i : Int) (Bi : Nat) (w : World) (h : InsAt w Bi (.int .i64 15) (.int .i64 d) (.int .i64 n) (.int .i64 m) (.int .i64 a) (.int .i64 c) (.int .i64 i)) :
    SeqStopsK Fence.wide 4 Try.prog 203 #[.pointer (some ⟨Bi, 0, none⟩)] (fun x : Int => #[.int .i64 x]) (KpI Bi) (fun xs => xs = [d]) (fun _ => True) 6 w := fun l J Jx W hW hJ hJx hY h0 => by
  have HI := Lib.hid (h.below' hW rfl)
  refine callsIn_of_wp Try.func203 rfl trivial ?_ rfl
  simp only [Try.ntmps203, List.size_toArray, List.length_cons, List.length_nil, Nat.reduceAdd, Nat.reduceSub, Array.replicate_succ, Array.replicate_zero, List.push_toArray, List.append_toArray, List.nil_append, List.cons_append]
  obtain ⟨hl, i0, i1, i2, i3, i4, i5, i6⟩ := HI.out
  gi_wp2_with (first | (refine wpListIn_skipW (by rfl) ?_; simp only [Act.put, List.setIfInBounds_toArray, List.set_cons_succ, List.set_cons_zero]) | (refine ⟨trivial, ?_⟩; gi_at_call 204; refine (callsIn_wide.2 (writesD_15 _)).mono ?_; rintro e w' ⟨rfl, rfl⟩))
  refine ⟨trivial, ?_⟩
  refine (callsIn_wide.2 (target_15 d n m a c i _)).mono ?_
  rintro e v0 ⟨rfl, hb0⟩
  obtain ⟨f0, t0, a0, b0, hy0, hR0⟩ := hY [] d v0 (hJ _ _ _ none h0 (grown_none hb0) (fun r e => by cases e)) (by simp)
  try dsimp only at hy0
  have HV0 := Lib.hid (HI.out.below' hb0 rfl)
  clear hl i0 i1 i2 i3 i4 i5 i6
  obtain ⟨hl, i0, i1, i2, i3, i4, i5, i6⟩ := HV0.out
  gi_wp2_with (first | (refine wpListIn_skipW (by rfl) ?_; simp only [Act.put, List.setIfInBounds_toArray, List.set_cons_succ, List.set_cons_zero]) | (refine ⟨trivial, ?_⟩; gi_at_call 204; refine (callsIn_wide.2 (writesD_15 _)).mono ?_; rintro e w' ⟨rfl, rfl⟩))
  refine hR0.mono ?_
  rintro e W0 (⟨rfl, hJ0, hk0⟩ | ⟨rfl, hx0⟩)
  rotate_left
  · gi_wp2_with (refine wpListIn_skipW (by rfl) ?_; simp only [Act.put, List.setIfInBounds_toArray, List.set_cons_succ, List.set_cons_zero])
    go_end0
    exact ⟨⟨_, rfl⟩, .inr ⟨[] ++ [d], by first | exact ⟨trivial, hx0⟩ | exact hx0⟩⟩
  have HI0 := Lib.hid (HV0.out.kp hk0)
  clear hl i0 i1 i2 i3 i4 i5 i6
  obtain ⟨hl, i0, i1, i2, i3, i4, i5, i6⟩ := HI0.out
  gi_wp2_with (first | (refine wpListIn_skipW (by rfl) ?_; simp only [Act.put, List.setIfInBounds_toArray, List.set_cons_succ, List.set_cons_zero]) | (refine ⟨trivial, ?_⟩; gi_at_call 204; refine (callsIn_wide.2 (writesD_15 _)).mono ?_; rintro e w' ⟨rfl, rfl⟩))
  go_end0
  exact ⟨⟨_, rfl⟩, .inl ⟨_, rfl, hJ0⟩⟩
set_option maxRecDepth 100000 in
set_option maxHeartbeats 2000000 in
theorem load_18 (w : World) : Calls Try.prog 161 #[.int .i64 18] w fun e w' => e = .returned (.bool false) ∧ w' = w := by
  go_enter Try.func161, Try.ntmps161
  go_wp2
  go_ret
  exact ⟨rfl, rfl⟩
set_option maxRecDepth 100000 in
set_option maxHeartbeats 2000000 in
theorem writesD_18 (w : World) : Calls Try.prog 204 #[.int .i64 18] w fun e w' => e = .returned (.bool true) ∧ w' = w := by
  go_enter Try.func204, Try.ntmps204
  go_wp2_with (go_at_call 161; refine (load_18 _).mono ?_; rintro e w' ⟨rfl, rfl⟩)
  go_ret
  exact ⟨rfl, rfl⟩
set_option maxRecDepth 100000 in
set_option maxHeartbeats 2000000 in
theorem target_18 (d n m a c i : Int) (w : World) : Calls Try.prog 205 #[.agg #[.int .i64 18, .int .i64 d, .int .i64 n, .int .i64 m, .int .i64 a, .int .i64 c, .int .i64 i]] w fun e w' => e = .returned (.int .i64 d) ∧ Below w.heap.size w w' := by
  rcases hb : (d == 31)
  · have hn : d ≠ 31 := by simpa using hb
    go_enter Try.func205, Try.ntmps205
    go_wp2
    go_ret
    exact ⟨rfl, (Below.refl _ _).alloc (Nat.le_refl _) _⟩
  · have hn : d = 31 := by simpa using hb
    subst hn
    go_enter Try.func205, Try.ntmps205
    go_wp2_with (go_at_call 206; refine (takesSP_18 _).mono ?_; rintro e w' ⟨rfl, rfl⟩)
    go_ret
    exact ⟨rfl, (Below.refl _ _).alloc (Nat.le_refl _) _⟩
set_option maxRecDepth 100000 in
set_option maxHeartbeats 2000000 in
theorem written_18 (d n m a c i : Int) (Bi : Nat) (w : World) (h : InsAt w Bi (.int .i64 18) (.int .i64 d) (.int .i64 n) (.int .i64 m) (.int .i64 a) (.int .i64 c) (.int .i64 i)) :
    SeqStopsK Fence.wide 4 Try.prog 203 #[.pointer (some ⟨Bi, 0, none⟩)] (fun x : Int => #[.int .i64 x]) (KpI Bi) (fun xs => xs = [d]) (fun _ => True) 6 w := fun l J Jx W hW hJ hJx hY h0 => by
  have HI := Lib.hid (h.below' hW rfl)
  refine callsIn_of_wp Try.func203 rfl trivial ?_ rfl
  simp only [Try.ntmps203, List.size_toArray, List.length_cons, List.length_nil, Nat.reduceAdd, Nat.reduceSub, Array.replicate_succ, Array.replicate_zero, List.push_toArray, List.append_toArray, List.nil_append, List.cons_append]
  obtain ⟨hl, i0, i1, i2, i3, i4, i5, i6⟩ := HI.out
  gi_wp2_with (first | (refine wpListIn_skipW (by rfl) ?_; simp only [Act.put, List.setIfInBounds_toArray, List.set_cons_succ, List.set_cons_zero]) | (refine ⟨trivial, ?_⟩; gi_at_call 204; refine (callsIn_wide.2 (writesD_18 _)).mono ?_; rintro e w' ⟨rfl, rfl⟩))
  refine ⟨trivial, ?_⟩
  refine (callsIn_wide.2 (target_18 d n m a c i _)).mono ?_
  rintro e v0 ⟨rfl, hb0⟩
  obtain ⟨f0, t0, a0, b0, hy0, hR0⟩ := hY [] d v0 (hJ _ _ _ none h0 (grown_none hb0) (fun r e => by cases e)) (by simp)
  try dsimp only at hy0
  have HV0 := Lib.hid (HI.out.below' hb0 rfl)
  clear hl i0 i1 i2 i3 i4 i5 i6
  obtain ⟨hl, i0, i1, i2, i3, i4, i5, i6⟩ := HV0.out
  gi_wp2_with (first | (refine wpListIn_skipW (by rfl) ?_; simp only [Act.put, List.setIfInBounds_toArray, List.set_cons_succ, List.set_cons_zero]) | (refine ⟨trivial, ?_⟩; gi_at_call 204; refine (callsIn_wide.2 (writesD_18 _)).mono ?_; rintro e w' ⟨rfl, rfl⟩))
  refine hR0.mono ?_
  rintro e W0 (⟨rfl, hJ0, hk0⟩ | ⟨rfl, hx0⟩)
  rotate_left
  · gi_wp2_with (refine wpListIn_skipW (by rfl) ?_; simp only [Act.put, List.setIfInBounds_toArray, List.set_cons_succ, List.set_cons_zero])
    go_end0
    exact ⟨⟨_, rfl⟩, .inr ⟨[] ++ [d], by first | exact ⟨trivial, hx0⟩ | exact hx0⟩⟩
  have HI0 := Lib.hid (HV0.out.kp hk0)
  clear hl i0 i1 i2 i3 i4 i5 i6
  obtain ⟨hl, i0, i1, i2, i3, i4, i5, i6⟩ := HI0.out
  gi_wp2_with (first | (refine wpListIn_skipW (by rfl) ?_; simp only [Act.put, List.setIfInBounds_toArray, List.set_cons_succ, List.set_cons_zero]) | (refine ⟨trivial, ?_⟩; gi_at_call 204; refine (callsIn_wide.2 (writesD_18 _)).mono ?_; rintro e w' ⟨rfl, rfl⟩))
  go_end0
  exact ⟨⟨_, rfl⟩, .inl ⟨_, rfl, hJ0⟩⟩
set_option maxRecDepth 100000 in
set_option maxHeartbeats 2000000 in
theorem load_21 (w : World) : Calls Try.prog 161 #[.int .i64 21] w fun e w' => e = .returned (.bool false) ∧ w' = w := by
  go_enter Try.func161, Try.ntmps161
  go_wp2
  go_ret
  exact ⟨rfl, rfl⟩
set_option maxRecDepth 100000 in
set_option maxHeartbeats 2000000 in
theorem writesD_21 (w : World) : Calls Try.prog 204 #[.int .i64 21] w fun e w' => e = .returned (.bool false) ∧ w' = w := by
  go_enter Try.func204, Try.ntmps204
  go_wp2_with (go_at_call 161; refine (load_21 _).mono ?_; rintro e w' ⟨rfl, rfl⟩)
  go_ret
  exact ⟨rfl, rfl⟩
set_option maxRecDepth 100000 in
set_option maxHeartbeats 2000000 in
theorem written_21 (d n m a c i : Int) (Bi : Nat) (w : World) (h : InsAt w Bi (.int .i64 21) (.int .i64 d) (.int .i64 n) (.int .i64 m) (.int .i64 a) (.int .i64 c) (.int .i64 i)) :
    SeqStopsK Fence.wide 4 Try.prog 203 #[.pointer (some ⟨Bi, 0, none⟩)] (fun x : Int => #[.int .i64 x]) (KpI Bi) (fun xs => xs = []) (fun _ => True) 6 w := fun l J Jx W hW hJ hJx hY h0 => by
  have HI := Lib.hid (h.below' hW rfl)
  refine callsIn_of_wp Try.func203 rfl trivial ?_ rfl
  simp only [Try.ntmps203, List.size_toArray, List.length_cons, List.length_nil, Nat.reduceAdd, Nat.reduceSub, Array.replicate_succ, Array.replicate_zero, List.push_toArray, List.append_toArray, List.nil_append, List.cons_append]
  obtain ⟨hl, i0, i1, i2, i3, i4, i5, i6⟩ := HI.out
  gi_wp2_with (first | (refine wpListIn_skipW (by rfl) ?_; simp only [Act.put, List.setIfInBounds_toArray, List.set_cons_succ, List.set_cons_zero]) | (refine ⟨trivial, ?_⟩; gi_at_call 204; refine (callsIn_wide.2 (writesD_21 _)).mono ?_; rintro e w' ⟨rfl, rfl⟩))
  go_end0
  exact ⟨⟨_, rfl⟩, .inl ⟨_, rfl, h0⟩⟩
set_option maxRecDepth 100000 in
set_option maxHeartbeats 2000000 in
theorem load_24 (w : World) : Calls Try.prog 161 #[.int .i64 24] w fun e w' => e = .returned (.bool false) ∧ w' = w := by
  go_enter Try.func161, Try.ntmps161
  go_wp2
  go_ret
  exact ⟨rfl, rfl⟩
set_option maxRecDepth 100000 in
set_option maxHeartbeats 2000000 in
theorem writesD_24 (w : World) : Calls Try.prog 204 #[.int .i64 24] w fun e w' => e = .returned (.bool false) ∧ w' = w := by
  go_enter Try.func204, Try.ntmps204
  go_wp2_with (go_at_call 161; refine (load_24 _).mono ?_; rintro e w' ⟨rfl, rfl⟩)
  go_ret
  exact ⟨rfl, rfl⟩
set_option maxRecDepth 100000 in
set_option maxHeartbeats 2000000 in
theorem written_24 (d n m a c i : Int) (Bi : Nat) (w : World) (h : InsAt w Bi (.int .i64 24) (.int .i64 d) (.int .i64 n) (.int .i64 m) (.int .i64 a) (.int .i64 c) (.int .i64 i)) :
    SeqStopsK Fence.wide 4 Try.prog 203 #[.pointer (some ⟨Bi, 0, none⟩)] (fun x : Int => #[.int .i64 x]) (KpI Bi) (fun xs => xs = [30]) (fun _ => True) 6 w := fun l J Jx W hW hJ hJx hY h0 => by
  have HI := Lib.hid (h.below' hW rfl)
  refine callsIn_of_wp Try.func203 rfl trivial ?_ rfl
  simp only [Try.ntmps203, List.size_toArray, List.length_cons, List.length_nil, Nat.reduceAdd, Nat.reduceSub, Array.replicate_succ, Array.replicate_zero, List.push_toArray, List.append_toArray, List.nil_append, List.cons_append]
  obtain ⟨hl, i0, i1, i2, i3, i4, i5, i6⟩ := HI.out
  obtain ⟨f0, t0, a0, b0, hy0, hR0⟩ := hY [] 30 W h0 (by simp)
  try dsimp only at hy0
  gi_wp2_with (first | (refine wpListIn_skipW (by rfl) ?_; simp only [Act.put, List.setIfInBounds_toArray, List.set_cons_succ, List.set_cons_zero]) | (refine ⟨trivial, ?_⟩; gi_at_call 204; refine (callsIn_wide.2 (writesD_24 _)).mono ?_; rintro e w' ⟨rfl, rfl⟩))
  refine hR0.mono ?_
  rintro e W0 (⟨rfl, hJ0, hk0⟩ | ⟨rfl, hx0⟩)
  rotate_left
  · gi_wp2_with (refine wpListIn_skipW (by rfl) ?_; simp only [Act.put, List.setIfInBounds_toArray, List.set_cons_succ, List.set_cons_zero])
    go_end0
    exact ⟨⟨_, rfl⟩, .inr ⟨[] ++ [30], by first | exact ⟨trivial, hx0⟩ | exact hx0⟩⟩
  have HI0 := Lib.hid (HI.out.kp hk0)
  clear hl i0 i1 i2 i3 i4 i5 i6
  obtain ⟨hl, i0, i1, i2, i3, i4, i5, i6⟩ := HI0.out
  gi_wp2_with (first | (refine wpListIn_skipW (by rfl) ?_; simp only [Act.put, List.setIfInBounds_toArray, List.set_cons_succ, List.set_cons_zero]) | (refine ⟨trivial, ?_⟩; gi_at_call 204; refine (callsIn_wide.2 (writesD_24 _)).mono ?_; rintro e w' ⟨rfl, rfl⟩))
  go_end0
  exact ⟨⟨_, rfl⟩, .inl ⟨_, rfl, hJ0⟩⟩
set_option maxRecDepth 100000 in
set_option maxHeartbeats 2000000 in
theorem load_27 (w : World) : Calls Try.prog 161 #[.int .i64 27] w fun e w' => e = .returned (.bool false) ∧ w' = w := by
  go_enter Try.func161, Try.ntmps161
  go_wp2
  go_ret
  exact ⟨rfl, rfl⟩
set_option maxRecDepth 100000 in
set_option maxHeartbeats 2000000 in
theorem writesD_27 (w : World) : Calls Try.prog 204 #[.int .i64 27] w fun e w' => e = .returned (.bool false) ∧ w' = w := by
  go_enter Try.func204, Try.ntmps204
  go_wp2_with (go_at_call 161; refine (load_27 _).mono ?_; rintro e w' ⟨rfl, rfl⟩)
  go_ret
  exact ⟨rfl, rfl⟩
set_option maxRecDepth 100000 in
set_option maxHeartbeats 2000000 in
theorem written_27 (d n m a c i : Int) (Bi : Nat) (w : World) (h : InsAt w Bi (.int .i64 27) (.int .i64 d) (.int .i64 n) (.int .i64 m) (.int .i64 a) (.int .i64 c) (.int .i64 i)) :
    SeqStopsK Fence.wide 4 Try.prog 203 #[.pointer (some ⟨Bi, 0, none⟩)] (fun x : Int => #[.int .i64 x]) (KpI Bi) (fun xs => xs = []) (fun _ => True) 6 w := fun l J Jx W hW hJ hJx hY h0 => by
  have HI := Lib.hid (h.below' hW rfl)
  refine callsIn_of_wp Try.func203 rfl trivial ?_ rfl
  simp only [Try.ntmps203, List.size_toArray, List.length_cons, List.length_nil, Nat.reduceAdd, Nat.reduceSub, Array.replicate_succ, Array.replicate_zero, List.push_toArray, List.append_toArray, List.nil_append, List.cons_append]
  obtain ⟨hl, i0, i1, i2, i3, i4, i5, i6⟩ := HI.out
  gi_wp2_with (first | (refine wpListIn_skipW (by rfl) ?_; simp only [Act.put, List.setIfInBounds_toArray, List.set_cons_succ, List.set_cons_zero]) | (refine ⟨trivial, ?_⟩; gi_at_call 204; refine (callsIn_wide.2 (writesD_27 _)).mono ?_; rintro e w' ⟨rfl, rfl⟩))
  go_end0
  exact ⟨⟨_, rfl⟩, .inl ⟨_, rfl, h0⟩⟩
set_option maxRecDepth 100000 in
set_option maxHeartbeats 2000000 in
theorem load_30 (w : World) : Calls Try.prog 161 #[.int .i64 30] w fun e w' => e = .returned (.bool true) ∧ w' = w := by
  go_enter Try.func161, Try.ntmps161
  go_wp2
  go_ret
  exact ⟨rfl, rfl⟩
set_option maxRecDepth 100000 in
set_option maxHeartbeats 2000000 in
theorem writesD_30 (w : World) : Calls Try.prog 204 #[.int .i64 30] w fun e w' => e = .returned (.bool true) ∧ w' = w := by
  go_enter Try.func204, Try.ntmps204
  go_wp2_with (go_at_call 161; refine (load_30 _).mono ?_; rintro e w' ⟨rfl, rfl⟩)
  go_ret
  exact ⟨rfl, rfl⟩
set_option maxRecDepth 100000 in
set_option maxHeartbeats 2000000 in
theorem target_30 (d n m a c i : Int) (w : World) : Calls Try.prog 205 #[.agg #[.int .i64 30, .int .i64 d, .int .i64 n, .int .i64 m, .int .i64 a, .int .i64 c, .int .i64 i]] w fun e w' => e = .returned (.int .i64 d) ∧ Below w.heap.size w w' := by
  rcases hb : (d == 31)
  · have hn : d ≠ 31 := by simpa using hb
    go_enter Try.func205, Try.ntmps205
    go_wp2
    go_ret
    exact ⟨rfl, (Below.refl _ _).alloc (Nat.le_refl _) _⟩
  · have hn : d = 31 := by simpa using hb
    subst hn
    go_enter Try.func205, Try.ntmps205
    go_wp2_with (go_at_call 206; refine (takesSP_30 _).mono ?_; rintro e w' ⟨rfl, rfl⟩)
    go_ret
    exact ⟨rfl, (Below.refl _ _).alloc (Nat.le_refl _) _⟩
set_option maxRecDepth 100000 in
set_option maxHeartbeats 2000000 in
theorem written_30 (d n m a c i : Int) (Bi : Nat) (w : World) (h : InsAt w Bi (.int .i64 30) (.int .i64 d) (.int .i64 n) (.int .i64 m) (.int .i64 a) (.int .i64 c) (.int .i64 i)) :
    SeqStopsK Fence.wide 4 Try.prog 203 #[.pointer (some ⟨Bi, 0, none⟩)] (fun x : Int => #[.int .i64 x]) (KpI Bi) (fun xs => xs = [d]) (fun _ => True) 6 w := fun l J Jx W hW hJ hJx hY h0 => by
  have HI := Lib.hid (h.below' hW rfl)
  refine callsIn_of_wp Try.func203 rfl trivial ?_ rfl
  simp only [Try.ntmps203, List.size_toArray, List.length_cons, List.length_nil, Nat.reduceAdd, Nat.reduceSub, Array.replicate_succ, Array.replicate_zero, List.push_toArray, List.append_toArray, List.nil_append, List.cons_append]
  obtain ⟨hl, i0, i1, i2, i3, i4, i5, i6⟩ := HI.out
  gi_wp2_with (first | (refine wpListIn_skipW (by rfl) ?_; simp only [Act.put, List.setIfInBounds_toArray, List.set_cons_succ, List.set_cons_zero]) | (refine ⟨trivial, ?_⟩; gi_at_call 204; refine (callsIn_wide.2 (writesD_30 _)).mono ?_; rintro e w' ⟨rfl, rfl⟩))
  refine ⟨trivial, ?_⟩
  refine (callsIn_wide.2 (target_30 d n m a c i _)).mono ?_
  rintro e v0 ⟨rfl, hb0⟩
  obtain ⟨f0, t0, a0, b0, hy0, hR0⟩ := hY [] d v0 (hJ _ _ _ none h0 (grown_none hb0) (fun r e => by cases e)) (by simp)
  try dsimp only at hy0
  have HV0 := Lib.hid (HI.out.below' hb0 rfl)
  clear hl i0 i1 i2 i3 i4 i5 i6
  obtain ⟨hl, i0, i1, i2, i3, i4, i5, i6⟩ := HV0.out
  gi_wp2_with (first | (refine wpListIn_skipW (by rfl) ?_; simp only [Act.put, List.setIfInBounds_toArray, List.set_cons_succ, List.set_cons_zero]) | (refine ⟨trivial, ?_⟩; gi_at_call 204; refine (callsIn_wide.2 (writesD_30 _)).mono ?_; rintro e w' ⟨rfl, rfl⟩))
  refine hR0.mono ?_
  rintro e W0 (⟨rfl, hJ0, hk0⟩ | ⟨rfl, hx0⟩)
  rotate_left
  · gi_wp2_with (refine wpListIn_skipW (by rfl) ?_; simp only [Act.put, List.setIfInBounds_toArray, List.set_cons_succ, List.set_cons_zero])
    go_end0
    exact ⟨⟨_, rfl⟩, .inr ⟨[] ++ [d], by first | exact ⟨trivial, hx0⟩ | exact hx0⟩⟩
  have HI0 := Lib.hid (HV0.out.kp hk0)
  clear hl i0 i1 i2 i3 i4 i5 i6
  obtain ⟨hl, i0, i1, i2, i3, i4, i5, i6⟩ := HI0.out
  gi_wp2_with (first | (refine wpListIn_skipW (by rfl) ?_; simp only [Act.put, List.setIfInBounds_toArray, List.set_cons_succ, List.set_cons_zero]) | (refine ⟨trivial, ?_⟩; gi_at_call 204; refine (callsIn_wide.2 (writesD_30 _)).mono ?_; rintro e w' ⟨rfl, rfl⟩))
  go_end0
  exact ⟨⟨_, rfl⟩, .inl ⟨_, rfl, hJ0⟩⟩
set_option maxRecDepth 100000 in
set_option maxHeartbeats 2000000 in
theorem load_33 (w : World) : Calls Try.prog 161 #[.int .i64 33] w fun e w' => e = .returned (.bool true) ∧ w' = w := by
  go_enter Try.func161, Try.ntmps161
  go_wp2
  go_ret
  exact ⟨rfl, rfl⟩
set_option maxRecDepth 100000 in
set_option maxHeartbeats 2000000 in
theorem writesD_33 (w : World) : Calls Try.prog 204 #[.int .i64 33] w fun e w' => e = .returned (.bool true) ∧ w' = w := by
  go_enter Try.func204, Try.ntmps204
  go_wp2_with (go_at_call 161; refine (load_33 _).mono ?_; rintro e w' ⟨rfl, rfl⟩)
  go_ret
  exact ⟨rfl, rfl⟩
set_option maxRecDepth 100000 in
set_option maxHeartbeats 2000000 in
theorem target_33 (d n m a c i : Int) (w : World) : Calls Try.prog 205 #[.agg #[.int .i64 33, .int .i64 d, .int .i64 n, .int .i64 m, .int .i64 a, .int .i64 c, .int .i64 i]] w fun e w' => e = .returned (.int .i64 d) ∧ Below w.heap.size w w' := by
  rcases hb : (d == 31)
  · have hn : d ≠ 31 := by simpa using hb
    go_enter Try.func205, Try.ntmps205
    go_wp2
    go_ret
    exact ⟨rfl, (Below.refl _ _).alloc (Nat.le_refl _) _⟩
  · have hn : d = 31 := by simpa using hb
    subst hn
    go_enter Try.func205, Try.ntmps205
    go_wp2_with (go_at_call 206; refine (takesSP_33 _).mono ?_; rintro e w' ⟨rfl, rfl⟩)
    go_ret
    exact ⟨rfl, (Below.refl _ _).alloc (Nat.le_refl _) _⟩
set_option maxRecDepth 100000 in
set_option maxHeartbeats 2000000 in
theorem written_33 (d n m a c i : Int) (Bi : Nat) (w : World) (h : InsAt w Bi (.int .i64 33) (.int .i64 d) (.int .i64 n) (.int .i64 m) (.int .i64 a) (.int .i64 c) (.int .i64 i)) :
    SeqStopsK Fence.wide 4 Try.prog 203 #[.pointer (some ⟨Bi, 0, none⟩)] (fun x : Int => #[.int .i64 x]) (KpI Bi) (fun xs => xs = [d]) (fun _ => True) 6 w := fun l J Jx W hW hJ hJx hY h0 => by
  have HI := Lib.hid (h.below' hW rfl)
  refine callsIn_of_wp Try.func203 rfl trivial ?_ rfl
  simp only [Try.ntmps203, List.size_toArray, List.length_cons, List.length_nil, Nat.reduceAdd, Nat.reduceSub, Array.replicate_succ, Array.replicate_zero, List.push_toArray, List.append_toArray, List.nil_append, List.cons_append]
  obtain ⟨hl, i0, i1, i2, i3, i4, i5, i6⟩ := HI.out
  gi_wp2_with (first | (refine wpListIn_skipW (by rfl) ?_; simp only [Act.put, List.setIfInBounds_toArray, List.set_cons_succ, List.set_cons_zero]) | (refine ⟨trivial, ?_⟩; gi_at_call 204; refine (callsIn_wide.2 (writesD_33 _)).mono ?_; rintro e w' ⟨rfl, rfl⟩))
  refine ⟨trivial, ?_⟩
  refine (callsIn_wide.2 (target_33 d n m a c i _)).mono ?_
  rintro e v0 ⟨rfl, hb0⟩
  obtain ⟨f0, t0, a0, b0, hy0, hR0⟩ := hY [] d v0 (hJ _ _ _ none h0 (grown_none hb0) (fun r e => by cases e)) (by simp)
  try dsimp only at hy0
  have HV0 := Lib.hid (HI.out.below' hb0 rfl)
  clear hl i0 i1 i2 i3 i4 i5 i6
  obtain ⟨hl, i0, i1, i2, i3, i4, i5, i6⟩ := HV0.out
  gi_wp2_with (first | (refine wpListIn_skipW (by rfl) ?_; simp only [Act.put, List.setIfInBounds_toArray, List.set_cons_succ, List.set_cons_zero]) | (refine ⟨trivial, ?_⟩; gi_at_call 204; refine (callsIn_wide.2 (writesD_33 _)).mono ?_; rintro e w' ⟨rfl, rfl⟩))
  refine hR0.mono ?_
  rintro e W0 (⟨rfl, hJ0, hk0⟩ | ⟨rfl, hx0⟩)
  rotate_left
  · gi_wp2_with (refine wpListIn_skipW (by rfl) ?_; simp only [Act.put, List.setIfInBounds_toArray, List.set_cons_succ, List.set_cons_zero])
    go_end0
    exact ⟨⟨_, rfl⟩, .inr ⟨[] ++ [d], by first | exact ⟨trivial, hx0⟩ | exact hx0⟩⟩
  have HI0 := Lib.hid (HV0.out.kp hk0)
  clear hl i0 i1 i2 i3 i4 i5 i6
  obtain ⟨hl, i0, i1, i2, i3, i4, i5, i6⟩ := HI0.out
  gi_wp2_with (first | (refine wpListIn_skipW (by rfl) ?_; simp only [Act.put, List.setIfInBounds_toArray, List.set_cons_succ, List.set_cons_zero]) | (refine ⟨trivial, ?_⟩; gi_at_call 204; refine (callsIn_wide.2 (writesD_33 _)).mono ?_; rintro e w' ⟨rfl, rfl⟩))
  go_end0
  exact ⟨⟨_, rfl⟩, .inl ⟨_, rfl, hJ0⟩⟩
set_option maxRecDepth 100000 in
set_option maxHeartbeats 2000000 in
theorem load_36 (w : World) : Calls Try.prog 161 #[.int .i64 36] w fun e w' => e = .returned (.bool false) ∧ w' = w := by
  go_enter Try.func161, Try.ntmps161
  go_wp2
  go_ret
  exact ⟨rfl, rfl⟩
set_option maxRecDepth 100000 in
set_option maxHeartbeats 2000000 in
theorem writesD_36 (w : World) : Calls Try.prog 204 #[.int .i64 36] w fun e w' => e = .returned (.bool true) ∧ w' = w := by
  go_enter Try.func204, Try.ntmps204
  go_wp2_with (go_at_call 161; refine (load_36 _).mono ?_; rintro e w' ⟨rfl, rfl⟩)
  go_ret
  exact ⟨rfl, rfl⟩
set_option maxRecDepth 100000 in
set_option maxHeartbeats 2000000 in
theorem target_36 (d n m a c i : Int) (w : World) : Calls Try.prog 205 #[.agg #[.int .i64 36, .int .i64 d, .int .i64 n, .int .i64 m, .int .i64 a, .int .i64 c, .int .i64 i]] w fun e w' => e = .returned (.int .i64 d) ∧ Below w.heap.size w w' := by
  rcases hb : (d == 31)
  · have hn : d ≠ 31 := by simpa using hb
    go_enter Try.func205, Try.ntmps205
    go_wp2
    go_ret
    exact ⟨rfl, (Below.refl _ _).alloc (Nat.le_refl _) _⟩
  · have hn : d = 31 := by simpa using hb
    subst hn
    go_enter Try.func205, Try.ntmps205
    go_wp2_with (go_at_call 206; refine (takesSP_36 _).mono ?_; rintro e w' ⟨rfl, rfl⟩)
    go_ret
    exact ⟨rfl, (Below.refl _ _).alloc (Nat.le_refl _) _⟩
set_option maxRecDepth 100000 in
set_option maxHeartbeats 2000000 in
theorem written_36 (d n m a c i : Int) (Bi : Nat) (w : World) (h : InsAt w Bi (.int .i64 36) (.int .i64 d) (.int .i64 n) (.int .i64 m) (.int .i64 a) (.int .i64 c) (.int .i64 i)) :
    SeqStopsK Fence.wide 4 Try.prog 203 #[.pointer (some ⟨Bi, 0, none⟩)] (fun x : Int => #[.int .i64 x]) (KpI Bi) (fun xs => xs = [d]) (fun _ => True) 6 w := fun l J Jx W hW hJ hJx hY h0 => by
  have HI := Lib.hid (h.below' hW rfl)
  refine callsIn_of_wp Try.func203 rfl trivial ?_ rfl
  simp only [Try.ntmps203, List.size_toArray, List.length_cons, List.length_nil, Nat.reduceAdd, Nat.reduceSub, Array.replicate_succ, Array.replicate_zero, List.push_toArray, List.append_toArray, List.nil_append, List.cons_append]
  obtain ⟨hl, i0, i1, i2, i3, i4, i5, i6⟩ := HI.out
  gi_wp2_with (first | (refine wpListIn_skipW (by rfl) ?_; simp only [Act.put, List.setIfInBounds_toArray, List.set_cons_succ, List.set_cons_zero]) | (refine ⟨trivial, ?_⟩; gi_at_call 204; refine (callsIn_wide.2 (writesD_36 _)).mono ?_; rintro e w' ⟨rfl, rfl⟩))
  refine ⟨trivial, ?_⟩
  refine (callsIn_wide.2 (target_36 d n m a c i _)).mono ?_
  rintro e v0 ⟨rfl, hb0⟩
  obtain ⟨f0, t0, a0, b0, hy0, hR0⟩ := hY [] d v0 (hJ _ _ _ none h0 (grown_none hb0) (fun r e => by cases e)) (by simp)
  try dsimp only at hy0
  have HV0 := Lib.hid (HI.out.below' hb0 rfl)
  clear hl i0 i1 i2 i3 i4 i5 i6
  obtain ⟨hl, i0, i1, i2, i3, i4, i5, i6⟩ := HV0.out
  gi_wp2_with (first | (refine wpListIn_skipW (by rfl) ?_; simp only [Act.put, List.setIfInBounds_toArray, List.set_cons_succ, List.set_cons_zero]) | (refine ⟨trivial, ?_⟩; gi_at_call 204; refine (callsIn_wide.2 (writesD_36 _)).mono ?_; rintro e w' ⟨rfl, rfl⟩))
  refine hR0.mono ?_
  rintro e W0 (⟨rfl, hJ0, hk0⟩ | ⟨rfl, hx0⟩)
  rotate_left
  · gi_wp2_with (refine wpListIn_skipW (by rfl) ?_; simp only [Act.put, List.setIfInBounds_toArray, List.set_cons_succ, List.set_cons_zero])
    go_end0
    exact ⟨⟨_, rfl⟩, .inr ⟨[] ++ [d], by first | exact ⟨trivial, hx0⟩ | exact hx0⟩⟩
  have HI0 := Lib.hid (HV0.out.kp hk0)
  clear hl i0 i1 i2 i3 i4 i5 i6
  obtain ⟨hl, i0, i1, i2, i3, i4, i5, i6⟩ := HI0.out
  gi_wp2_with (first | (refine wpListIn_skipW (by rfl) ?_; simp only [Act.put, List.setIfInBounds_toArray, List.set_cons_succ, List.set_cons_zero]) | (refine ⟨trivial, ?_⟩; gi_at_call 204; refine (callsIn_wide.2 (writesD_36 _)).mono ?_; rintro e w' ⟨rfl, rfl⟩))
  go_end0
  exact ⟨⟨_, rfl⟩, .inl ⟨_, rfl, hJ0⟩⟩
set_option maxRecDepth 100000 in
set_option maxHeartbeats 2000000 in
theorem load_39 (w : World) : Calls Try.prog 161 #[.int .i64 39] w fun e w' => e = .returned (.bool false) ∧ w' = w := by
  go_enter Try.func161, Try.ntmps161
  go_wp2
  go_ret
  exact ⟨rfl, rfl⟩
set_option maxRecDepth 100000 in
set_option maxHeartbeats 2000000 in
theorem writesD_39 (w : World) : Calls Try.prog 204 #[.int .i64 39] w fun e w' => e = .returned (.bool false) ∧ w' = w := by
  go_enter Try.func204, Try.ntmps204
  go_wp2_with (go_at_call 161; refine (load_39 _).mono ?_; rintro e w' ⟨rfl, rfl⟩)
  go_ret
  exact ⟨rfl, rfl⟩
set_option maxRecDepth 100000 in
set_option maxHeartbeats 2000000 in
theorem written_39 (d n m a c i : Int) (Bi : Nat) (w : World) (h : InsAt w Bi (.int .i64 39) (.int .i64 d) (.int .i64 n) (.int .i64 m) (.int .i64 a) (.int .i64 c) (.int .i64 i)) :
    SeqStopsK Fence.wide 4 Try.prog 203 #[.pointer (some ⟨Bi, 0, none⟩)] (fun x : Int => #[.int .i64 x]) (KpI Bi) (fun xs => xs = []) (fun _ => True) 6 w := fun l J Jx W hW hJ hJx hY h0 => by
  have HI := Lib.hid (h.below' hW rfl)
  refine callsIn_of_wp Try.func203 rfl trivial ?_ rfl
  simp only [Try.ntmps203, List.size_toArray, List.length_cons, List.length_nil, Nat.reduceAdd, Nat.reduceSub, Array.replicate_succ, Array.replicate_zero, List.push_toArray, List.append_toArray, List.nil_append, List.cons_append]
  obtain ⟨hl, i0, i1, i2, i3, i4, i5, i6⟩ := HI.out
  gi_wp2_with (first | (refine wpListIn_skipW (by rfl) ?_; simp only [Act.put, List.setIfInBounds_toArray, List.set_cons_succ, List.set_cons_zero]) | (refine ⟨trivial, ?_⟩; gi_at_call 204; refine (callsIn_wide.2 (writesD_39 _)).mono ?_; rintro e w' ⟨rfl, rfl⟩))
  go_end0
  exact ⟨⟨_, rfl⟩, .inl ⟨_, rfl, h0⟩⟩
set_option maxRecDepth 100000 in
set_option maxHeartbeats 2000000 in
theorem load_42 (w : World) : Calls Try.prog 161 #[.int .i64 42] w fun e w' => e = .returned (.bool false) ∧ w' = w := by
  go_enter Try.func161, Try.ntmps161
  go_wp2
  go_ret
  exact ⟨rfl, rfl⟩
set_option maxRecDepth 100000 in
set_option maxHeartbeats 2000000 in
theorem writesD_42 (w : World) : Calls Try.prog 204 #[.int .i64 42] w fun e w' => e = .returned (.bool false) ∧ w' = w := by
  go_enter Try.func204, Try.ntmps204
  go_wp2_with (go_at_call 161; refine (load_42 _).mono ?_; rintro e w' ⟨rfl, rfl⟩)
  go_ret
  exact ⟨rfl, rfl⟩
set_option maxRecDepth 100000 in
set_option maxHeartbeats 2000000 in
theorem written_42 (d n m a c i : Int) (Bi : Nat) (w : World) (h : InsAt w Bi (.int .i64 42) (.int .i64 d) (.int .i64 n) (.int .i64 m) (.int .i64 a) (.int .i64 c) (.int .i64 i)) :
    SeqStopsK Fence.wide 4 Try.prog 203 #[.pointer (some ⟨Bi, 0, none⟩)] (fun x : Int => #[.int .i64 x]) (KpI Bi) (fun xs => xs = []) (fun _ => True) 6 w := fun l J Jx W hW hJ hJx hY h0 => by
  have HI := Lib.hid (h.below' hW rfl)
  refine callsIn_of_wp Try.func203 rfl trivial ?_ rfl
  simp only [Try.ntmps203, List.size_toArray, List.length_cons, List.length_nil, Nat.reduceAdd, Nat.reduceSub, Array.replicate_succ, Array.replicate_zero, List.push_toArray, List.append_toArray, List.nil_append, List.cons_append]
  obtain ⟨hl, i0, i1, i2, i3, i4, i5, i6⟩ := HI.out
  gi_wp2_with (first | (refine wpListIn_skipW (by rfl) ?_; simp only [Act.put, List.setIfInBounds_toArray, List.set_cons_succ, List.set_cons_zero]) | (refine ⟨trivial, ?_⟩; gi_at_call 204; refine (callsIn_wide.2 (writesD_42 _)).mono ?_; rintro e w' ⟨rfl, rfl⟩))
  go_end0
  exact ⟨⟨_, rfl⟩, .inl ⟨_, rfl, h0⟩⟩
end Go.Proofs.Ytnbpgoacooddjaa.Fr
