import Derived.Test.YtnbpgoacooddjaaFRdA
import Derived.Test.YtnbpgoacooddjaaFRdB
import Derived.Test.YtnbpgoacooddjaaFRdC
import Derived.Test.YtnbpgoacooddjaaFRdD
import Derived.Test.YtnbpgoacooddjaaFRdE
import Derived.Test.YtnbpgoacooddjaaFRdF
namespace Go.Proofs.Ytnbpgoacooddjaa.Fr
open Go.RowKit Go.Shelf
set_option linter.unusedVariables false
attribute [local go_sem] Oper.semAt_some
set_option maxRecDepth 100000 in
set_option maxHeartbeats 2000000 in
theorem load_2 (w : World) : Calls Try.prog 161 #[.int .i64 2] w fun e w' => e = .returned (.bool false) ∧ w' = w := by
  go_enter Try.func161, Try.ntmps161
  go_wp2
  go_ret
  exact ⟨rfl, rfl⟩
set_option maxRecDepth 100000 in
set_option maxHeartbeats 2000000 in
theorem writesD_2 (w : World) : Calls Try.prog 204 #[.int .i64 2] w fun e w' => e = .returned (.bool true) ∧ w' = w := by
  go_enter Try.func204, Try.ntmps204
  go_wp2_with (go_at_call 161; refine (load_2 _).mono ?_; rintro e w' ⟨rfl, rfl⟩)
  go_ret
  exact ⟨rfl, rfl⟩
set_option maxRecDepth 100000 in
set_option maxHeartbeats 2000000 in
theorem target_2 (d n m a c i : Int) (w : World) : Calls Try.prog 205 #[.agg #[.int .i64 2, .int .i64 d, .int .i64 n, .int .i64 m, .int .i64 a, .int .i64 c, .int .i64 i]] w fun e w' => e = .returned (.int .i64 d) ∧ Below w.heap.size w w' := by
  rcases hb : (d == 31)
  · have hn : d ≠ 31 := by simpa using hb
    go_enter Try.func205, Try.ntmps205
    go_wp2
    go_ret
    exact ⟨rfl, (Below.refl _ _).alloc (Nat.le_refl _) _⟩
  · have hn : d = 31 := by simpa using hb
    subst hn
    go_enter Try.func205, Try.ntmps205
    go_wp2_with (go_at_call 206; refine (takesSP_2 _).mono ?_; rintro e w' ⟨rfl, rfl⟩)
    go_ret
    exact ⟨rfl, (Below.refl _ _).alloc (Nat.le_refl _) _⟩
set_option maxRecDepth 100000 in
set_option maxHeartbeats 2000000 in
theorem written_2 (d n m a c i : Int) (Bi : Nat) (w : World) (h : InsAt w Bi (.int .i64 2) (.int .i64 d) (.int .i64 n) (.int .i64 m) (.int .i64 a) (.int .i64 c) (.int .i64 i)) :
    SeqStopsK Fence.wide 4 Try.prog 203 #[.pointer (some ⟨Bi, 0, none⟩)] (fun x : Int => #[.int .i64 x]) (KpI Bi) (fun xs => xs = [d]) (fun _ => True) 6 w := fun l J Jx W hW hJ hJx hY h0 => by
  have HI := Lib.hid (h.below' hW rfl)
  refine callsIn_of_wp Try.func203 rfl trivial ?_ rfl
  simp only [Try.ntmps203, List.size_toArray, List.length_cons, List.length_nil, Nat.reduceAdd, Nat.reduceSub, Array.replicate_succ, Array.replicate_zero, List.push_toArray, List.append_toArray, List.nil_append, List.cons_append]
  obtain ⟨hl, i0, i1, i2, i3, i4, i5, i6⟩ := HI.out
  gi_wp2_with (first | (refine wpListIn_skipW (by rfl) ?_; simp only [Act.put, List.setIfInBounds_toArray, List.set_cons_succ, List.set_cons_zero]) | (refine ⟨trivial, ?_⟩; gi_at_call 204; refine (callsIn_wide.2 (writesD_2 _)).mono ?_; rintro e w' ⟨rfl, rfl⟩))
  refine ⟨trivial, ?_⟩
  refine (callsIn_wide.2 (target_2 d n m a c i _)).mono ?_
  rintro e v0 ⟨rfl, hb0⟩
  obtain ⟨f0, t0, a0, b0, hy0, hR0⟩ := hY [] d v0 (hJ _ _ _ none h0 (grown_none hb0) (fun r e => by cases e)) (by simp)
  try dsimp only at hy0
  have HV0 := Lib.hid (HI.out.below' hb0 rfl)
  clear hl i0 i1 i2 i3 i4 i5 i6
  obtain ⟨hl, i0, i1, i2, i3, i4, i5, i6⟩ := HV0.out
  gi_wp2_with (first | (refine wpListIn_skipW (by rfl) ?_; simp only [Act.put, List.setIfInBounds_toArray, List.set_cons_succ, List.set_cons_zero]) | (refine ⟨trivial, ?_⟩; gi_at_call 204; refine (callsIn_wide.2 (writesD_2 _)).mono ?_; rintro e w' ⟨rfl, rfl⟩))
  refine hR0.mono ?_
  rintro e W0 (⟨rfl, hJ0, hk0⟩ | ⟨rfl, hx0⟩)
  rotate_left
  · gi_wp2_with (refine wpListIn_skipW (by rfl) ?_; simp only [Act.put, List.setIfInBounds_toArray, List.set_cons_succ, List.set_cons_zero])
    go_end0
    exact ⟨⟨_, rfl⟩, .inr ⟨[] ++ [d], by first | exact ⟨trivial, hx0⟩ | exact hx0⟩⟩
  have HI0 := Lib.hid (HV0.out.kp hk0)
  clear hl i0 i1 i2 i3 i4 i5 i6
  obtain ⟨hl, i0, i1, i2, i3, i4, i5, i6⟩ := HI0.out
  gi_wp2_with (first | (refine wpListIn_skipW (by rfl) ?_; simp only [Act.put, List.setIfInBounds_toArray, List.set_cons_succ, List.set_cons_zero]) | (refine ⟨trivial, ?_⟩; gi_at_call 204; refine (callsIn_wide.2 (writesD_2 _)).mono ?_; rintro e w' ⟨rfl, rfl⟩))
  go_end0
  exact ⟨⟨_, rfl⟩, .inl ⟨_, rfl, hJ0⟩⟩
set_option maxRecDepth 100000 in
set_option maxHeartbeats 2000000 in
theorem load_5 (w : World) : Calls Try.prog 161 #[.int .i64 5] w fun e w' => e = .returned (.bool false) ∧ w' = w := by
  go_enter Try.func161, Try.ntmps161
  go_wp2
  go_ret
  exact ⟨rfl, rfl⟩
set_option maxRecDepth 100000 in
set_option maxHeartbeats 2000000 in
theorem writesD_5 (w : World) : Calls Try.prog 204 #[.int .i64 5] w fun e w' => e = .returned (.bool true) ∧ w' = w := by
  go_enter Try.func204, Try.ntmps204
  go_wp2_with (go_at_call 161; refine (load_5 _).mono ?_; rintro e w' ⟨rfl, rfl⟩)
  go_ret
  exact ⟨rfl, rfl⟩
set_option maxRecDepth 100000 in
set_option maxHeartbeats 2000000 in
theorem target_5 (d n m a c i : Int) (w : World) : Calls Try.prog 205 #[.agg #[.int .i64 5, .int .i64 d, .int .i64 n, .int .i64 m, .int .i64 a, .int .i64 c, .int .i64 i]] w fun e w' => e = .returned (.int .i64 (spOr d)) ∧ Below w.heap.size w w' := by
  rcases hb : (d == 31)
  · have hn : d ≠ 31 := by simpa using hb
    go_enter Try.func205, Try.ntmps205
    go_wp2
    go_ret
    exact ⟨by simp [spOr, hn], (Below.refl _ _).alloc (Nat.le_refl _) _⟩
  · have hn : d = 31 := by simpa using hb
    subst hn
    go_enter Try.func205, Try.ntmps205
    go_wp2_with (go_at_call 206; refine (takesSP_5 _).mono ?_; rintro e w' ⟨rfl, rfl⟩)
    go_ret
    exact ⟨rfl, (Below.refl _ _).alloc (Nat.le_refl _) _⟩
set_option maxRecDepth 100000 in
set_option maxHeartbeats 2000000 in
theorem written_5 (d n m a c i : Int) (Bi : Nat) (w : World) (h : InsAt w Bi (.int .i64 5) (.int .i64 d) (.int .i64 n) (.int .i64 m) (.int .i64 a) (.int .i64 c) (.int .i64 i)) :
    SeqStopsK Fence.wide 4 Try.prog 203 #[.pointer (some ⟨Bi, 0, none⟩)] (fun x : Int => #[.int .i64 x]) (KpI Bi) (fun xs => xs = [(spOr d)]) (fun _ => True) 6 w := fun l J Jx W hW hJ hJx hY h0 => by
  have HI := Lib.hid (h.below' hW rfl)
  refine callsIn_of_wp Try.func203 rfl trivial ?_ rfl
  simp only [Try.ntmps203, List.size_toArray, List.length_cons, List.length_nil, Nat.reduceAdd, Nat.reduceSub, Array.replicate_succ, Array.replicate_zero, List.push_toArray, List.append_toArray, List.nil_append, List.cons_append]
  obtain ⟨hl, i0, i1, i2, i3, i4, i5, i6⟩ := HI.out
  gi_wp2_with (first | (refine wpListIn_skipW (by rfl) ?_; simp only [Act.put, List.setIfInBounds_toArray, List.set_cons_succ, List.set_cons_zero]) | (refine ⟨trivial, ?_⟩; gi_at_call 204; refine (callsIn_wide.2 (writesD_5 _)).mono ?_; rintro e w' ⟨rfl, rfl⟩))
  refine ⟨trivial, ?_⟩
  refine (callsIn_wide.2 (target_5 d n m a c i _)).mono ?_
  rintro e v0 ⟨rfl, hb0⟩
  obtain ⟨f0, t0, a0, b0, hy0, hR0⟩ := hY [] (spOr d) v0 (hJ _ _ _ none h0 (grown_none hb0) (fun r e => by cases e)) (by simp)
  try dsimp only at hy0
  have HV0 := Lib.hid (HI.out.below' hb0 rfl)
  clear hl i0 i1 i2 i3 i4 i5 i6
  obtain ⟨hl, i0, i1, i2, i3, i4, i5, i6⟩ := HV0.out
  gi_wp2_with (first | (refine wpListIn_skipW (by rfl) ?_; simp only [Act.put, List.setIfInBounds_toArray, List.set_cons_succ, List.set_cons_zero]) | (refine ⟨trivial, ?_⟩; gi_at_call 204; refine (callsIn_wide.2 (writesD_5 _)).mono ?_; rintro e w' ⟨rfl, rfl⟩))
  refine hR0.mono ?_
  rintro e W0 (⟨rfl, hJ0, hk0⟩ | ⟨rfl, hx0⟩)
  rotate_left
  · gi_wp2_with (refine wpListIn_skipW (by rfl) ?_; simp only [Act.put, List.setIfInBounds_toArray, List.set_cons_succ, List.set_cons_zero])
    go_end0
    exact ⟨⟨_, rfl⟩, .inr ⟨[] ++ [(spOr d)], by first | exact ⟨trivial, hx0⟩ | exact hx0⟩⟩
  have HI0 := Lib.hid (HV0.out.kp hk0)
  clear hl i0 i1 i2 i3 i4 i5 i6
  obtain ⟨hl, i0, i1, i2, i3, i4, i5, i6⟩ := HI0.out
  gi_wp2_with (first | (refine wpListIn_skipW (by rfl) ?_; simp only [Act.put, List.setIfInBounds_toArray, List.set_cons_succ, List.set_cons_zero]) | (refine ⟨trivial, ?_⟩; gi_at_call 204; refine (callsIn_wide.2 (writesD_5 _)).mono ?_; rintro e w' ⟨rfl, rfl⟩))
  go_end0
  exact ⟨⟨_, rfl⟩, .inl ⟨_, rfl, hJ0⟩⟩
set_option maxRecDepth 100000 in
set_option maxHeartbeats 2000000 in
theorem load_8 (w : World) : Calls Try.prog 161 #[.int .i64 8] w fun e w' => e = .returned (.bool false) ∧ w' = w := by
  go_enter Try.func161, Try.ntmps161
  go_wp2
  go_ret
  exact ⟨rfl, rfl⟩
set_option maxRecDepth 100000 in
set_option maxHeartbeats 2000000 in
theorem writesD_8 (w : World) : Calls Try.prog 204 #[.int .i64 8] w fun e w' => e = .returned (.bool true) ∧ w' = w := by
  go_enter Try.func204, Try.ntmps204
  go_wp2_with (go_at_call 161; refine (load_8 _).mono ?_; rintro e w' ⟨rfl, rfl⟩)
  go_ret
  exact ⟨rfl, rfl⟩
set_option maxRecDepth 100000 in
set_option maxHeartbeats 2000000 in
theorem target_8 (d n m a c i : Int) (w : World) : Calls Try.prog 205 #[.agg #[.int .i64 8, .int .i64 d, .int .i64 n, .int .i64 m, .int .i64 a, .int .i64 c, .int .i64 i]] w fun e w' => e = .returned (.int .i64 d) ∧ Below w.heap.size w w' := by
  rcases hb : (d == 31)
  · have hn : d ≠ 31 := by simpa using hb
    go_enter Try.func205, Try.ntmps205
    go_wp2
    go_ret
    exact ⟨rfl, (Below.refl _ _).alloc (Nat.le_refl _) _⟩
  · have hn : d = 31 := by simpa using hb
    subst hn
    go_enter Try.func205, Try.ntmps205
    go_wp2_with (go_at_call 206; refine (takesSP_8 _).mono ?_; rintro e w' ⟨rfl, rfl⟩)
    go_ret
    exact ⟨rfl, (Below.refl _ _).alloc (Nat.le_refl _) _⟩
set_option maxRecDepth 100000 in
set_option maxHeartbeats 2000000 in
theorem written_8 (d n m a c i : Int) (Bi : Nat) (w : World) (h : InsAt w Bi (.int .i64 8) (.int .i64 d) (.int .i64 n) (.int .i64 m) (.int .i64 a) (.int .i64 c) (.int .i64 i)) :
    SeqStopsK Fence.wide 4 Try.prog 203 #[.pointer (some ⟨Bi, 0, none⟩)] (fun x : Int => #[.int .i64 x]) (KpI Bi) (fun xs => xs = [d]) (fun _ => True) 6 w := fun l J Jx W hW hJ hJx hY h0 => by
  have HI := Lib.hid (h.below' hW rfl)
  refine callsIn_of_wp Try.func203 rfl trivial ?_ rfl
  simp only [Try.ntmps203, List.size_toArray, List.length_cons, List.length_nil, Nat.reduceAdd, Nat.reduceSub, Array.replicate_succ, Array.replicate_zero, List.push_toArray, List.append_toArray, List.nil_append, List.cons_append]
  obtain ⟨hl, i0, i1, i2, i3, i4, i5, i6⟩ := HI.out
  gi_wp2_with (first | (refine wpListIn_skipW (by rfl) ?_; simp only [Act.put, List.setIfInBounds_toArray, List.set_cons_succ, List.set_cons_zero]) | (refine ⟨trivial, ?_⟩; gi_at_call 204; refine (callsIn_wide.2 (writesD_8 _)).mono ?_; rintro e w' ⟨rfl, rfl⟩))
  refine ⟨trivial, ?_⟩
  refine (callsIn_wide.2 (target_8 d n m a c i _)).mono ?_
  rintro e v0 ⟨rfl, hb0⟩
  obtain ⟨f0, t0, a0, b0, hy0, hR0⟩ := hY [] d v0 (hJ _ _ _ none h0 (grown_none hb0) (fun r e => by cases e)) (by simp)
  try dsimp only at hy0
  have HV0 := Lib.hid (HI.out.below' hb0 rfl)
  clear hl i0 i1 i2 i3 i4 i5 i6
  obtain ⟨hl, i0, i1, i2, i3, i4, i5, i6⟩ := HV0.out
  gi_wp2_with (first | (refine wpListIn_skipW (by rfl) ?_; simp only [Act.put, List.setIfInBounds_toArray, List.set_cons_succ, List.set_cons_zero]) | (refine ⟨trivial, ?_⟩; gi_at_call 204; refine (callsIn_wide.2 (writesD_8 _)).mono ?_; rintro e w' ⟨rfl, rfl⟩))
  refine hR0.mono ?_
  rintro e W0 (⟨rfl, hJ0, hk0⟩ | ⟨rfl, hx0⟩)
  rotate_left
  · gi_wp2_with (refine wpListIn_skipW (by rfl) ?_; simp only [Act.put, List.setIfInBounds_toArray, List.set_cons_succ, List.set_cons_zero])
    go_end0
    exact ⟨⟨_, rfl⟩, .inr ⟨[] ++ [d], by first | exact ⟨trivial, hx0⟩ | exact hx0⟩⟩
  have HI0 := Lib.hid (HV0.out.kp hk0)
  clear hl i0 i1 i2 i3 i4 i5 i6
  obtain ⟨hl, i0, i1, i2, i3, i4, i5, i6⟩ := HI0.out
  gi_wp2_with (first | (refine wpListIn_skipW (by rfl) ?_; simp only [Act.put, List.setIfInBounds_toArray, List.set_cons_succ, List.set_cons_zero]) | (refine ⟨trivial, ?_⟩; gi_at_call 204; refine (callsIn_wide.2 (writesD_8 _)).mono ?_; rintro e w' ⟨rfl, rfl⟩))
  go_end0
  exact ⟨⟨_, rfl⟩, .inl ⟨_, rfl, hJ0⟩⟩
set_option maxRecDepth 100000 in
set_option maxHeartbeats 2000000 in
theorem load_11 (w : World) : Calls Try.prog 161 #[.int .i64 11] w fun e w' => e = .returned (.bool false) ∧ w' = w := by
  go_enter Try.func161, Try.ntmps161
  go_wp2
  go_ret
  exact ⟨rfl, rfl⟩
set_option maxRecDepth 100000 in
set_option maxHeartbeats 2000000 in
theorem writesD_11 (w : World) : Calls Try.prog 204 #[.int .i64 11] w fun e w' => e = .returned (.bool true) ∧ w' = w := by
  go_enter Try.func204, Try.ntmps204
  go_wp2_with (go_at_call 161; refine (load_11 _).mono ?_; rintro e w' ⟨rfl, rfl⟩)
  go_ret
  exact ⟨rfl, rfl⟩
set_option maxRecDepth 100000 in
set_option maxHeartbeats 2000000 in
theorem target_11 (d n m a c i : Int) (w : World) : Calls Try.prog 205 #[.agg #[.int .i64 11, .int .i64 d, .int .i64 n, .int .i64 m, .int .i64 a, .int .i64 c, .int .i64 i]] w fun e w' => e = .returned (.int .i64 d) ∧ Below w.heap.size w w' := by
  rcases hb : (d == 31)
  · have hn : d ≠ 31 := by simpa using hb
    go_enter Try.func205, Try.ntmps205
    go_wp2
    go_ret
    exact ⟨rfl, (Below.refl _ _).alloc (Nat.le_refl _) _⟩
  · have hn : d = 31 := by simpa using hb
    subst hn
    go_enter Try.func205, Try.ntmps205
    go_wp2_with (go_at_call 206; refine (takesSP_11 _).mono ?_; rintro e w' ⟨rfl, rfl⟩)
    go_ret
    exact ⟨rfl, (Below.refl _ _).alloc (Nat.le_refl _) _⟩
set_option maxRecDepth 100000 in
set_option maxHeartbeats 2000000 in
theorem written_11 (d n m a c i : Int) (Bi : Nat) (w : World) (h : InsAt w Bi (.int .i64 11) (.int .i64 d) (.int .i64 n) (.int .i64 m) (.int .i64 a) (.int .i64 c) (.int .i64 i)) :
    SeqStopsK Fence.wide 4 Try.prog 203 #[.pointer (some ⟨Bi, 0, none⟩)] (fun x : Int => #[.int .i64 x]) (KpI Bi) (fun xs => xs = [d]) (fun _ => True) 6 w := fun l J Jx W hW hJ hJx hY h0 => by
  have HI := Lib.hid (h.below' hW rfl)
  refine callsIn_of_wp Try.func203 rfl trivial ?_ rfl
  simp only [Try.ntmps203, List.size_toArray, List.length_cons, List.length_nil, Nat.reduceAdd, Nat.reduceSub, Array.replicate_succ, Array.replicate_zero, List.push_toArray, List.append_toArray, List.nil_append, List.cons_append]
  obtain ⟨hl, i0, i1, i2, i3, i4, i5, i6⟩ := HI.out
  gi_wp2_with (first | (refine wpListIn_skipW (by rfl) ?_; simp only [Act.put, List.setIfInBounds_toArray, List.set_cons_succ, List.set_cons_zero]) | (refine ⟨trivial, ?_⟩; gi_at_call 204; refine (callsIn_wide.2 (writesD_11 _)).mono ?_; rintro e w' ⟨rfl, rfl⟩))
  refine ⟨trivial, ?_⟩
  refine (callsIn_wide.2 (target_11 d n m a c i _)).mono ?_
  rintro e v0 ⟨rfl, hb0⟩
  obtain ⟨f0, t0, a0, b0, hy0, hR0⟩ := hY [] d v0 (hJ _ _ _ none h0 (grown_none hb0) (fun r e => by cases e)) (by simp)
  try dsimp only at hy0
  have HV0 := Lib.hid (HI.out.below' hb0 rfl)
  clear hl i0 i1 i2 i3 i4 i5 i6
  obtain ⟨hl, i0, i1, i2, i3, i4, i5, i6⟩ := HV0.out
  gi_wp2_with (first | (refine wpListIn_skipW (by rfl) ?_; simp only [Act.put, List.setIfInBounds_toArray, List.set_cons_succ, List.set_cons_zero]) | (refine ⟨trivial, ?_⟩; gi_at_call 204; refine (callsIn_wide.2 (writesD_11 _)).mono ?_; rintro e w' ⟨rfl, rfl⟩))
  refine hR0.mono ?_
  rintro e W0 (⟨rfl, hJ0, hk0⟩ | ⟨rfl, hx0⟩)
  rotate_left
  · gi_wp2_with (refine wpListIn_skipW (by rfl) ?_; simp only [Act.put, List.setIfInBounds_toArray, List.set_cons_succ, List.set_cons_zero])
    go_end0
    exact ⟨⟨_, rfl⟩, .inr ⟨[] ++ [d], by first | exact ⟨trivial, hx0⟩ | exact hx0⟩⟩
  have HI0 := Lib.hid (HV0.out.kp hk0)
  clear hl i0 i1 i2 i3 i4 i5 i6
  obtain ⟨hl, i0, i1, i2, i3, i4, i5, i6⟩ := HI0.out
  gi_wp2_with (first | (refine wpListIn_skipW (by rfl) ?_; simp only [Act.put, List.setIfInBounds_toArray, List.set_cons_succ, List.set_cons_zero]) | (refine ⟨trivial, ?_⟩; gi_at_call 204; refine (callsIn_wide.2 (writesD_11 _)).mono ?_; rintro e w' ⟨rfl, rfl⟩))
  go_end0
  exact ⟨⟨_, rfl⟩, .inl ⟨_, rfl, hJ0⟩⟩
set_option maxRecDepth 100000 in
set_option maxHeartbeats 2000000 in
theorem load_14 (w : World) : Calls Try.prog 161 #[.int .i64 14] w fun e w' => e = .returned (.bool false) ∧ w' = w := by
  go_enter Try.func161, Try.ntmps161
  go_wp2
  go_ret
  exact ⟨rfl, rfl⟩
set_option maxRecDepth 100000 in
set_option maxHeartbeats 2000000 in
theorem writesD_14 (w : World) : Calls Try.prog 204 #[.int .i64 14] w fun e w' => e = .returned (.bool true) ∧ w' = w := by
  go_enter Try.func204, Try.ntmps204
  go_wp2_with (go_at_call 161; refine (load_14 _).mono ?_; rintro e w' ⟨rfl, rfl⟩)
  go_ret
  exact ⟨rfl, rfl⟩
set_option maxRecDepth 100000 in
set_option maxHeartbeats 2000000 in
theorem target_14 (d n m a c i : Int) (w : World) : Calls Try.prog 205 #[.agg #[.int .i64 14, .int .i64 d, .int .i64 n, .int .i64 m, .int .i64 a, .int .i64 c, .int .i64 i]] w fun e w' => e = .returned (.int .i64 d) ∧ Below w.heap.size w w' := by
  rcases hb : (d == 31)
  · have hn : d ≠ 31 := by simpa using hb
    go_enter Try.func205, Try.ntmps205
    go_wp2
    go_ret
    exact ⟨rfl, (Below.refl _ _).alloc (Nat.le_refl _) _⟩
  · have hn : d = 31 := by simpa using hb
    subst hn
    go_enter Try.func205, Try.ntmps205
    go_wp2_with (go_at_call 206; refine (takesSP_14 _).mono ?_; rintro e w' ⟨rfl, rfl⟩)
    go_ret
    exact ⟨rfl, (Below.refl _ _).alloc (Nat.le_refl _) _⟩
set_option maxRecDepth 100000 in
set_option maxHeartbeats 2000000 in
theorem written_14 (d n m a c i : Int) (Bi : Nat) (w : World) (h : InsAt w Bi (.int .i64 14) (.int .i64 d) (.int .i64 n) (.int .i64 m) (.int .i64 a) (.int .i64 c) (.int .i64 i)) :
    SeqStopsK Fence.wide 4 Try.prog 203 #[.pointer (some ⟨Bi, 0, none⟩)] (fun x : Int => #[.int .i64 x]) (KpI Bi) (fun xs => xs = [d]) (fun _ => True) 6 w := fun l J Jx W hW hJ hJx hY h0 => by
  have HI := Lib.hid (h.below' hW rfl)
  refine callsIn_of_wp Try.func203 rfl trivial ?_ rfl
  simp only [Try.ntmps203, List.size_toArray, List.length_cons, List.length_nil, Nat.reduceAdd, Nat.reduceSub, Array.replicate_succ, Array.replicate_zero, List.push_toArray, List.append_toArray, List.nil_append, List.cons_append]
  obtain ⟨hl, i0, i1, i2, i3, i4, i5, i6⟩ := HI.out
  gi_wp2_with (first | (refine wpListIn_skipW (by rfl) ?_; simp only [Act.put, List.setIfInBounds_toArray, List.set_cons_succ, List.set_cons_zero]) | (refine ⟨trivial, ?_⟩; gi_at_call 204; refine (callsIn_wide.2 (writesD_14 _)).mono ?_; rintro e w' ⟨rfl, rfl⟩))
  refine ⟨trivial, ?_⟩
  refine (callsIn_wide.2 (target_14 d n m a c i _)).mono ?_
  rintro e v0 ⟨rfl, hb0⟩
  obtain ⟨f0, t0, a0, b0, hy0, hR0⟩ := hY [] d v0 (hJ _ _ _ none h0 (grown_none hb0) (fun r e => by cases e)) (by simp)
  try dsimp only at hy0
  have HV0 := Lib.hid (HI.out.below' hb0 rfl)
  clear hl i0 i1 i2 i3 i4 i5 i6
  obtain ⟨hl, i0, i1, i2, i3, i4, i5, i6⟩ := HV0.out
  gi_wp2_with (first | (refine wpListIn_skipW (by rfl) ?_; simp only [Act.put, List.setIfInBounds_toArray, List.set_cons_succ, List.set_cons_zero]) | (refine ⟨trivial, ?_⟩; gi_at_call 204; refine (callsIn_wide.2 (writesD_14 _)).mono ?_; rintro e w' ⟨rfl, rfl⟩))
  refine hR0.mono ?_
  rintro e W0 (⟨rfl, hJ0, hk0⟩ | ⟨rfl, hx0⟩)
  rotate_left
  · gi_wp2_with (refine wpListIn_skipW (by rfl) ?_; simp only [Act.put, List.setIfInBounds_toArray, List.set_cons_succ, List.set_cons_zero])
    go_end0
    exact ⟨⟨_, rfl⟩, .inr ⟨[] ++ [d], by first | exact ⟨trivial, hx0⟩ | exact hx0⟩⟩
  have HI0 := Lib.hid (HV0.out.kp hk0)
  clear hl i0 i1 i2 i3 i4 i5 i6
  obtain ⟨hl, i0, i1, i2, i3, i4, i5, i6⟩ := HI0.out
  gi_wp2_with (first | (refine wpListIn_skipW (by rfl) ?_; simp only [Act.put, List.setIfInBounds_toArray, List.set_cons_succ, List.set_cons_zero]) | (refine ⟨trivial, ?_⟩; gi_at_call 204; refine (callsIn_wide.2 (writesD_14 _)).mono ?_; rintro e w' ⟨rfl, rfl⟩))
  go_end0
  exact ⟨⟨_, rfl⟩, .inl ⟨_, rfl, hJ0⟩⟩
set_option maxRecDepth 100000 in
set_option maxHeartbeats 2000000 in
theorem load_17 (w : World) : Calls Try.prog 161 #[.int .i64 17] w fun e w' => e = .returned (.bool false) ∧ w' = w := by
  go_enter Try.func161, Try.ntmps161
  go_wp2
  go_ret
  exact ⟨rfl, rfl⟩
set_option maxRecDepth 100000 in
set_option maxHeartbeats 2000000 in
theorem writesD_17 (w : World) : Calls Try.prog 204 #[.int .i64 17] w fun e w' => e = .returned (.bool true) ∧ w' = w := by
  go_enter Try.func204, Try.ntmps204
  go_wp2_with (go_at_call 161; refine (load_17 _).mono ?_; rintro e w' ⟨rfl, rfl⟩)
  go_ret
  exact ⟨rfl, rfl⟩
set_option maxRecDepth 100000 in
set_option maxHeartbeats 2000000 in
theorem target_17 (d n m a c i : Int) (w : World) : Calls Try.prog 205 #[.agg #[.int .i64 17, .int .i64 d, .int .i64 n, .int .i64 m, .int .i64 a, .int .i64 c, .int .i64 i]] w fun e w' => e = .returned (.int .i64 d) ∧ Below w.heap.size w w' := by
  rcases hb : (d == 31)
  · have hn : d ≠ 31 := by simpa using hb
    go_enter Try.func205, Try.ntmps205
    go_wp2
    go_ret
    exact ⟨rfl, (Below.refl _ _).alloc (Nat.le_refl _) _⟩
  · have hn : d = 31 := by simpa using hb
    subst hn
    go_enter Try.func205, Try.ntmps205
    go_wp2_with (go_at_call 206; refine (takesSP_17 _).mono ?_; rintro e w' ⟨rfl, rfl⟩)
    go_ret
    exact ⟨rfl, (Below.refl _ _).alloc (Nat.le_refl _) _⟩
set_option maxRecDepth 100000 in
set_option maxHeartbeats 2000000 in
theorem written_17 (d n m a c i : Int) (Bi : Nat) (w : World) (h : InsAt w Bi (.int .i64 17) (.int .i64 d) (.int .i64 n) (.int .i64 m) (.int .i64 a) (.int .i64 c) (.int .i64 i)) :
    SeqStopsK Fence.wide 4 Try.prog 203 #[.pointer (some ⟨Bi, 0, none⟩)] (fun x : Int => #[.int .i64 x]) (KpI Bi) (fun xs => xs = [d]) (fun _ => True) 6 w := fun l J Jx W hW hJ hJx hY h0 => by
  have HI := Lib.hid (h.below' hW rfl)
  refine callsIn_of_wp Try.func203 rfl trivial ?_ rfl
  simp only [Try.ntmps203, List.size_toArray, List.length_cons, List.length_nil, Nat.reduceAdd, Nat.reduceSub, Array.replicate_succ, Array.replicate_zero, List.push_toArray, List.append_toArray, List.nil_append, List.cons_append]
  obtain ⟨hl, i0, i1, i2, i3, i4, i5, i6⟩ := HI.out
  gi_wp2_with (first | (refine wpListIn_skipW (by rfl) ?_; simp only [Act.put, List.setIfInBounds_toArray, List.set_cons_succ, List.set_cons_zero]) | (refine ⟨trivial, ?_⟩; gi_at_call 204; refine (callsIn_wide.2 (writesD_17 _)).mono ?_; rintro e w' ⟨rfl, rfl⟩))
  refine ⟨trivial, ?_⟩
  refine (callsIn_wide.2 (target_17 d n m a c i _)).mono ?_
  rintro e v0 ⟨rfl, hb0⟩
  obtain ⟨f0, t0, a0, b0, hy0, hR0⟩ := hY [] d v0 (hJ _ _ _ none h0 (grown_none hb0) (fun r e => by cases e)) (by simp)
  try dsimp only at hy0
  have HV0 := Lib.hid (HI.out.below' hb0 rfl)
  clear hl i0 i1 i2 i3 i4 i5 i6
  obtain ⟨hl, i0, i1, i2, i3, i4, i5, i6⟩ := HV0.out
  gi_wp2_with (first | (refine wpListIn_skipW (by rfl) ?_; simp only [Act.put, List.setIfInBounds_toArray, List.set_cons_succ, List.set_cons_zero]) | (refine ⟨trivial, ?_⟩; gi_at_call 204; refine (callsIn_wide.2 (writesD_17 _)).mono ?_; rintro e w' ⟨rfl, rfl⟩))
  refine hR0.mono ?_
  rintro e W0 (⟨rfl, hJ0, hk0⟩ | ⟨rfl, hx0⟩)
  rotate_left
  · gi_wp2_with (refine wpListIn_skipW (by rfl) ?_; simp only [Act.put, List.setIfInBounds_toArray, List.set_cons_succ, List.set_cons_zero])
    go_end0
    exact ⟨⟨_, rfl⟩, .inr ⟨[] ++ [d], by first | exact ⟨trivial, hx0⟩ | exact hx0⟩⟩
  have HI0 := Lib.hid (HV0.out.kp hk0)
  clear hl i0 i1 i2 i3 i4 i5 i6
  obtain ⟨hl, i0, i1, i2, i3, i4, i5, i6⟩ := HI0.out
  gi_wp2_with (first | (refine wpListIn_skipW (by rfl) ?_; simp only [Act.put, List.setIfInBounds_toArray, List.set_cons_succ, List.set_cons_zero]) | (refine ⟨trivial, ?_⟩; gi_at_call 204; refine (callsIn_wide.2 (writesD_17 _)).mono ?_; rintro e w' ⟨rfl, rfl⟩))
  go_end0
  exact ⟨⟨_, rfl⟩, .inl ⟨_, rfl, hJ0⟩⟩
set_option maxRecDepth 100000 in
set_option maxHeartbeats 2000000 in
theorem load_20 (w : World) : Calls Try.prog 161 #[.int .i64 20] w fun e w' => e = .returned (.bool false) ∧ w' = w := by
  go_enter Try.func161, Try.ntmps161
  go_wp2
  go_ret
  exact ⟨rfl, rfl⟩
set_option maxRecDepth 100000 in
set_option maxHeartbeats 2000000 in
theorem writesD_20 (w : World) : Calls Try.prog 204 #[.int .i64 20] w fun e w' => e = .returned (.bool false) ∧ w' = w := by
  go_enter Try.func204, Try.ntmps204
  go_wp2_with (go_at_call 161; refine (load_20 _).mono ?_; rintro e w' ⟨rfl, rfl⟩)
  go_ret
  exact ⟨rfl, rfl⟩
set_option maxRecDepth 100000 in
set_option maxHeartbeats 2000000 in
theorem written_20 (d n m a c i : Int) (Bi : Nat) (w : World) (h : InsAt w Bi (.int .i64 20) (.int .i64 d) (.int .i64 n) (.int .i64 m) (.int .i64 a) (.int .i64 c) (.int .i64 i)) :
    SeqStopsK Fence.wide 4 Try.prog 203 #[.pointer (some ⟨Bi, 0, none⟩)] (fun x : Int => #[.int .i64 x]) (KpI Bi) (fun xs => xs = []) (fun _ => True) 6 w := fun l J Jx W hW hJ hJx hY h0 => by
  have HI := Lib.hid (h.below' hW rfl)
  refine callsIn_of_wp Try.func203 rfl trivial ?_ rfl
  simp only [Try.ntmps203, List.size_toArray, List.length_cons, List.length_nil, Nat.reduceAdd, Nat.reduceSub, Array.replicate_succ, Array.replicate_zero, List.push_toArray, List.append_toArray, List.nil_append, List.cons_append]
  obtain ⟨hl, i0, i1, i2, i3, i4, i5, i6⟩ := HI.out
  gi_wp2_with (first | (refine wpListIn_skipW (by rfl) ?_; simp only [Act.put, List.setIfInBounds_toArray, List.set_cons_succ, List.set_cons_zero]) | (refine ⟨trivial, ?_⟩; gi_at_call 204; refine (callsIn_wide.2 (writesD_20 _)).mono ?_; rintro e w' ⟨rfl, rfl⟩))
  go_end0
  exact ⟨⟨_, rfl⟩, .inl ⟨_, rfl, h0⟩⟩
set_option maxRecDepth 100000 in
set_option maxHeartbeats 2000000 in
theorem load_23 (w : World) : Calls Try.prog 161 #[.int .i64 23] w fun e w' => e = .returned (.bool false) ∧ w' = w := by
  go_enter Try.func161, Try.ntmps161
  go_wp2
  go_ret
  exact ⟨rfl, rfl⟩
set_option maxRecDepth 100000 in
set_option maxHeartbeats 2000000 in
theorem writesD_23 (w : World) : Calls Try.prog 204 #[.int .i64 23] w fun e w' => e = .returned (.bool false) ∧ w' = w := by
  go_enter Try.func204, Try.ntmps204
  go_wp2_with (go_at_call 161; refine (load_23 _).mono ?_; rintro e w' ⟨rfl, rfl⟩)
  go_ret
  exact ⟨rfl, rfl⟩
set_option maxRecDepth 100000 in
set_option maxHeartbeats 2000000 in
theorem written_23 (d n m a c i : Int) (Bi : Nat) (w : World) (h : InsAt w Bi (.int .i64 23) (.int .i64 d) (.int .i64 n) (.int .i64 m) (.int .i64 a) (.int .i64 c) (.int .i64 i)) :
    SeqStopsK Fence.wide 4 Try.prog 203 #[.pointer (some ⟨Bi, 0, none⟩)] (fun x : Int => #[.int .i64 x]) (KpI Bi) (fun xs => xs = []) (fun _ => True) 6 w := fun l J Jx W hW hJ hJx hY h0 => by
  have HI := Lib.hid (h.below' hW rfl)
  refine callsIn_of_wp Try.func203 rfl trivial ?_ rfl
  simp only [Try.ntmps203, List.size_toArray, List.length_cons, List.length_nil, Nat.reduceAdd, Nat.reduceSub, Array.replicate_succ, Array.replicate_zero, List.push_toArray, List.append_toArray, List.nil_append, List.cons_append]
  obtain ⟨hl, i0, i1, i2, i3, i4, i5, i6⟩ := HI.out
  gi_wp2_with (first | (refine wpListIn_skipW (by rfl) ?_; simp only [Act.put, List.setIfInBounds_toArray, List.set_cons_succ, List.set_cons_zero]) | (refine ⟨trivial, ?_⟩; gi_at_call 204; refine (callsIn_wide.2 (writesD_23 _)).mono ?_; rintro e w' ⟨rfl, rfl⟩))
  go_end0
  exact ⟨⟨_, rfl⟩, .inl ⟨_, rfl, h0⟩⟩
set_option maxRecDepth 100000 in
set_option maxHeartbeats 2000000 in
theorem load_26 (w : World) : Calls Try.prog 161 #[.int .i64 26] w fun e w' => e = .returned (.bool false) ∧ w' = w := by
  go_enter Try.func161, Try.ntmps161
  go_wp2
  go_ret
  exact ⟨rfl, rfl⟩
set_option maxRecDepth 100000 in
set_option maxHeartbeats 2000000 in
theorem writesD_26 (w : World) : Calls Try.prog 204 #[.int .i64 26] w fun e w' => e = .returned (.bool false) ∧ w' = w := by
  go_enter Try.func204, Try.ntmps204
  go_wp2_with (go_at_call 161; refine (load_26 _).mono ?_; rintro e w' ⟨rfl, rfl⟩)
  go_ret
  exact ⟨rfl, rfl⟩
set_option maxRecDepth 100000 in
set_option maxHeartbeats 2000000 in
theorem written_26 (d n m a c i : Int) (Bi : Nat) (w : World) (h : InsAt w Bi (.int .i64 26) (.int .i64 d) (.int .i64 n) (.int .i64 m) (.int .i64 a) (.int .i64 c) (.int .i64 i)) :
    SeqStopsK Fence.wide 4 Try.prog 203 #[.pointer (some ⟨Bi, 0, none⟩)] (fun x : Int => #[.int .i64 x]) (KpI Bi) (fun xs => xs = [30]) (fun _ => True) 6 w := fun l J Jx W hW hJ hJx hY h0 => by
  have HI := Lib.hid (h.below' hW rfl)
  refine callsIn_of_wp Try.func203 rfl trivial ?_ rfl
  simp only [Try.ntmps203, List.size_toArray, List.length_cons, List.length_nil, Nat.reduceAdd, Nat.reduceSub, Array.replicate_succ, Array.replicate_zero, List.push_toArray, List.append_toArray, List.nil_append, List.cons_append]
  obtain ⟨hl, i0, i1, i2, i3, i4, i5, i6⟩ := HI.out
  obtain ⟨f0, t0, a0, b0, hy0, hR0⟩ := hY [] 30 W h0 (by simp)
  try dsimp only at hy0
  gi_wp2_with (first | (refine wpListIn_skipW (by rfl) ?_; simp only [Act.put, List.setIfInBounds_toArray, List.set_cons_succ, List.set_cons_zero]) | (refine ⟨trivial, ?_⟩; gi_at_call 204; refine (callsIn_wide.2 (writesD_26 _)).mono ?_; rintro e w' ⟨rfl, rfl⟩))
  refine hR0.mono ?_
  rintro e W0 (⟨rfl, hJ0, hk0⟩ | ⟨rfl, hx0⟩)
  rotate_left
  · gi_wp2_with (refine wpListIn_skipW (by rfl) ?_; simp only [Act.put, List.setIfInBounds_toArray, List.set_cons_succ, List.set_cons_zero])
    go_end0
    exact ⟨⟨_, rfl⟩, .inr ⟨[] ++ [30], by first | exact ⟨trivial, hx0⟩ | exact hx0⟩⟩
  have HI0 := Lib.hid (HI.out.kp hk0)
  clear hl i0 i1 i2 i3 i4 i5 i6
  obtain ⟨hl, i0, i1, i2, i3, i4, i5, i6⟩ := HI0.out
  gi_wp2_with (first | (refine wpListIn_skipW (by rfl) ?_; simp only [Act.put, List.setIfInBounds_toArray, List.set_cons_succ, List.set_cons_zero]) | (refine ⟨trivial, ?_⟩; gi_at_call 204; refine (callsIn_wide.2 (writesD_26 _)).mono ?_; rintro e w' ⟨rfl, rfl⟩))
  go_end0
  exact ⟨⟨_, rfl⟩, .inl ⟨_, rfl, hJ0⟩⟩
set_option maxRecDepth 100000 in
set_option maxHeartbeats 2000000 in
theorem load_29 (w : World) : Calls Try.prog 161 #[.int .i64 29] w fun e w' => e = .returned (.bool false) ∧ w' = w := by
  go_enter Try.func161, Try.ntmps161
  go_wp2
  go_ret
  exact ⟨rfl, rfl⟩
set_option maxRecDepth 100000 in
set_option maxHeartbeats 2000000 in
theorem writesD_29 (w : World) : Calls Try.prog 204 #[.int .i64 29] w fun e w' => e = .returned (.bool false) ∧ w' = w := by
  go_enter Try.func204, Try.ntmps204
  go_wp2_with (go_at_call 161; refine (load_29 _).mono ?_; rintro e w' ⟨rfl, rfl⟩)
  go_ret
  exact ⟨rfl, rfl⟩
set_option maxRecDepth 100000 in
set_option maxHeartbeats 2000000 in
theorem written_29 (d n m a c i : Int) (Bi : Nat) (w : World) (h : InsAt w Bi (.int .i64 29) (.int .i64 d) (.int .i64 n) (.int .i64 m) (.int .i64 a) (.int .i64 c) (.int .i64 i)) :
    SeqStopsK Fence.wide 4 Try.prog 203 #[.pointer (some ⟨Bi, 0, none⟩)] (fun x : Int => #[.int .i64 x]) (KpI Bi) (fun xs => xs = []) (fun _ => True) 6 w := fun l J Jx W hW hJ hJx hY h0 => by
  have HI := Lib.hid (h.below' hW rfl)
  refine callsIn_of_wp Try.func203 rfl trivial ?_ rfl
  simp only [Try.ntmps203, List.size_toArray, List.length_cons, List.length_nil, Nat.reduceAdd, Nat.reduceSub, Array.replicate_succ, Array.replicate_zero, List.push_toArray, List.append_toArray, List.nil_append, List.cons_append]
  obtain ⟨hl, i0, i1, i2, i3, i4, i5, i6⟩ := HI.out
  gi_wp2_with (first | (refine wpListIn_skipW (by rfl) ?_; simp only [Act.put, List.setIfInBounds_toArray, List.set_cons_succ, List.set_cons_zero]) | (refine ⟨trivial, ?_⟩; gi_at_call 204; refine (callsIn_wide.2 (writesD_29 _)).mono ?_; rintro e w' ⟨rfl, rfl⟩))
  go_end0
  exact ⟨⟨_, rfl⟩, .inl ⟨_, rfl, h0⟩⟩
set_option maxRecDepth 100000 in
set_option maxHeartbeats 2000000 in
theorem load_32 (w : World) : Calls Try.prog 161 #[.int .i64 32] w fun e w' => e = .returned (.bool false) ∧ w' = w := by
  go_enter Try.func161, Try.ntmps161
  go_wp2
  go_ret
  exact ⟨rfl, rfl⟩
set_option maxRecDepth 100000 in
set_option maxHeartbeats 2000000 in
theorem writesD_32 (w : World) : Calls Try.prog 204 #[.int .i64 32] w fun e w' => e = .returned (.bool false) ∧ w' = w := by
  go_enter Try.func204, Try.ntmps204
  go_wp2_with (go_at_call 161; refine (load_32 _).mono ?_; rintro e w' ⟨rfl, rfl⟩)
  go_ret
  exact ⟨rfl, rfl⟩
set_option maxRecDepth 100000 in
set_option maxHeartbeats 2000000 in
theorem written_32 (d n m a c i : Int) (Bi : Nat) (w : World) (h : InsAt w Bi (.int .i64 32) (.int .i64 d) (.int .i64 n) (.int .i64 m) (.int .i64 a) (.int .i64 c) (.int .i64 i)) :
    SeqStopsK Fence.wide 4 Try.prog 203 #[.pointer (some ⟨Bi, 0, none⟩)] (fun x : Int => #[.int .i64 x]) (KpI Bi) (fun xs => xs = []) (fun _ => True) 6 w := fun l J Jx W hW hJ hJx hY h0 => by
  have HI := Lib.hid (h.below' hW rfl)
  refine callsIn_of_wp Try.func203 rfl trivial ?_ rfl
  simp only [Try.ntmps203, List.size_toArray, List.length_cons, List.length_nil, Nat.reduceAdd, Nat.reduceSub, Array.replicate_succ, Array.replicate_zero, List.push_toArray, List.append_toArray, List.nil_append, List.cons_append]
  obtain ⟨hl, i0, i1, i2, i3, i4, i5, i6⟩ := HI.out
  gi_wp2_with (first | (refine wpListIn_skipW (by rfl) ?_; simp only [Act.put, List.setIfInBounds_toArray, List.set_cons_succ, List.set_cons_zero]) | (refine ⟨trivial, ?_⟩; gi_at_call 204; refine (callsIn_wide.2 (writesD_32 _)).mono ?_; rintro e w' ⟨rfl, rfl⟩))
  go_end0
  exact ⟨⟨_, rfl⟩, .inl ⟨_, rfl, h0⟩⟩
set_option maxRecDepth 100000 in
set_option maxHeartbeats 2000000 in
theorem load_35 (w : World) : Calls Try.prog 161 #[.int .i64 35] w fun e w' => e = .returned (.bool true) ∧ w' = w := by
  go_enter Try.func161, Try.ntmps161
  go_wp2
  go_ret
  exact ⟨rfl, rfl⟩
set_option maxRecDepth 100000 in
set_option maxHeartbeats 2000000 in
theorem writesD_35 (w : World) : Calls Try.prog 204 #[.int .i64 35] w fun e w' => e = .returned (.bool true) ∧ w' = w := by
  go_enter Try.func204, Try.ntmps204
  go_wp2_with (go_at_call 161; refine (load_35 _).mono ?_; rintro e w' ⟨rfl, rfl⟩)
  go_ret
  exact ⟨rfl, rfl⟩
set_option maxRecDepth 100000 in
set_option maxHeartbeats 2000000 in
theorem target_35 (d n m a c i : Int) (w : World) : Calls Try.prog 205 #[.agg #[.int .i64 35, .int .i64 d, .int .i64 n, .int .i64 m, .int .i64 a, .int .i64 c, .int .i64 i]] w fun e w' => e = .returned (.int .i64 d) ∧ Below w.heap.size w w' := by
  rcases hb : (d == 31)
  · have hn : d ≠ 31 := by simpa using hb
    go_enter Try.func205, Try.ntmps205
    go_wp2
    go_ret
    exact ⟨rfl, (Below.refl _ _).alloc (Nat.le_refl _) _⟩
  · have hn : d = 31 := by simpa using hb
    subst hn
    go_enter Try.func205, Try.ntmps205
    go_wp2_with (go_at_call 206; refine (takesSP_35 _).mono ?_; rintro e w' ⟨rfl, rfl⟩)
    go_ret
    exact ⟨rfl, (Below.refl _ _).alloc (Nat.le_refl _) _⟩
set_option maxRecDepth 100000 in
set_option maxHeartbeats 2000000 in
theorem written_35 (d n m a c i : Int) (Bi : Nat) (w : World) (h : InsAt w Bi (.int .i64 35) (.int .i64 d) (.int .i64 n) (.int .i64 m) (.int .i64 a) (.int .i64 c) (.int .i64 i)) :
    SeqStopsK Fence.wide 4 Try.prog 203 #[.pointer (some ⟨Bi, 0, none⟩)] (fun x : Int => #[.int .i64 x]) (KpI Bi) (fun xs => xs = [d]) (fun _ => True) 6 w := fun l J Jx W hW hJ hJx hY h0 => by
  have HI := Lib.hid (h.below' hW rfl)
  refine callsIn_of_wp Try.func203 rfl trivial ?_ rfl
  simp only [Try.ntmps203, List.size_toArray, List.length_cons, List.length_nil, Nat.reduceAdd, Nat.reduceSub, Array.replicate_succ, Array.replicate_zero, List.push_toArray, List.append_toArray, List.nil_append, List.cons_append]
  obtain ⟨hl, i0, i1, i2, i3, i4, i5, i6⟩ := HI.out
  gi_wp2_with (first | (refine wpListIn_skipW (by rfl) ?_; simp only [Act.put, List.setIfInBounds_toArray, List.set_cons_succ, List.set_cons_zero]) | (refine ⟨trivial, ?_⟩; gi_at_call 204; refine (callsIn_wide.2 (writesD_35 _)).mono ?_; rintro e w' ⟨rfl, rfl⟩))
  refine ⟨trivial, ?_⟩
  refine (callsIn_wide.2 (target_35 d n m a c i _)).mono ?_
  rintro e v0 ⟨rfl, hb0⟩
  obtain ⟨f0, t0, a0, b0, hy0, hR0⟩ := hY [] d v0 (hJ _ _ _ none h0 (grown_none hb0) (fun r e => by cases e)) (by simp)
  try dsimp only at hy0
  have HV0 := Lib.hid (HI.out.below' hb0 rfl)
  clear hl i0 i1 i2 i3 i4 i5 i6
  obtain ⟨hl, i0, i1, i2, i3, i4, i5, i6⟩ := HV0.out
  gi_wp2_with (first | (refine wpListIn_skipW (by rfl) ?_; simp only [Act.put, List.setIfInBounds_toArray, List.set_cons_succ, List.set_cons_zero]) | (refine ⟨trivial, ?_⟩; gi_at_call 204; refine (callsIn_wide.2 (writesD_35 _)).mono ?_; rintro e w' ⟨rfl, rfl⟩))
  refine hR0.mono ?_
  rintro e W0 (⟨rfl, hJ0, hk0⟩ | ⟨rfl, hx0⟩)
  rotate_left
  · gi_wp2_with (refine wpListIn_skipW (by rfl) ?_; simp only [Act.put, List.setIfInBounds_toArray, List.set_cons_succ, List.set_cons_zero])
    go_end0
    exact ⟨⟨_, rfl⟩, .inr ⟨[] ++ [d], by first | exact ⟨trivial, hx0⟩ | exact hx0⟩⟩
  have HI0 := Lib.hid (HV0.out.kp hk0)
  clear hl i0 i1 i2 i3 i4 i5 i6
  obtain ⟨hl, i0, i1, i2, i3, i4, i5, i6⟩ := HI0.out
  gi_wp2_with (first | (refine wpListIn_skipW (by rfl) ?_; simp only [Act.put, List.setIfInBounds_toArray, List.set_cons_succ, List.set_cons_zero]) | (refine ⟨trivial, ?_⟩; gi_at_call 204; refine (callsIn_wide.2 (writesD_35 _)).mono ?_; rintro e w' ⟨rfl, rfl⟩))
  go_end0
  exact ⟨⟨_, rfl⟩, .inl ⟨_, rfl, hJ0⟩⟩
set_option maxRecDepth 100000 in
set_option maxHeartbeats 2000000 in
theorem load_38 (w : World) : Calls Try.prog 161 #[.int .i64 38] w fun e w' => e = .returned (.bool false) ∧ w' = w := by
  go_enter Try.func161, Try.ntmps161
  go_wp2
  go_ret
  exact ⟨rfl, rfl⟩
set_option maxRecDepth 100000 in
set_option maxHeartbeats 2000000 in
theorem writesD_38 (w : World) : Calls Try.prog 204 #[.int .i64 38] w fun e w' => e = .returned (.bool false) ∧ w' = w := by
  go_enter Try.func204, Try.ntmps204
  go_wp2_with (go_at_call 161; refine (load_38 _).mono ?_; rintro e w' ⟨rfl, rfl⟩)
  go_ret
  exact ⟨rfl, rfl⟩
set_option maxRecDepth 100000 in
set_option maxHeartbeats 2000000 in
theorem written_38 (d n m a c i : Int) (Bi : Nat) (w : World) (h : InsAt w Bi (.int .i64 38) (.int .i64 d) (.int .i64 n) (.int .i64 m) (.int .i64 a) (.int .i64 c) (.int .i64 i)) :
    SeqStopsK Fence.wide 4 Try.prog 203 #[.pointer (some ⟨Bi, 0, none⟩)] (fun x : Int => #[.int .i64 x]) (KpI Bi) (fun xs => xs = []) (fun _ => True) 6 w := fun l J Jx W hW hJ hJx hY h0 => by
  have HI := Lib.hid (h.below' hW rfl)
  refine callsIn_of_wp Try.func203 rfl trivial ?_ rfl
  simp only [Try.ntmps203, List.size_toArray, List.length_cons, List.length_nil, Nat.reduceAdd, Nat.reduceSub, Array.replicate_succ, Array.replicate_zero, List.push_toArray, List.append_toArray, List.nil_append, List.cons_append]
  obtain ⟨hl, i0, i1, i2, i3, i4, i5, i6⟩ := HI.out
  gi_wp2_with (first | (refine wpListIn_skipW (by rfl) ?_; simp only [Act.put, List.setIfInBounds_toArray, List.set_cons_succ, List.set_cons_zero]) | (refine ⟨trivial, ?_⟩; gi_at_call 204; refine (callsIn_wide.2 (writesD_38 _)).mono ?_; rintro e w' ⟨rfl, rfl⟩))
  go_end0
  exact ⟨⟨_, rfl⟩, .inl ⟨_, rfl, h0⟩⟩
set_option maxRecDepth 100000 in
set_option maxHeartbeats 2000000 in
theorem load_41 (w : World) : Calls Try.prog 161 #[.int .i64 41] w fun e w' => e = .returned (.bool false) ∧ w' = w := by
  go_enter Try.func161, Try.ntmps161
  go_wp2
  go_ret
  exact ⟨rfl, rfl⟩
set_option maxRecDepth 100000 in
set_option maxHeartbeats 2000000 in
theorem writesD_41 (w : World) : Calls Try.prog 204 #[.int .i64 41] w fun e w' => e = .returned (.bool false) ∧ w' = w := by
  go_enter Try.func204, Try.ntmps204
  go_wp2_with (go_at_call 161; refine (load_41 _).mono ?_; rintro e w' ⟨rfl, rfl⟩)
  go_ret
  exact ⟨rfl, rfl⟩
set_option maxRecDepth 100000 in
set_option maxHeartbeats 2000000 in
theorem written_41 (d n m a c i : Int) (Bi : Nat) (w : World) (h : InsAt w Bi (.int .i64 41) (.int .i64 d) (.int .i64 n) (.int .i64 m) (.int .i64 a) (.int .i64 c) (.int .i64 i)) :
    SeqStopsK Fence.wide 4 Try.prog 203 #[.pointer (some ⟨Bi, 0, none⟩)] (fun x : Int => #[.int .i64 x]) (KpI Bi) (fun xs => xs = []) (fun _ => True) 6 w := fun l J Jx W hW hJ hJx hY h0 => by
  have HI := Lib.hid (h.below' hW rfl)
  refine callsIn_of_wp Try.func203 rfl trivial ?_ rfl
  simp only [Try.ntmps203, List.size_toArray, List.length_cons, List.length_nil, Nat.reduceAdd, Nat.reduceSub, Array.replicate_succ, Array.replicate_zero, List.push_toArray, List.append_toArray, List.nil_append, List.cons_append]
  obtain ⟨hl, i0, i1, i2, i3, i4, i5, i6⟩ := HI.out
  gi_wp2_with (first | (refine wpListIn_skipW (by rfl) ?_; simp only [Act.put, List.setIfInBounds_toArray, List.set_cons_succ, List.set_cons_zero]) | (refine ⟨trivial, ?_⟩; gi_at_call 204; refine (callsIn_wide.2 (writesD_41 _)).mono ?_; rintro e w' ⟨rfl, rfl⟩))
  go_end0
  exact ⟨⟨_, rfl⟩, .inl ⟨_, rfl, h0⟩⟩
end Go.Proofs.Ytnbpgoacooddjaa.Fr
