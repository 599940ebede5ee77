import Derived.Test.YtnbpgoacooddjaaFRdA
import Derived.Test.YtnbpgoacooddjaaFRdB
import Derived.Test.YtnbpgoacooddjaaFRdC
import Derived.Test.YtnbpgoacooddjaaFRdD
import Derived.Test.YtnbpgoacooddjaaFRdE
import Derived.Test.YtnbpgoacooddjaaFRdF
namespace Go.Proofs.Ytnbpgoacooddjaa.Fr
open Go.RowKit Go.Shelf
set_option linter.unusedVariables false
attribute [local go_sem] Oper.semAt_some
set_option maxRecDepth 100000 in
set_option maxHeartbeats 2000000 in
theorem load_1 (w : World) : Calls Try.prog 161 #[.int .i64 1] w fun e w' => e = .returned (.bool false) ∧ w' = w := by
  go_enter Try.func161, Try.ntmps161
  go_wp2
  go_ret
  exact ⟨rfl, rfl⟩
set_option maxRecDepth 100000 in
set_option maxHeartbeats 2000000 in
theorem writesD_1 (w : World) : Calls Try.prog 204 #[.int .i64 1] w fun e w' => e = .returned (.bool false) ∧ w' = w := by
  go_enter Try.func204, Try.ntmps204
  go_wp2_with (go_at_call 161; refine (load_1 _).mono ?_; rintro e w' ⟨rfl, rfl⟩)
  go_ret
  exact ⟨rfl, rfl⟩
set_option maxRecDepth 100000 in
set_option maxHeartbeats 2000000 in
theorem written_1 (d n m a c i : Int) (Bi : Nat) (w : World) (h : InsAt w Bi (.int .i64 1) (.int .i64 d) (.int .i64 n) (.int .i64 m) (.int .i64 a) (.int .i64 c) (.int .i64 i)) :
    SeqStopsK Fence.wide 4 Try.prog 203 #[.pointer (some ⟨Bi, 0, none⟩)] (fun x : Int => #[.int .i64 x]) (KpI Bi) (fun xs => xs = []) (fun _ => True) 6 w := fun l J Jx W hW hJ hJx hY h0 => by
  have HI := Lib.hid (h.below' hW rfl)
  refine callsIn_of_wp Try.func203 rfl trivial ?_ rfl
  simp only [Try.ntmps203, List.size_toArray, List.length_cons, List.length_nil, Nat.reduceAdd, Nat.reduceSub, Array.replicate_succ, Array.replicate_zero, List.push_toArray, List.append_toArray, List.nil_append, List.cons_append]
  obtain ⟨hl, i0, i1, i2, i3, i4, i5, i6⟩ := HI.out
  gi_wp2_with (first | (refine wpListIn_skipW (by rfl) ?_; simp only [Act.put, List.setIfInBounds_toArray, List.set_cons_succ, List.set_cons_zero]) | (refine ⟨trivial, ?_⟩; gi_at_call 204; refine (callsIn_wide.2 (writesD_1 _)).mono ?_; rintro e w' ⟨rfl, rfl⟩))
  go_end0
  exact ⟨⟨_, rfl⟩, .inl ⟨_, rfl, h0⟩⟩
set_option maxRecDepth 100000 in
set_option maxHeartbeats 2000000 in
theorem load_4 (w : World) : Calls Try.prog 161 #[.int .i64 4] w fun e w' => e = .returned (.bool false) ∧ w' = w := by
  go_enter Try.func161, Try.ntmps161
  go_wp2
  go_ret
  exact ⟨rfl, rfl⟩
set_option maxRecDepth 100000 in
set_option maxHeartbeats 2000000 in
theorem writesD_4 (w : World) : Calls Try.prog 204 #[.int .i64 4] w fun e w' => e = .returned (.bool true) ∧ w' = w := by
  go_enter Try.func204, Try.ntmps204
  go_wp2_with (go_at_call 161; refine (load_4 _).mono ?_; rintro e w' ⟨rfl, rfl⟩)
  go_ret
  exact ⟨rfl, rfl⟩
set_option maxRecDepth 100000 in
set_option maxHeartbeats 2000000 in
theorem target_4 (d n m a c i : Int) (w : World) : Calls Try.prog 205 #[.agg #[.int .i64 4, .int .i64 d, .int .i64 n, .int .i64 m, .int .i64 a, .int .i64 c, .int .i64 i]] w fun e w' => e = .returned (.int .i64 (spOr d)) ∧ Below w.heap.size w w' := by
  rcases hb : (d == 31)
  · have hn : d ≠ 31 := by simpa using hb
    go_enter Try.func205, Try.ntmps205
    go_wp2
    go_ret
    exact ⟨by simp [spOr, hn], (Below.refl _ _).alloc (Nat.le_refl _) _⟩
  · have hn : d = 31 := by simpa using hb
    subst hn
    go_enter Try.func205, Try.ntmps205
    go_wp2_with (go_at_call 206; refine (takesSP_4 _).mono ?_; rintro e w' ⟨rfl, rfl⟩)
    go_ret
    exact ⟨rfl, (Below.refl _ _).alloc (Nat.le_refl _) _⟩
set_option maxRecDepth 100000 in
set_option maxHeartbeats 2000000 in
theorem written_4 (d n m a c i : Int) (Bi : Nat) (w : World) (h : InsAt w Bi (.int .i64 4) (.int .i64 d) (.int .i64 n) (.int .i64 m) (.int .i64 a) (.int .i64 c) (.int .i64 i)) :
    SeqStopsK Fence.wide 4 Try.prog 203 #[.pointer (some ⟨Bi, 0, none⟩)] (fun x : Int => #[.int .i64 x]) (KpI Bi) (fun xs => xs = [(spOr d)]) (fun _ => True) 6 w := fun l J Jx W hW hJ hJx hY h0 => by
  have HI := Lib.hid (h.below' hW rfl)
  refine callsIn_of_wp Try.func203 rfl trivial ?_ rfl
  simp only [Try.ntmps203, List.size_toArray, List.length_cons, List.length_nil, Nat.reduceAdd, Nat.reduceSub, Array.replicate_succ, Array.replicate_zero, List.push_toArray, List.append_toArray, List.nil_append, List.cons_append]
  obtain ⟨hl, i0, i1, i2, i3, i4, i5, i6⟩ := HI.out
  gi_wp2_with (first | (refine wpListIn_skipW (by rfl) ?_; simp only [Act.put, List.setIfInBounds_toArray, List.set_cons_succ, List.set_cons_zero]) | (refine ⟨trivial, ?_⟩; gi_at_call 204; refine (callsIn_wide.2 (writesD_4 _)).mono ?_; rintro e w' ⟨rfl, rfl⟩))
  refine ⟨trivial, ?_⟩
  refine (callsIn_wide.2 (target_4 d n m a c i _)).mono ?_
  rintro e v0 ⟨rfl, hb0⟩
  obtain ⟨f0, t0, a0, b0, hy0, hR0⟩ := hY [] (spOr d) v0 (hJ _ _ _ none h0 (grown_none hb0) (fun r e => by cases e)) (by simp)
  try dsimp only at hy0
  have HV0 := Lib.hid (HI.out.below' hb0 rfl)
  clear hl i0 i1 i2 i3 i4 i5 i6
  obtain ⟨hl, i0, i1, i2, i3, i4, i5, i6⟩ := HV0.out
  gi_wp2_with (first | (refine wpListIn_skipW (by rfl) ?_; simp only [Act.put, List.setIfInBounds_toArray, List.set_cons_succ, List.set_cons_zero]) | (refine ⟨trivial, ?_⟩; gi_at_call 204; refine (callsIn_wide.2 (writesD_4 _)).mono ?_; rintro e w' ⟨rfl, rfl⟩))
  refine hR0.mono ?_
  rintro e W0 (⟨rfl, hJ0, hk0⟩ | ⟨rfl, hx0⟩)
  rotate_left
  · gi_wp2_with (refine wpListIn_skipW (by rfl) ?_; simp only [Act.put, List.setIfInBounds_toArray, List.set_cons_succ, List.set_cons_zero])
    go_end0
    exact ⟨⟨_, rfl⟩, .inr ⟨[] ++ [(spOr d)], by first | exact ⟨trivial, hx0⟩ | exact hx0⟩⟩
  have HI0 := Lib.hid (HV0.out.kp hk0)
  clear hl i0 i1 i2 i3 i4 i5 i6
  obtain ⟨hl, i0, i1, i2, i3, i4, i5, i6⟩ := HI0.out
  gi_wp2_with (first | (refine wpListIn_skipW (by rfl) ?_; simp only [Act.put, List.setIfInBounds_toArray, List.set_cons_succ, List.set_cons_zero]) | (refine ⟨trivial, ?_⟩; gi_at_call 204; refine (callsIn_wide.2 (writesD_4 _)).mono ?_; rintro e w' ⟨rfl, rfl⟩))
  go_end0
  exact ⟨⟨_, rfl⟩, .inl ⟨_, rfl, hJ0⟩⟩
set_option maxRecDepth 100000 in
set_option maxHeartbeats 2000000 in
theorem load_7 (w : World) : Calls Try.prog 161 #[.int .i64 7] w fun e w' => e = .returned (.bool false) ∧ w' = w := by
  go_enter Try.func161, Try.ntmps161
  go_wp2
  go_ret
  exact ⟨rfl, rfl⟩
set_option maxRecDepth 100000 in
set_option maxHeartbeats 2000000 in
theorem writesD_7 (w : World) : Calls Try.prog 204 #[.int .i64 7] w fun e w' => e = .returned (.bool true) ∧ w' = w := by
  go_enter Try.func204, Try.ntmps204
  go_wp2_with (go_at_call 161; refine (load_7 _).mono ?_; rintro e w' ⟨rfl, rfl⟩)
  go_ret
  exact ⟨rfl, rfl⟩
set_option maxRecDepth 100000 in
set_option maxHeartbeats 2000000 in
theorem target_7 (d n m a c i : Int) (w : World) : Calls Try.prog 205 #[.agg #[.int .i64 7, .int .i64 d, .int .i64 n, .int .i64 m, .int .i64 a, .int .i64 c, .int .i64 i]] w fun e w' => e = .returned (.int .i64 d) ∧ Below w.heap.size w w' := by
  rcases hb : (d == 31)
  · have hn : d ≠ 31 := by simpa using hb
    go_enter Try.func205, Try.ntmps205
    go_wp2
    go_ret
    exact ⟨rfl, (Below.refl _ _).alloc (Nat.le_refl _) _⟩
  · have hn : d = 31 := by simpa using hb
    subst hn
    go_enter Try.func205, Try.ntmps205
    go_wp2_with (go_at_call 206; refine (takesSP_7 _).mono ?_; rintro e w' ⟨rfl, rfl⟩)
    go_ret
    exact ⟨rfl, (Below.refl _ _).alloc (Nat.le_refl _) _⟩
set_option maxRecDepth 100000 in
set_option maxHeartbeats 2000000 in
theorem written_7 (d n m a c i : Int) (Bi : Nat) (w : World) (h : InsAt w Bi (.int .i64 7) (.int .i64 d) (.int .i64 n) (.int .i64 m) (.int .i64 a) (.int .i64 c) (.int .i64 i)) :
    SeqStopsK Fence.wide 4 Try.prog 203 #[.pointer (some ⟨Bi, 0, none⟩)] (fun x : Int => #[.int .i64 x]) (KpI Bi) (fun xs => xs = [d]) (fun _ => True) 6 w := fun l J Jx W hW hJ hJx hY h0 => by
  have HI := Lib.hid (h.below' hW rfl)
  refine callsIn_of_wp Try.func203 rfl trivial ?_ rfl
  simp only [Try.ntmps203, List.size_toArray, List.length_cons, List.length_nil, Nat.reduceAdd, Nat.reduceSub, Array.replicate_succ, Array.replicate_zero, List.push_toArray, List.append_toArray, List.nil_append, List.cons_append]
  obtain ⟨hl, i0, i1, i2, i3, i4, i5, i6⟩ := HI.out
  gi_wp2_with (first | (refine wpListIn_skipW (by rfl) ?_; simp only [Act.put, List.setIfInBounds_toArray, List.set_cons_succ, List.set_cons_zero]) | (refine ⟨trivial, ?_⟩; gi_at_call 204; refine (callsIn_wide.2 (writesD_7 _)).mono ?_; rintro e w' ⟨rfl, rfl⟩))
  refine ⟨trivial, ?_⟩
  refine (callsIn_wide.2 (target_7 d n m a c i _)).mono ?_
  rintro e v0 ⟨rfl, hb0⟩
  obtain ⟨f0, t0, a0, b0, hy0, hR0⟩ := hY [] d v0 (hJ _ _ _ none h0 (grown_none hb0) (fun r e => by cases e)) (by simp)
  try dsimp only at hy0
  have HV0 := Lib.hid (HI.out.below' hb0 rfl)
  clear hl i0 i1 i2 i3 i4 i5 i6
  obtain ⟨hl, i0, i1, i2, i3, i4, i5, i6⟩ := HV0.out
  gi_wp2_with (first | (refine wpListIn_skipW (by rfl) ?_; simp only [Act.put, List.setIfInBounds_toArray, List.set_cons_succ, List.set_cons_zero]) | (refine ⟨trivial, ?_⟩; gi_at_call 204; refine (callsIn_wide.2 (writesD_7 _)).mono ?_; rintro e w' ⟨rfl, rfl⟩))
  refine hR0.mono ?_
  rintro e W0 (⟨rfl, hJ0, hk0⟩ | ⟨rfl, hx0⟩)
  rotate_left
  · gi_wp2_with (refine wpListIn_skipW (by rfl) ?_; simp only [Act.put, List.setIfInBounds_toArray, List.set_cons_succ, List.set_cons_zero])
    go_end0
    exact ⟨⟨_, rfl⟩, .inr ⟨[] ++ [d], by first | exact ⟨trivial, hx0⟩ | exact hx0⟩⟩
  have HI0 := Lib.hid (HV0.out.kp hk0)
  clear hl i0 i1 i2 i3 i4 i5 i6
  obtain ⟨hl, i0, i1, i2, i3, i4, i5, i6⟩ := HI0.out
  gi_wp2_with (first | (refine wpListIn_skipW (by rfl) ?_; simp only [Act.put, List.setIfInBounds_toArray, List.set_cons_succ, List.set_cons_zero]) | (refine ⟨trivial, ?_⟩; gi_at_call 204; refine (callsIn_wide.2 (writesD_7 _)).mono ?_; rintro e w' ⟨rfl, rfl⟩))
  go_end0
  exact ⟨⟨_, rfl⟩, .inl ⟨_, rfl, hJ0⟩⟩
set_option maxRecDepth 100000 in
set_option maxHeartbeats 2000000 in
theorem load_10 (w : World) : Calls Try.prog 161 #[.int .i64 10] w fun e w' => e = .returned (.bool false) ∧ w' = w := by
  go_enter Try.func161, Try.ntmps161
  go_wp2
  go_ret
  exact ⟨rfl, rfl⟩
set_option maxRecDepth 100000 in
set_option maxHeartbeats 2000000 in
theorem writesD_10 (w : World) : Calls Try.prog 204 #[.int .i64 10] w fun e w' => e = .returned (.bool true) ∧ w' = w := by
  go_enter Try.func204, Try.ntmps204
  go_wp2_with (go_at_call 161; refine (load_10 _).mono ?_; rintro e w' ⟨rfl, rfl⟩)
  go_ret
  exact ⟨rfl, rfl⟩
set_option maxRecDepth 100000 in
set_option maxHeartbeats 2000000 in
theorem target_10 (d n m a c i : Int) (w : World) : Calls Try.prog 205 #[.agg #[.int .i64 10, .int .i64 d, .int .i64 n, .int .i64 m, .int .i64 a, .int .i64 c, .int .i64 i]] w fun e w' => e = .returned (.int .i64 d) ∧ Below w.heap.size w w' := by
  rcases hb : (d == 31)
  · have hn : d ≠ 31 := by simpa using hb
    go_enter Try.func205, Try.ntmps205
    go_wp2
    go_ret
    exact ⟨rfl, (Below.refl _ _).alloc (Nat.le_refl _) _⟩
  · have hn : d = 31 := by simpa using hb
    subst hn
    go_enter Try.func205, Try.ntmps205
    go_wp2_with (go_at_call 206; refine (takesSP_10 _).mono ?_; rintro e w' ⟨rfl, rfl⟩)
    go_ret
    exact ⟨rfl, (Below.refl _ _).alloc (Nat.le_refl _) _⟩
set_option maxRecDepth 100000 in
set_option maxHeartbeats 2000000 in
theorem written_10 (d n m a c i : Int) (Bi : Nat) (w : World) (h : InsAt w Bi (.int .i64 10) (.int .i64 d) (.int .i64 n) (.int .i64 m) (.int .i64 a) (.int .i64 c) (.int .i64 i)) :
    SeqStopsK Fence.wide 4 Try.prog 203 #[.pointer (some ⟨Bi, 0, none⟩)] (fun x : Int => #[.int .i64 x]) (KpI Bi) (fun xs => xs = [d]) (fun _ => True) 6 w := fun l J Jx W hW hJ hJx hY h0 => by
  have HI := Lib.hid (h.below' hW rfl)
  refine callsIn_of_wp Try.func203 rfl trivial ?_ rfl
  simp only [Try.ntmps203, List.size_toArray, List.length_cons, List.length_nil, Nat.reduceAdd, Nat.reduceSub, Array.replicate_succ, Array.replicate_zero, List.push_toArray, List.append_toArray, List.nil_append, List.cons_append]
  obtain ⟨hl, i0, i1, i2, i3, i4, i5, i6⟩ := HI.out
  gi_wp2_with (first | (refine wpListIn_skipW (by rfl) ?_; simp only [Act.put, List.setIfInBounds_toArray, List.set_cons_succ, List.set_cons_zero]) | (refine ⟨trivial, ?_⟩; gi_at_call 204; refine (callsIn_wide.2 (writesD_10 _)).mono ?_; rintro e w' ⟨rfl, rfl⟩))
  refine ⟨trivial, ?_⟩
  refine (callsIn_wide.2 (target_10 d n m a c i _)).mono ?_
  rintro e v0 ⟨rfl, hb0⟩
  obtain ⟨f0, t0, a0, b0, hy0, hR0⟩ := hY [] d v0 (hJ _ _ _ none h0 (grown_none hb0) (fun r e => by cases e)) (by simp)
  try dsimp only at hy0
  have HV0 := Lib.hid (HI.out.below' hb0 rfl)
  clear hl i0 i1 i2 i3 i4 i5 i6
  obtain ⟨hl, i0, i1, i2, i3, i4, i5, i6⟩ := HV0.out
  gi_wp2_with (first | (refine wpListIn_skipW (by rfl) ?_; simp only [Act.put, List.setIfInBounds_toArray, List.set_cons_succ, List.set_cons_zero]) | (refine ⟨trivial, ?_⟩; gi_at_call 204; refine (callsIn_wide.2 (writesD_10 _)).mono ?_; rintro e w' ⟨rfl, rfl⟩))
  refine hR0.mono ?_
  rintro e W0 (⟨rfl, hJ0, hk0⟩ | ⟨rfl, hx0⟩)
  rotate_left
  · gi_wp2_with (refine wpListIn_skipW (by rfl) ?_; simp only [Act.put, List.setIfInBounds_toArray, List.set_cons_succ, List.set_cons_zero])
    go_end0
    exact ⟨⟨_, rfl⟩, .inr ⟨[] ++ [d], by first | exact ⟨trivial, hx0⟩ | exact hx0⟩⟩
  have HI0 := Lib.hid (HV0.out.kp hk0)
  clear hl i0 i1 i2 i3 i4 i5 i6
  obtain ⟨hl, i0, i1, i2, i3, i4, i5, i6⟩ := HI0.out
  gi_wp2_with (first | (refine wpListIn_skipW (by rfl) ?_; simp only [Act.put, List.setIfInBounds_toArray, List.set_cons_succ, List.set_cons_zero]) | (refine ⟨trivial, ?_⟩; gi_at_call 204; refine (callsIn_wide.2 (writesD_10 _)).mono ?_; rintro e w' ⟨rfl, rfl⟩))
  go_end0
  exact ⟨⟨_, rfl⟩, .inl ⟨_, rfl, hJ0⟩⟩
set_option maxRecDepth 100000 in
set_option maxHeartbeats 2000000 in
theorem load_13 (w : World) : Calls Try.prog 161 #[.int .i64 13] w fun e w' => e = .returned (.bool false) ∧ w' = w := by
  go_enter Try.func161, Try.ntmps161
  go_wp2
  go_ret
  exact ⟨rfl, rfl⟩
set_option maxRecDepth 100000 in
set_option maxHeartbeats 2000000 in
theorem writesD_13 (w : World) : Calls Try.prog 204 #[.int .i64 13] w fun e w' => e = .returned (.bool true) ∧ w' = w := by
  go_enter Try.func204, Try.ntmps204
  go_wp2_with (go_at_call 161; refine (load_13 _).mono ?_; rintro e w' ⟨rfl, rfl⟩)
  go_ret
  exact ⟨rfl, rfl⟩
set_option maxRecDepth 100000 in
set_option maxHeartbeats 2000000 in
theorem target_13 (d n m a c i : Int) (w : World) : Calls Try.prog 205 #[.agg #[.int .i64 13, .int .i64 d, .int .i64 n, .int .i64 m, .int .i64 a, .int .i64 c, .int .i64 i]] w fun e w' => e = .returned (.int .i64 d) ∧ Below w.heap.size w w' := by
  rcases hb : (d == 31)
  · have hn : d ≠ 31 := by simpa using hb
    go_enter Try.func205, Try.ntmps205
    go_wp2
    go_ret
    exact ⟨rfl, (Below.refl _ _).alloc (Nat.le_refl _) _⟩
  · have hn : d = 31 := by simpa using hb
    subst hn
    go_enter Try.func205, Try.ntmps205
    go_wp2_with (go_at_call 206; refine (takesSP_13 _).mono ?_; rintro e w' ⟨rfl, rfl⟩)
    go_ret
    exact ⟨rfl, (Below.refl _ _).alloc (Nat.le_refl _) _⟩
set_option maxRecDepth 100000 in
set_option maxHeartbeats 2000000 in
theorem written_13 (d n m a c i : Int) (Bi : Nat) (w : World) (h : InsAt w Bi (.int .i64 13) (.int .i64 d) (.int .i64 n) (.int .i64 m) (.int .i64 a) (.int .i64 c) (.int .i64 i)) :
    SeqStopsK Fence.wide 4 Try.prog 203 #[.pointer (some ⟨Bi, 0, none⟩)] (fun x : Int => #[.int .i64 x]) (KpI Bi) (fun xs => xs = [d]) (fun _ => True) 6 w := fun l J Jx W hW hJ hJx hY h0 => by
  have HI := Lib.hid (h.below' hW rfl)
  refine callsIn_of_wp Try.func203 rfl trivial ?_ rfl
  simp only [Try.ntmps203, List.size_toArray, List.length_cons, List.length_nil, Nat.reduceAdd, Nat.reduceSub, Array.replicate_succ, Array.replicate_zero, List.push_toArray, List.append_toArray, List.nil_append, List.cons_append]
  obtain ⟨hl, i0, i1, i2, i3, i4, i5, i6⟩ := HI.out
  gi_wp2_with (first | (refine wpListIn_skipW (by rfl) ?_; simp only [Act.put, List.setIfInBounds_toArray, List.set_cons_succ, List.set_cons_zero]) | (refine ⟨trivial, ?_⟩; gi_at_call 204; refine (callsIn_wide.2 (writesD_13 _)).mono ?_; rintro e w' ⟨rfl, rfl⟩))
  refine ⟨trivial, ?_⟩
  refine (callsIn_wide.2 (target_13 d n m a c i _)).mono ?_
  rintro e v0 ⟨rfl, hb0⟩
  obtain ⟨f0, t0, a0, b0, hy0, hR0⟩ := hY [] d v0 (hJ _ _ _ none h0 (grown_none hb0) (fun r e => by cases e)) (by simp)
  try dsimp only at hy0
  have HV0 := Lib.hid (HI.out.below' hb0 rfl)
  clear hl i0 i1 i2 i3 i4 i5 i6
  obtain ⟨hl, i0, i1, i2, i3, i4, i5, i6⟩ := HV0.out
  gi_wp2_with (first | (refine wpListIn_skipW (by rfl) ?_; simp only [Act.put, List.setIfInBounds_toArray, List.set_cons_succ, List.set_cons_zero]) | (refine ⟨trivial, ?_⟩; gi_at_call 204; refine (callsIn_wide.2 (writesD_13 _)).mono ?_; rintro e w' ⟨rfl, rfl⟩))
  refine hR0.mono ?_
  rintro e W0 (⟨rfl, hJ0, hk0⟩ | ⟨rfl, hx0⟩)
  rotate_left
  · gi_wp2_with (refine wpListIn_skipW (by rfl) ?_; simp only [Act.put, List.setIfInBounds_toArray, List.set_cons_succ, List.set_cons_zero])
    go_end0
    exact ⟨⟨_, rfl⟩, .inr ⟨[] ++ [d], by first | exact ⟨trivial, hx0⟩ | exact hx0⟩⟩
  have HI0 := Lib.hid (HV0.out.kp hk0)
  clear hl i0 i1 i2 i3 i4 i5 i6
  obtain ⟨hl, i0, i1, i2, i3, i4, i5, i6⟩ := HI0.out
  gi_wp2_with (first | (refine wpListIn_skipW (by rfl) ?_; simp only [Act.put, List.setIfInBounds_toArray, List.set_cons_succ, List.set_cons_zero]) | (refine ⟨trivial, ?_⟩; gi_at_call 204; refine (callsIn_wide.2 (writesD_13 _)).mono ?_; rintro e w' ⟨rfl, rfl⟩))
  go_end0
  exact ⟨⟨_, rfl⟩, .inl ⟨_, rfl, hJ0⟩⟩
set_option maxRecDepth 100000 in
set_option maxHeartbeats 2000000 in
theorem load_16 (w : World) : Calls Try.prog 161 #[.int .i64 16] w fun e w' => e = .returned (.bool false) ∧ w' = w := by
  go_enter Try.func161, Try.ntmps161
  go_wp2
  go_ret
  exact ⟨rfl, rfl⟩
set_option maxRecDepth 100000 in
set_option maxHeartbeats 2000000 in
theorem writesD_16 (w : World) : Calls Try.prog 204 #[.int .i64 16] w fun e w' => e = .returned (.bool true) ∧ w' = w := by
  go_enter Try.func204, Try.ntmps204
  go_wp2_with (go_at_call 161; refine (load_16 _).mono ?_; rintro e w' ⟨rfl, rfl⟩)
  go_ret
  exact ⟨rfl, rfl⟩
set_option maxRecDepth 100000 in
set_option maxHeartbeats 2000000 in
theorem target_16 (d n m a c i : Int) (w : World) : Calls Try.prog 205 #[.agg #[.int .i64 16, .int .i64 d, .int .i64 n, .int .i64 m, .int .i64 a, .int .i64 c, .int .i64 i]] w fun e w' => e = .returned (.int .i64 d) ∧ Below w.heap.size w w' := by
  rcases hb : (d == 31)
  · have hn : d ≠ 31 := by simpa using hb
    go_enter Try.func205, Try.ntmps205
    go_wp2
    go_ret
    exact ⟨rfl, (Below.refl _ _).alloc (Nat.le_refl _) _⟩
  · have hn : d = 31 := by simpa using hb
    subst hn
    go_enter Try.func205, Try.ntmps205
    go_wp2_with (go_at_call 206; refine (takesSP_16 _).mono ?_; rintro e w' ⟨rfl, rfl⟩)
    go_ret
    exact ⟨rfl, (Below.refl _ _).alloc (Nat.le_refl _) _⟩
set_option maxRecDepth 100000 in
set_option maxHeartbeats 2000000 in
theorem written_16 (d n m a c i : Int) (Bi : Nat) (w : World) (h : InsAt w Bi (.int .i64 16) (.int .i64 d) (.int .i64 n) (.int .i64 m) (.int .i64 a) (.int .i64 c) (.int .i64 i)) :
    SeqStopsK Fence.wide 4 Try.prog 203 #[.pointer (some ⟨Bi, 0, none⟩)] (fun x : Int => #[.int .i64 x]) (KpI Bi) (fun xs => xs = [d]) (fun _ => True) 6 w := fun l J Jx W hW hJ hJx hY h0 => by
  have HI := Lib.hid (h.below' hW rfl)
  refine callsIn_of_wp Try.func203 rfl trivial ?_ rfl
  simp only [Try.ntmps203, List.size_toArray, List.length_cons, List.length_nil, Nat.reduceAdd, Nat.reduceSub, Array.replicate_succ, Array.replicate_zero, List.push_toArray, List.append_toArray, List.nil_append, List.cons_append]
  obtain ⟨hl, i0, i1, i2, i3, i4, i5, i6⟩ := HI.out
  gi_wp2_with (first | (refine wpListIn_skipW (by rfl) ?_; simp only [Act.put, List.setIfInBounds_toArray, List.set_cons_succ, List.set_cons_zero]) | (refine ⟨trivial, ?_⟩; gi_at_call 204; refine (callsIn_wide.2 (writesD_16 _)).mono ?_; rintro e w' ⟨rfl, rfl⟩))
  refine ⟨trivial, ?_⟩
  refine (callsIn_wide.2 (target_16 d n m a c i _)).mono ?_
  rintro e v0 ⟨rfl, hb0⟩
  obtain ⟨f0, t0, a0, b0, hy0, hR0⟩ := hY [] d v0 (hJ _ _ _ none h0 (grown_none hb0) (fun r e => by cases e)) (by simp)
  try dsimp only at hy0
  have HV0 := Lib.hid (HI.out.below' hb0 rfl)
  clear hl i0 i1 i2 i3 i4 i5 i6
  obtain ⟨hl, i0, i1, i2, i3, i4, i5, i6⟩ := HV0.out
  gi_wp2_with (first | (refine wpListIn_skipW (by rfl) ?_; simp only [Act.put, List.setIfInBounds_toArray, List.set_cons_succ, List.set_cons_zero]) | (refine ⟨trivial, ?_⟩; gi_at_call 204; refine (callsIn_wide.2 (writesD_16 _)).mono ?_; rintro e w' ⟨rfl, rfl⟩))
  refine hR0.mono ?_
  rintro e W0 (⟨rfl, hJ0, hk0⟩ | ⟨rfl, hx0⟩)
  rotate_left
  · gi_wp2_with (refine wpListIn_skipW (by rfl) ?_; simp only [Act.put, List.setIfInBounds_toArray, List.set_cons_succ, List.set_cons_zero])
    go_end0
    exact ⟨⟨_, rfl⟩, .inr ⟨[] ++ [d], by first | exact ⟨trivial, hx0⟩ | exact hx0⟩⟩
  have HI0 := Lib.hid (HV0.out.kp hk0)
  clear hl i0 i1 i2 i3 i4 i5 i6
  obtain ⟨hl, i0, i1, i2, i3, i4, i5, i6⟩ := HI0.out
  gi_wp2_with (first | (refine wpListIn_skipW (by rfl) ?_; simp only [Act.put, List.setIfInBounds_toArray, List.set_cons_succ, List.set_cons_zero]) | (refine ⟨trivial, ?_⟩; gi_at_call 204; refine (callsIn_wide.2 (writesD_16 _)).mono ?_; rintro e w' ⟨rfl, rfl⟩))
  go_end0
  exact ⟨⟨_, rfl⟩, .inl ⟨_, rfl, hJ0⟩⟩
set_option maxRecDepth 100000 in
set_option maxHeartbeats 2000000 in
theorem load_19 (w : World) : Calls Try.prog 161 #[.int .i64 19] w fun e w' => e = .returned (.bool false) ∧ w' = w := by
  go_enter Try.func161, Try.ntmps161
  go_wp2
  go_ret
  exact ⟨rfl, rfl⟩
set_option maxRecDepth 100000 in
set_option maxHeartbeats 2000000 in
theorem writesD_19 (w : World) : Calls Try.prog 204 #[.int .i64 19] w fun e w' => e = .returned (.bool true) ∧ w' = w := by
  go_enter Try.func204, Try.ntmps204
  go_wp2_with (go_at_call 161; refine (load_19 _).mono ?_; rintro e w' ⟨rfl, rfl⟩)
  go_ret
  exact ⟨rfl, rfl⟩
set_option maxRecDepth 100000 in
set_option maxHeartbeats 2000000 in
theorem target_19 (d n m a c i : Int) (w : World) : Calls Try.prog 205 #[.agg #[.int .i64 19, .int .i64 d, .int .i64 n, .int .i64 m, .int .i64 a, .int .i64 c, .int .i64 i]] w fun e w' => e = .returned (.int .i64 d) ∧ Below w.heap.size w w' := by
  rcases hb : (d == 31)
  · have hn : d ≠ 31 := by simpa using hb
    go_enter Try.func205, Try.ntmps205
    go_wp2
    go_ret
    exact ⟨rfl, (Below.refl _ _).alloc (Nat.le_refl _) _⟩
  · have hn : d = 31 := by simpa using hb
    subst hn
    go_enter Try.func205, Try.ntmps205
    go_wp2_with (go_at_call 206; refine (takesSP_19 _).mono ?_; rintro e w' ⟨rfl, rfl⟩)
    go_ret
    exact ⟨rfl, (Below.refl _ _).alloc (Nat.le_refl _) _⟩
set_option maxRecDepth 100000 in
set_option maxHeartbeats 2000000 in
theorem written_19 (d n m a c i : Int) (Bi : Nat) (w : World) (h : InsAt w Bi (.int .i64 19) (.int .i64 d) (.int .i64 n) (.int .i64 m) (.int .i64 a) (.int .i64 c) (.int .i64 i)) :
    SeqStopsK Fence.wide 4 Try.prog 203 #[.pointer (some ⟨Bi, 0, none⟩)] (fun x : Int => #[.int .i64 x]) (KpI Bi) (fun xs => xs = [d]) (fun _ => True) 6 w := fun l J Jx W hW hJ hJx hY h0 => by
  have HI := Lib.hid (h.below' hW rfl)
  refine callsIn_of_wp Try.func203 rfl trivial ?_ rfl
  simp only [Try.ntmps203, List.size_toArray, List.length_cons, List.length_nil, Nat.reduceAdd, Nat.reduceSub, Array.replicate_succ, Array.replicate_zero, List.push_toArray, List.append_toArray, List.nil_append, List.cons_append]
  obtain ⟨hl, i0, i1, i2, i3, i4, i5, i6⟩ := HI.out
  gi_wp2_with (first | (refine wpListIn_skipW (by rfl) ?_; simp only [Act.put, List.setIfInBounds_toArray, List.set_cons_succ, List.set_cons_zero]) | (refine ⟨trivial, ?_⟩; gi_at_call 204; refine (callsIn_wide.2 (writesD_19 _)).mono ?_; rintro e w' ⟨rfl, rfl⟩))
  refine ⟨trivial, ?_⟩
  refine (callsIn_wide.2 (target_19 d n m a c i _)).mono ?_
  rintro e v0 ⟨rfl, hb0⟩
  obtain ⟨f0, t0, a0, b0, hy0, hR0⟩ := hY [] d v0 (hJ _ _ _ none h0 (grown_none hb0) (fun r e => by cases e)) (by simp)
  try dsimp only at hy0
  have HV0 := Lib.hid (HI.out.below' hb0 rfl)
  clear hl i0 i1 i2 i3 i4 i5 i6
  obtain ⟨hl, i0, i1, i2, i3, i4, i5, i6⟩ := HV0.out
  gi_wp2_with (first | (refine wpListIn_skipW (by rfl) ?_; simp only [Act.put, List.setIfInBounds_toArray, List.set_cons_succ, List.set_cons_zero]) | (refine ⟨trivial, ?_⟩; gi_at_call 204; refine (callsIn_wide.2 (writesD_19 _)).mono ?_; rintro e w' ⟨rfl, rfl⟩))
  refine hR0.mono ?_
  rintro e W0 (⟨rfl, hJ0, hk0⟩ | ⟨rfl, hx0⟩)
  rotate_left
  · gi_wp2_with (refine wpListIn_skipW (by rfl) ?_; simp only [Act.put, List.setIfInBounds_toArray, List.set_cons_succ, List.set_cons_zero])
    go_end0
    exact ⟨⟨_, rfl⟩, .inr ⟨[] ++ [d], by first | exact ⟨trivial, hx0⟩ | exact hx0⟩⟩
  have HI0 := Lib.hid (HV0.out.kp hk0)
  clear hl i0 i1 i2 i3 i4 i5 i6
  obtain ⟨hl, i0, i1, i2, i3, i4, i5, i6⟩ := HI0.out
  gi_wp2_with (first | (refine wpListIn_skipW (by rfl) ?_; simp only [Act.put, List.setIfInBounds_toArray, List.set_cons_succ, List.set_cons_zero]) | (refine ⟨trivial, ?_⟩; gi_at_call 204; refine (callsIn_wide.2 (writesD_19 _)).mono ?_; rintro e w' ⟨rfl, rfl⟩))
  go_end0
  exact ⟨⟨_, rfl⟩, .inl ⟨_, rfl, hJ0⟩⟩
set_option maxRecDepth 100000 in
set_option maxHeartbeats 2000000 in
theorem load_22 (w : World) : Calls Try.prog 161 #[.int .i64 22] w fun e w' => e = .returned (.bool false) ∧ w' = w := by
  go_enter Try.func161, Try.ntmps161
  go_wp2
  go_ret
  exact ⟨rfl, rfl⟩
set_option maxRecDepth 100000 in
set_option maxHeartbeats 2000000 in
theorem writesD_22 (w : World) : Calls Try.prog 204 #[.int .i64 22] w fun e w' => e = .returned (.bool false) ∧ w' = w := by
  go_enter Try.func204, Try.ntmps204
  go_wp2_with (go_at_call 161; refine (load_22 _).mono ?_; rintro e w' ⟨rfl, rfl⟩)
  go_ret
  exact ⟨rfl, rfl⟩
set_option maxRecDepth 100000 in
set_option maxHeartbeats 2000000 in
theorem written_22 (d n m a c i : Int) (Bi : Nat) (w : World) (h : InsAt w Bi (.int .i64 22) (.int .i64 d) (.int .i64 n) (.int .i64 m) (.int .i64 a) (.int .i64 c) (.int .i64 i)) :
    SeqStopsK Fence.wide 4 Try.prog 203 #[.pointer (some ⟨Bi, 0, none⟩)] (fun x : Int => #[.int .i64 x]) (KpI Bi) (fun xs => xs = []) (fun _ => True) 6 w := fun l J Jx W hW hJ hJx hY h0 => by
  have HI := Lib.hid (h.below' hW rfl)
  refine callsIn_of_wp Try.func203 rfl trivial ?_ rfl
  simp only [Try.ntmps203, List.size_toArray, List.length_cons, List.length_nil, Nat.reduceAdd, Nat.reduceSub, Array.replicate_succ, Array.replicate_zero, List.push_toArray, List.append_toArray, List.nil_append, List.cons_append]
  obtain ⟨hl, i0, i1, i2, i3, i4, i5, i6⟩ := HI.out
  gi_wp2_with (first | (refine wpListIn_skipW (by rfl) ?_; simp only [Act.put, List.setIfInBounds_toArray, List.set_cons_succ, List.set_cons_zero]) | (refine ⟨trivial, ?_⟩; gi_at_call 204; refine (callsIn_wide.2 (writesD_22 _)).mono ?_; rintro e w' ⟨rfl, rfl⟩))
  go_end0
  exact ⟨⟨_, rfl⟩, .inl ⟨_, rfl, h0⟩⟩
set_option maxRecDepth 100000 in
set_option maxHeartbeats 2000000 in
theorem load_25 (w : World) : Calls Try.prog 161 #[.int .i64 25] w fun e w' => e = .returned (.bool false) ∧ w' = w := by
  go_enter Try.func161, Try.ntmps161
  go_wp2
  go_ret
  exact ⟨rfl, rfl⟩
set_option maxRecDepth 100000 in
set_option maxHeartbeats 2000000 in
theorem writesD_25 (w : World) : Calls Try.prog 204 #[.int .i64 25] w fun e w' => e = .returned (.bool false) ∧ w' = w := by
  go_enter Try.func204, Try.ntmps204
  go_wp2_with (go_at_call 161; refine (load_25 _).mono ?_; rintro e w' ⟨rfl, rfl⟩)
  go_ret
  exact ⟨rfl, rfl⟩
set_option maxRecDepth 100000 in
set_option maxHeartbeats 2000000 in
theorem written_25 (d n m a c i : Int) (Bi : Nat) (w : World) (h : InsAt w Bi (.int .i64 25) (.int .i64 d) (.int .i64 n) (.int .i64 m) (.int .i64 a) (.int .i64 c) (.int .i64 i)) :
    SeqStopsK Fence.wide 4 Try.prog 203 #[.pointer (some ⟨Bi, 0, none⟩)] (fun x : Int => #[.int .i64 x]) (KpI Bi) (fun xs => xs = []) (fun _ => True) 6 w := fun l J Jx W hW hJ hJx hY h0 => by
  have HI := Lib.hid (h.below' hW rfl)
  refine callsIn_of_wp Try.func203 rfl trivial ?_ rfl
  simp only [Try.ntmps203, List.size_toArray, List.length_cons, List.length_nil, Nat.reduceAdd, Nat.reduceSub, Array.replicate_succ, Array.replicate_zero, List.push_toArray, List.append_toArray, List.nil_append, List.cons_append]
  obtain ⟨hl, i0, i1, i2, i3, i4, i5, i6⟩ := HI.out
  gi_wp2_with (first | (refine wpListIn_skipW (by rfl) ?_; simp only [Act.put, List.setIfInBounds_toArray, List.set_cons_succ, List.set_cons_zero]) | (refine ⟨trivial, ?_⟩; gi_at_call 204; refine (callsIn_wide.2 (writesD_25 _)).mono ?_; rintro e w' ⟨rfl, rfl⟩))
  go_end0
  exact ⟨⟨_, rfl⟩, .inl ⟨_, rfl, h0⟩⟩
set_option maxRecDepth 100000 in
set_option maxHeartbeats 2000000 in
theorem load_28 (w : World) : Calls Try.prog 161 #[.int .i64 28] w fun e w' => e = .returned (.bool true) ∧ w' = w := by
  go_enter Try.func161, Try.ntmps161
  go_wp2
  go_ret
  exact ⟨rfl, rfl⟩
set_option maxRecDepth 100000 in
set_option maxHeartbeats 2000000 in
theorem writesD_28 (w : World) : Calls Try.prog 204 #[.int .i64 28] w fun e w' => e = .returned (.bool true) ∧ w' = w := by
  go_enter Try.func204, Try.ntmps204
  go_wp2_with (go_at_call 161; refine (load_28 _).mono ?_; rintro e w' ⟨rfl, rfl⟩)
  go_ret
  exact ⟨rfl, rfl⟩
set_option maxRecDepth 100000 in
set_option maxHeartbeats 2000000 in
theorem target_28 (d n m a c i : Int) (w : World) : Calls Try.prog 205 #[.agg #[.int .i64 28, .int .i64 d, .int .i64 n, .int .i64 m, .int .i64 a, .int .i64 c, .int .i64 i]] w fun e w' => e = .returned (.int .i64 d) ∧ Below w.heap.size w w' := by
  rcases hb : (d == 31)
  · have hn : d ≠ 31 := by simpa using hb
    go_enter Try.func205, Try.ntmps205
    go_wp2
    go_ret
    exact ⟨rfl, (Below.refl _ _).alloc (Nat.le_refl _) _⟩
  · have hn : d = 31 := by simpa using hb
    subst hn
    go_enter Try.func205, Try.ntmps205
    go_wp2_with (go_at_call 206; refine (takesSP_28 _).mono ?_; rintro e w' ⟨rfl, rfl⟩)
    go_ret
    exact ⟨rfl, (Below.refl _ _).alloc (Nat.le_refl _) _⟩
set_option maxRecDepth 100000 in
set_option maxHeartbeats 2000000 in
theorem written_28 (d n m a c i : Int) (Bi : Nat) (w : World) (h : InsAt w Bi (.int .i64 28) (.int .i64 d) (.int .i64 n) (.int .i64 m) (.int .i64 a) (.int .i64 c) (.int .i64 i)) :
    SeqStopsK Fence.wide 4 Try.prog 203 #[.pointer (some ⟨Bi, 0, none⟩)] (fun x : Int => #[.int .i64 x]) (KpI Bi) (fun xs => xs = [d]) (fun _ => True) 6 w := fun l J Jx W hW hJ hJx hY h0 => by
  have HI := Lib.hid (h.below' hW rfl)
  refine callsIn_of_wp Try.func203 rfl trivial ?_ rfl
  simp only [Try.ntmps203, List.size_toArray, List.length_cons, List.length_nil, Nat.reduceAdd, Nat.reduceSub, Array.replicate_succ, Array.replicate_zero, List.push_toArray, List.append_toArray, List.nil_append, List.cons_append]
  obtain ⟨hl, i0, i1, i2, i3, i4, i5, i6⟩ := HI.out
  gi_wp2_with (first | (refine wpListIn_skipW (by rfl) ?_; simp only [Act.put, List.setIfInBounds_toArray, List.set_cons_succ, List.set_cons_zero]) | (refine ⟨trivial, ?_⟩; gi_at_call 204; refine (callsIn_wide.2 (writesD_28 _)).mono ?_; rintro e w' ⟨rfl, rfl⟩))
  refine ⟨trivial, ?_⟩
  refine (callsIn_wide.2 (target_28 d n m a c i _)).mono ?_
  rintro e v0 ⟨rfl, hb0⟩
  obtain ⟨f0, t0, a0, b0, hy0, hR0⟩ := hY [] d v0 (hJ _ _ _ none h0 (grown_none hb0) (fun r e => by cases e)) (by simp)
  try dsimp only at hy0
  have HV0 := Lib.hid (HI.out.below' hb0 rfl)
  clear hl i0 i1 i2 i3 i4 i5 i6
  obtain ⟨hl, i0, i1, i2, i3, i4, i5, i6⟩ := HV0.out
  gi_wp2_with (first | (refine wpListIn_skipW (by rfl) ?_; simp only [Act.put, List.setIfInBounds_toArray, List.set_cons_succ, List.set_cons_zero]) | (refine ⟨trivial, ?_⟩; gi_at_call 204; refine (callsIn_wide.2 (writesD_28 _)).mono ?_; rintro e w' ⟨rfl, rfl⟩))
  refine hR0.mono ?_
  rintro e W0 (⟨rfl, hJ0, hk0⟩ | ⟨rfl, hx0⟩)
  rotate_left
  · gi_wp2_with (refine wpListIn_skipW (by rfl) ?_; simp only [Act.put, List.setIfInBounds_toArray, List.set_cons_succ, List.set_cons_zero])
    go_end0
    exact ⟨⟨_, rfl⟩, .inr ⟨[] ++ [d], by first | exact ⟨trivial, hx0⟩ | exact hx0⟩⟩
  have HI0 := Lib.hid (HV0.out.kp hk0)
  clear hl i0 i1 i2 i3 i4 i5 i6
  obtain ⟨hl, i0, i1, i2, i3, i4, i5, i6⟩ := HI0.out
  gi_wp2_with (first | (refine wpListIn_skipW (by rfl) ?_; simp only [Act.put, List.setIfInBounds_toArray, List.set_cons_succ, List.set_cons_zero]) | (refine ⟨trivial, ?_⟩; gi_at_call 204; refine (callsIn_wide.2 (writesD_28 _)).mono ?_; rintro e w' ⟨rfl, rfl⟩))
  go_end0
  exact ⟨⟨_, rfl⟩, .inl ⟨_, rfl, hJ0⟩⟩
set_option maxRecDepth 100000 in
set_option maxHeartbeats 2000000 in
theorem load_31 (w : World) : Calls Try.prog 161 #[.int .i64 31] w fun e w' => e = .returned (.bool true) ∧ w' = w := by
  go_enter Try.func161, Try.ntmps161
  go_wp2
  go_ret
  exact ⟨rfl, rfl⟩
set_option maxRecDepth 100000 in
set_option maxHeartbeats 2000000 in
theorem writesD_31 (w : World) : Calls Try.prog 204 #[.int .i64 31] w fun e w' => e = .returned (.bool true) ∧ w' = w := by
  go_enter Try.func204, Try.ntmps204
  go_wp2_with (go_at_call 161; refine (load_31 _).mono ?_; rintro e w' ⟨rfl, rfl⟩)
  go_ret
  exact ⟨rfl, rfl⟩
set_option maxRecDepth 100000 in
set_option maxHeartbeats 2000000 in
theorem target_31 (d n m a c i : Int) (w : World) : Calls Try.prog 205 #[.agg #[.int .i64 31, .int .i64 d, .int .i64 n, .int .i64 m, .int .i64 a, .int .i64 c, .int .i64 i]] w fun e w' => e = .returned (.int .i64 d) ∧ Below w.heap.size w w' := by
  rcases hb : (d == 31)
  · have hn : d ≠ 31 := by simpa using hb
    go_enter Try.func205, Try.ntmps205
    go_wp2
    go_ret
    exact ⟨rfl, (Below.refl _ _).alloc (Nat.le_refl _) _⟩
  · have hn : d = 31 := by simpa using hb
    subst hn
    go_enter Try.func205, Try.ntmps205
    go_wp2_with (go_at_call 206; refine (takesSP_31 _).mono ?_; rintro e w' ⟨rfl, rfl⟩)
    go_ret
    exact ⟨rfl, (Below.refl _ _).alloc (Nat.le_refl _) _⟩
set_option maxRecDepth 100000 in
set_option maxHeartbeats 2000000 in
theorem written_31 (d n m a c i : Int) (Bi : Nat) (w : World) (h : InsAt w Bi (.int .i64 31) (.int .i64 d) (.int .i64 n) (.int .i64 m) (.int .i64 a) (.int .i64 c) (.int .i64 i)) :
    SeqStopsK Fence.wide 4 Try.prog 203 #[.pointer (some ⟨Bi, 0, none⟩)] (fun x : Int => #[.int .i64 x]) (KpI Bi) (fun xs => xs = [d]) (fun _ => True) 6 w := fun l J Jx W hW hJ hJx hY h0 => by
  have HI := Lib.hid (h.below' hW rfl)
  refine callsIn_of_wp Try.func203 rfl trivial ?_ rfl
  simp only [Try.ntmps203, List.size_toArray, List.length_cons, List.length_nil, Nat.reduceAdd, Nat.reduceSub, Array.replicate_succ, Array.replicate_zero, List.push_toArray, List.append_toArray, List.nil_append, List.cons_append]
  obtain ⟨hl, i0, i1, i2, i3, i4, i5, i6⟩ := HI.out
  gi_wp2_with (first | (refine wpListIn_skipW (by rfl) ?_; simp only [Act.put, List.setIfInBounds_toArray, List.set_cons_succ, List.set_cons_zero]) | (refine ⟨trivial, ?_⟩; gi_at_call 204; refine (callsIn_wide.2 (writesD_31 _)).mono ?_; rintro e w' ⟨rfl, rfl⟩))
  refine ⟨trivial, ?_⟩
  refine (callsIn_wide.2 (target_31 d n m a c i _)).mono ?_
  rintro e v0 ⟨rfl, hb0⟩
  obtain ⟨f0, t0, a0, b0, hy0, hR0⟩ := hY [] d v0 (hJ _ _ _ none h0 (grown_none hb0) (fun r e => by cases e)) (by simp)
  try dsimp only at hy0
  have HV0 := Lib.hid (HI.out.below' hb0 rfl)
  clear hl i0 i1 i2 i3 i4 i5 i6
  obtain ⟨hl, i0, i1, i2, i3, i4, i5, i6⟩ := HV0.out
  gi_wp2_with (first | (refine wpListIn_skipW (by rfl) ?_; simp only [Act.put, List.setIfInBounds_toArray, List.set_cons_succ, List.set_cons_zero]) | (refine ⟨trivial, ?_⟩; gi_at_call 204; refine (callsIn_wide.2 (writesD_31 _)).mono ?_; rintro e w' ⟨rfl, rfl⟩))
  refine hR0.mono ?_
  rintro e W0 (⟨rfl, hJ0, hk0⟩ | ⟨rfl, hx0⟩)
  rotate_left
  · gi_wp2_with (refine wpListIn_skipW (by rfl) ?_; simp only [Act.put, List.setIfInBounds_toArray, List.set_cons_succ, List.set_cons_zero])
    go_end0
    exact ⟨⟨_, rfl⟩, .inr ⟨[] ++ [d], by first | exact ⟨trivial, hx0⟩ | exact hx0⟩⟩
  have HI0 := Lib.hid (HV0.out.kp hk0)
  clear hl i0 i1 i2 i3 i4 i5 i6
  obtain ⟨hl, i0, i1, i2, i3, i4, i5, i6⟩ := HI0.out
  gi_wp2_with (first | (refine wpListIn_skipW (by rfl) ?_; simp only [Act.put, List.setIfInBounds_toArray, List.set_cons_succ, List.set_cons_zero]) | (refine ⟨trivial, ?_⟩; gi_at_call 204; refine (callsIn_wide.2 (writesD_31 _)).mono ?_; rintro e w' ⟨rfl, rfl⟩))
  go_end0
  exact ⟨⟨_, rfl⟩, .inl ⟨_, rfl, hJ0⟩⟩
set_option maxRecDepth 100000 in
set_option maxHeartbeats 2000000 in
theorem load_34 (w : World) : Calls Try.prog 161 #[.int .i64 34] w fun e w' => e = .returned (.bool false) ∧ w' = w := by
  go_enter Try.func161, Try.ntmps161
  go_wp2
  go_ret
  exact ⟨rfl, rfl⟩
set_option maxRecDepth 100000 in
set_option maxHeartbeats 2000000 in
theorem writesD_34 (w : World) : Calls Try.prog 204 #[.int .i64 34] w fun e w' => e = .returned (.bool false) ∧ w' = w := by
  go_enter Try.func204, Try.ntmps204
  go_wp2_with (go_at_call 161; refine (load_34 _).mono ?_; rintro e w' ⟨rfl, rfl⟩)
  go_ret
  exact ⟨rfl, rfl⟩
set_option maxRecDepth 100000 in
set_option maxHeartbeats 2000000 in
theorem written_34 (d n m a c i : Int) (Bi : Nat) (w : World) (h : InsAt w Bi (.int .i64 34) (.int .i64 d) (.int .i64 n) (.int .i64 m) (.int .i64 a) (.int .i64 c) (.int .i64 i)) :
    SeqStopsK Fence.wide 4 Try.prog 203 #[.pointer (some ⟨Bi, 0, none⟩)] (fun x : Int => #[.int .i64 x]) (KpI Bi) (fun xs => xs = []) (fun _ => True) 6 w := fun l J Jx W hW hJ hJx hY h0 => by
  have HI := Lib.hid (h.below' hW rfl)
  refine callsIn_of_wp Try.func203 rfl trivial ?_ rfl
  simp only [Try.ntmps203, List.size_toArray, List.length_cons, List.length_nil, Nat.reduceAdd, Nat.reduceSub, Array.replicate_succ, Array.replicate_zero, List.push_toArray, List.append_toArray, List.nil_append, List.cons_append]
  obtain ⟨hl, i0, i1, i2, i3, i4, i5, i6⟩ := HI.out
  gi_wp2_with (first | (refine wpListIn_skipW (by rfl) ?_; simp only [Act.put, List.setIfInBounds_toArray, List.set_cons_succ, List.set_cons_zero]) | (refine ⟨trivial, ?_⟩; gi_at_call 204; refine (callsIn_wide.2 (writesD_34 _)).mono ?_; rintro e w' ⟨rfl, rfl⟩))
  go_end0
  exact ⟨⟨_, rfl⟩, .inl ⟨_, rfl, h0⟩⟩
set_option maxRecDepth 100000 in
set_option maxHeartbeats 2000000 in
theorem load_37 (w : World) : Calls Try.prog 161 #[.int .i64 37] w fun e w' => e = .returned (.bool false) ∧ w' = w := by
  go_enter Try.func161, Try.ntmps161
  go_wp2
  go_ret
  exact ⟨rfl, rfl⟩
set_option maxRecDepth 100000 in
set_option maxHeartbeats 2000000 in
theorem writesD_37 (w : World) : Calls Try.prog 204 #[.int .i64 37] w fun e w' => e = .returned (.bool false) ∧ w' = w := by
  go_enter Try.func204, Try.ntmps204
  go_wp2_with (go_at_call 161; refine (load_37 _).mono ?_; rintro e w' ⟨rfl, rfl⟩)
  go_ret
  exact ⟨rfl, rfl⟩
set_option maxRecDepth 100000 in
set_option maxHeartbeats 2000000 in
theorem written_37 (d n m a c i : Int) (Bi : Nat) (w : World) (h : InsAt w Bi (.int .i64 37) (.int .i64 d) (.int .i64 n) (.int .i64 m) (.int .i64 a) (.int .i64 c) (.int .i64 i)) :
    SeqStopsK Fence.wide 4 Try.prog 203 #[.pointer (some ⟨Bi, 0, none⟩)] (fun x : Int => #[.int .i64 x]) (KpI Bi) (fun xs => xs = []) (fun _ => True) 6 w := fun l J Jx W hW hJ hJx hY h0 => by
  have HI := Lib.hid (h.below' hW rfl)
  refine callsIn_of_wp Try.func203 rfl trivial ?_ rfl
  simp only [Try.ntmps203, List.size_toArray, List.length_cons, List.length_nil, Nat.reduceAdd, Nat.reduceSub, Array.replicate_succ, Array.replicate_zero, List.push_toArray, List.append_toArray, List.nil_append, List.cons_append]
  obtain ⟨hl, i0, i1, i2, i3, i4, i5, i6⟩ := HI.out
  gi_wp2_with (first | (refine wpListIn_skipW (by rfl) ?_; simp only [Act.put, List.setIfInBounds_toArray, List.set_cons_succ, List.set_cons_zero]) | (refine ⟨trivial, ?_⟩; gi_at_call 204; refine (callsIn_wide.2 (writesD_37 _)).mono ?_; rintro e w' ⟨rfl, rfl⟩))
  go_end0
  exact ⟨⟨_, rfl⟩, .inl ⟨_, rfl, h0⟩⟩
set_option maxRecDepth 100000 in
set_option maxHeartbeats 2000000 in
theorem load_40 (w : World) : Calls Try.prog 161 #[.int .i64 40] w fun e w' => e = .returned (.bool false) ∧ w' = w := by
  go_enter Try.func161, Try.ntmps161
  go_wp2
  go_ret
  exact ⟨rfl, rfl⟩
set_option maxRecDepth 100000 in
set_option maxHeartbeats 2000000 in
theorem writesD_40 (w : World) : Calls Try.prog 204 #[.int .i64 40] w fun e w' => e = .returned (.bool false) ∧ w' = w := by
  go_enter Try.func204, Try.ntmps204
  go_wp2_with (go_at_call 161; refine (load_40 _).mono ?_; rintro e w' ⟨rfl, rfl⟩)
  go_ret
  exact ⟨rfl, rfl⟩
set_option maxRecDepth 100000 in
set_option maxHeartbeats 2000000 in
theorem written_40 (d n m a c i : Int) (Bi : Nat) (w : World) (h : InsAt w Bi (.int .i64 40) (.int .i64 d) (.int .i64 n) (.int .i64 m) (.int .i64 a) (.int .i64 c) (.int .i64 i)) :
    SeqStopsK Fence.wide 4 Try.prog 203 #[.pointer (some ⟨Bi, 0, none⟩)] (fun x : Int => #[.int .i64 x]) (KpI Bi) (fun xs => xs = []) (fun _ => True) 6 w := fun l J Jx W hW hJ hJx hY h0 => by
  have HI := Lib.hid (h.below' hW rfl)
  refine callsIn_of_wp Try.func203 rfl trivial ?_ rfl
  simp only [Try.ntmps203, List.size_toArray, List.length_cons, List.length_nil, Nat.reduceAdd, Nat.reduceSub, Array.replicate_succ, Array.replicate_zero, List.push_toArray, List.append_toArray, List.nil_append, List.cons_append]
  obtain ⟨hl, i0, i1, i2, i3, i4, i5, i6⟩ := HI.out
  gi_wp2_with (first | (refine wpListIn_skipW (by rfl) ?_; simp only [Act.put, List.setIfInBounds_toArray, List.set_cons_succ, List.set_cons_zero]) | (refine ⟨trivial, ?_⟩; gi_at_call 204; refine (callsIn_wide.2 (writesD_40 _)).mono ?_; rintro e w' ⟨rfl, rfl⟩))
  go_end0
  exact ⟨⟨_, rfl⟩, .inl ⟨_, rfl, h0⟩⟩
end Go.Proofs.Ytnbpgoacooddjaa.Fr
