import Derived.Test.YtnbpgoacooddjaaEWd
namespace Go.Proofs.Ytnbpgoacooddjaa.Fr
end Go.Proofs.Ytnbpgoacooddjaa.Fr
namespace Go.Proofs.Ytnbpgoacooddjaa.En
open Go.Proofs.Ytnbpgoacooddjaa.Fr
open Go.ChangeShapes Go.WideShapes Go.ChangeAt Go.RowKit Go.Maps
set_option linter.unusedVariables false
set_option maxRecDepth 100000 in
set_option maxHeartbeats 4000000 in
theorem flds_1 (w : World) : Calls Try.prog 197 #[.int .i64 1] w fun e w' => e = .returned (.slice none 0 0) ∧ w' = w := by
  go_enter Try.func197, Try.ntmps197
  go_wp2
  go_ret
  exact ⟨rfl, rfl⟩
set_option maxRecDepth 100000 in
set_option maxHeartbeats 4000000 in
theorem flds_5 (w : World) : Calls Try.prog 197 #[.int .i64 5] w fun e w' => e = .returned (.slice (some ⟨w.heap.size, 0, none⟩) 3 3) ∧ FldAt w' w.heap.size [221, 222, 220] ∧ Below w.heap.size w w' := by
  go_enter Try.func197, Try.ntmps197
  go_wp2
  go_ret
  refine ⟨rfl, ⟨by simp, fun k f hk => ?_⟩, (Below.refl _ _).alloc (Nat.le_refl _) _⟩
  have : k = 0 ∨ k = 1 ∨ k = 2 := by have := (List.getElem?_eq_some_iff.1 hk).1; simp at this; omega
  rcases this with rfl | rfl | rfl
  · cases hk; exact World.cell?_alloc_at _ _ _ _ rfl
  · cases hk; exact World.cell?_alloc_at _ _ _ _ rfl
  · cases hk; exact World.cell?_alloc_at _ _ _ _ rfl
set_option maxRecDepth 100000 in
set_option maxHeartbeats 4000000 in
theorem flds_9 (w : World) : Calls Try.prog 197 #[.int .i64 9] w fun e w' => e = .returned (.slice (some ⟨w.heap.size, 0, none⟩) 3 3) ∧ FldAt w' w.heap.size [224, 222, 220] ∧ Below w.heap.size w w' := by
  go_enter Try.func197, Try.ntmps197
  go_wp2
  go_ret
  refine ⟨rfl, ⟨by simp, fun k f hk => ?_⟩, (Below.refl _ _).alloc (Nat.le_refl _) _⟩
  have : k = 0 ∨ k = 1 ∨ k = 2 := by have := (List.getElem?_eq_some_iff.1 hk).1; simp at this; omega
  rcases this with rfl | rfl | rfl
  · cases hk; exact World.cell?_alloc_at _ _ _ _ rfl
  · cases hk; exact World.cell?_alloc_at _ _ _ _ rfl
  · cases hk; exact World.cell?_alloc_at _ _ _ _ rfl
set_option maxRecDepth 100000 in
set_option maxHeartbeats 4000000 in
theorem flds_13 (w : World) : Calls Try.prog 197 #[.int .i64 13] w fun e w' => e = .returned (.slice (some ⟨w.heap.size, 0, none⟩) 4 4) ∧ FldAt w' w.heap.size [224, 225, 222, 220] ∧ Below w.heap.size w w' := by
  go_enter Try.func197, Try.ntmps197
  go_wp2
  go_ret
  refine ⟨rfl, ⟨by simp, fun k f hk => ?_⟩, (Below.refl _ _).alloc (Nat.le_refl _) _⟩
  have : k = 0 ∨ k = 1 ∨ k = 2 ∨ k = 3 := by have := (List.getElem?_eq_some_iff.1 hk).1; simp at this; omega
  rcases this with rfl | rfl | rfl | rfl
  · cases hk; exact World.cell?_alloc_at _ _ _ _ rfl
  · cases hk; exact World.cell?_alloc_at _ _ _ _ rfl
  · cases hk; exact World.cell?_alloc_at _ _ _ _ rfl
  · cases hk; exact World.cell?_alloc_at _ _ _ _ rfl
set_option maxRecDepth 100000 in
set_option maxHeartbeats 4000000 in
theorem flds_17 (w : World) : Calls Try.prog 197 #[.int .i64 17] w fun e w' => e = .returned (.slice (some ⟨w.heap.size, 0, none⟩) 3 3) ∧ FldAt w' w.heap.size [224, 222, 220] ∧ Below w.heap.size w w' := by
  go_enter Try.func197, Try.ntmps197
  go_wp2
  go_ret
  refine ⟨rfl, ⟨by simp, fun k f hk => ?_⟩, (Below.refl _ _).alloc (Nat.le_refl _) _⟩
  have : k = 0 ∨ k = 1 ∨ k = 2 := by have := (List.getElem?_eq_some_iff.1 hk).1; simp at this; omega
  rcases this with rfl | rfl | rfl
  · cases hk; exact World.cell?_alloc_at _ _ _ _ rfl
  · cases hk; exact World.cell?_alloc_at _ _ _ _ rfl
  · cases hk; exact World.cell?_alloc_at _ _ _ _ rfl
set_option maxRecDepth 100000 in
set_option maxHeartbeats 4000000 in
theorem flds_21 (w : World) : Calls Try.prog 197 #[.int .i64 21] w fun e w' => e = .returned (.slice (some ⟨w.heap.size, 0, none⟩) 2 2) ∧ FldAt w' w.heap.size [228, 229] ∧ Below w.heap.size w w' := by
  go_enter Try.func197, Try.ntmps197
  go_wp2
  go_ret
  refine ⟨rfl, ⟨by simp, fun k f hk => ?_⟩, (Below.refl _ _).alloc (Nat.le_refl _) _⟩
  have : k = 0 ∨ k = 1 := by have := (List.getElem?_eq_some_iff.1 hk).1; simp at this; omega
  rcases this with rfl | rfl
  · cases hk; exact World.cell?_alloc_at _ _ _ _ rfl
  · cases hk; exact World.cell?_alloc_at _ _ _ _ rfl
set_option maxRecDepth 100000 in
set_option maxHeartbeats 4000000 in
theorem flds_25 (w : World) : Calls Try.prog 197 #[.int .i64 25] w fun e w' => e = .returned (.slice (some ⟨w.heap.size, 0, none⟩) 1 1) ∧ FldAt w' w.heap.size [222] ∧ Below w.heap.size w w' := by
  go_enter Try.func197, Try.ntmps197
  go_wp2
  go_ret
  refine ⟨rfl, ⟨by simp, fun k f hk => ?_⟩, (Below.refl _ _).alloc (Nat.le_refl _) _⟩
  have : k = 0 := by have := (List.getElem?_eq_some_iff.1 hk).1; simp at this; omega
  rcases this with rfl
  · cases hk; exact World.cell?_alloc_at _ _ _ _ rfl
set_option maxRecDepth 100000 in
set_option maxHeartbeats 4000000 in
theorem flds_29 (w : World) : Calls Try.prog 197 #[.int .i64 29] w fun e w' => e = .returned (.slice (some ⟨w.heap.size, 0, none⟩) 3 3) ∧ FldAt w' w.heap.size [223, 222, 220] ∧ Below w.heap.size w w' := by
  go_enter Try.func197, Try.ntmps197
  go_wp2
  go_ret
  refine ⟨rfl, ⟨by simp, fun k f hk => ?_⟩, (Below.refl _ _).alloc (Nat.le_refl _) _⟩
  have : k = 0 ∨ k = 1 ∨ k = 2 := by have := (List.getElem?_eq_some_iff.1 hk).1; simp at this; omega
  rcases this with rfl | rfl | rfl
  · cases hk; exact World.cell?_alloc_at _ _ _ _ rfl
  · cases hk; exact World.cell?_alloc_at _ _ _ _ rfl
  · cases hk; exact World.cell?_alloc_at _ _ _ _ rfl
set_option maxRecDepth 100000 in
set_option maxHeartbeats 4000000 in
theorem flds_33 (w : World) : Calls Try.prog 197 #[.int .i64 33] w fun e w' => e = .returned (.slice (some ⟨w.heap.size, 0, none⟩) 2 2) ∧ FldAt w' w.heap.size [222, 220] ∧ Below w.heap.size w w' := by
  go_enter Try.func197, Try.ntmps197
  go_wp2
  go_ret
  refine ⟨rfl, ⟨by simp, fun k f hk => ?_⟩, (Below.refl _ _).alloc (Nat.le_refl _) _⟩
  have : k = 0 ∨ k = 1 := by have := (List.getElem?_eq_some_iff.1 hk).1; simp at this; omega
  rcases this with rfl | rfl
  · cases hk; exact World.cell?_alloc_at _ _ _ _ rfl
  · cases hk; exact World.cell?_alloc_at _ _ _ _ rfl
set_option maxRecDepth 100000 in
set_option maxHeartbeats 4000000 in
theorem flds_37 (w : World) : Calls Try.prog 197 #[.int .i64 37] w fun e w' => e = .returned (.slice (some ⟨w.heap.size, 0, none⟩) 1 1) ∧ FldAt w' w.heap.size [234] ∧ Below w.heap.size w w' := by
  go_enter Try.func197, Try.ntmps197
  go_wp2
  go_ret
  refine ⟨rfl, ⟨by simp, fun k f hk => ?_⟩, (Below.refl _ _).alloc (Nat.le_refl _) _⟩
  have : k = 0 := by have := (List.getElem?_eq_some_iff.1 hk).1; simp at this; omega
  rcases this with rfl
  · cases hk; exact World.cell?_alloc_at _ _ _ _ rfl
set_option maxRecDepth 100000 in
set_option maxHeartbeats 4000000 in
theorem flds_41 (w : World) : Calls Try.prog 197 #[.int .i64 41] w fun e w' => e = .returned (.slice (some ⟨w.heap.size, 0, none⟩) 1 1) ∧ FldAt w' w.heap.size [232] ∧ Below w.heap.size w w' := by
  go_enter Try.func197, Try.ntmps197
  go_wp2
  go_ret
  refine ⟨rfl, ⟨by simp, fun k f hk => ?_⟩, (Below.refl _ _).alloc (Nat.le_refl _) _⟩
  have : k = 0 := by have := (List.getElem?_eq_some_iff.1 hk).1; simp at this; omega
  rcases this with rfl
  · cases hk; exact World.cell?_alloc_at _ _ _ _ rfl
set_option maxRecDepth 100000 in
set_option maxHeartbeats 4000000 in
theorem word_1 (d n m a c i : Int) (b : Nat) (w : World) (hok : ok_1 d n m a c i = true) (hm : w.ownsMap Try.prog 3 (plainElem (H := Unit) Try.prog 54) b 42 DD) : Calls Try.prog 166 #[.agg #[.map (some b)], .agg #[.int .i64 1, .int .i64 d, .int .i64 n, .int .i64 m, .int .i64 a, .int .i64 c, .int .i64 i]] w fun e w' => e = .returned (.tuple #[.int .u32 3573751839, .int .i64 0]) ∧ Below w.heap.size w w' := by
  have HCK := Lib.hid (fun w => (by have := check_1 d n m a c i w; rw [hok] at this; exact this) : ∀ w, Calls Try.prog 31 #[.agg #[.int .i64 1, .int .i64 d, .int .i64 n, .int .i64 m, .int .i64 a, .int .i64 c, .int .i64 i]] w fun e w' => e = .returned (.int .i64 0) ∧ Below w.heap.size w w')
  have hB0 : (0 : Int) ≤ 3573751839 ∧ (3573751839 : Int) < 4294967296 := by decide
  have HOK := Lib.hid hok
  clear hok
  go_enter Try.func166, Try.ntmps166
  go_wp2_with fail
  have HM0 := Lib.hid (map_past (map_past hm ((Below.refl _ _).alloc (Nat.le_refl _) (.cells #[.map (some b)] 238))) ((Below.refl _ _).alloc (Nat.le_refl _) (.cells #[.int .i64 1, .int .i64 d, .int .i64 n, .int .i64 m, .int .i64 a, .int .i64 c, .int .i64 i] 29)))
  have HI0 := Lib.hid (InsC.new (w.alloc (.cells #[.map (some b)] 238)) (.int .i64 1) (.int .i64 d) (.int .i64 n) (.int .i64 m) (.int .i64 a) (.int .i64 c) (.int .i64 i))
  have HE0 : Hid (((w.alloc (.cells #[.map (some b)] 238)).alloc (.cells #[.int .i64 1, .int .i64 d, .int .i64 n, .int .i64 m, .int .i64 a, .int .i64 c, .int .i64 i] 29)).cell? ⟨w.heap.size, 0, none⟩ = some (.map (some b))) := Lib.hid (by simp)
  refine (HCK.out _).mono ?_
  rintro e w1 ⟨rfl, hb⟩
  have HB1 : Hid (Below w.heap.size w w1) := Lib.hid ((((Below.refl _ _).alloc (Nat.le_refl _) _).alloc (by simp) _).trans (hb.mono (by simp; omega)))
  have HI1 := Lib.hid (HI0.out.below' hb rfl)
  rw [World.size_alloc] at HI1
  have HM1 := Lib.hid (map_past HM0.out hb)
  have e1 := (hb.cell (p := ⟨w.heap.size, 0, none⟩) (by simp; omega)).trans HE0.out
  have hs1 : w.heap.size + 1 < w1.heap.size := HI1.out.1
  obtain ⟨hl, i0, i1, i2, i3, i4, i5, i6⟩ := HI1.out
  clear hb HI0 HM0 HE0 hm
  go_wp2_with (at_lookup; refine wpList_lookup_own_int _ rfl _ _ 235 rfl 3 54 .u32 law3 Try.underlying235 Try.underlying54 (zero25 _) b 42 _ rfl HM1.out _ _ rfl (keyOf_int_mk Try.underlying3 (by decide)) ?_; intro c' hat hwc; obtain rfl : c' = 3573751839 := (look_c _ _ hat).trans (by decide))
  clear hat hwc e1 HM1
  refine (flds_1 _).mono ?_
  rintro e w2 ⟨rfl, hw⟩
  obtain rfl := hw.symm
  go_wp2_with fail
  refine wp_loop_rounds 1 ?_
  rw [rounds_succ]
  go_wp2
  refine bodyPost_ret (v := .tuple #[.int .u32 3573751839, .int .i64 0]) (by simp [results, Try.results166, go_sem]) rfl ⟨rfl, HB1.out⟩
set_option maxRecDepth 100000 in
set_option maxHeartbeats 4000000 in
theorem word_5 (d n m a c i : Int) (b : Nat) (w : World) (hok : ok_5 d n m a c i = true) (hm : w.ownsMap Try.prog 3 (plainElem (H := Unit) Try.prog 54) b 42 DD) : Calls Try.prog 166 #[.agg #[.map (some b)], .agg #[.int .i64 5, .int .i64 d, .int .i64 n, .int .i64 m, .int .i64 a, .int .i64 c, .int .i64 i]] w fun e w' => e = .returned (.tuple #[.int .u32 (putS (putS (putS 3506438144 10 12 i) 5 5 n) 0 5 d), .int .i64 0]) ∧ Below w.heap.size w w' := by
  have HCK := Lib.hid (fun w => (by have := check_5 d n m a c i w; rw [hok] at this; exact this) : ∀ w, Calls Try.prog 31 #[.agg #[.int .i64 5, .int .i64 d, .int .i64 n, .int .i64 m, .int .i64 a, .int .i64 c, .int .i64 i]] w fun e w' => e = .returned (.int .i64 0) ∧ Below w.heap.size w w')
  have hB0 : (0 : Int) ≤ 3506438144 ∧ (3506438144 : Int) < 4294967296 := by decide
  simp only [ok_5, wi, Bool.and_eq_true, decide_eq_true_eq, beq_iff_eq] at hok
  have HOK := Lib.hid hok
  clear hok
  go_enter Try.func166, Try.ntmps166
  go_wp2_with fail
  have HM0 := Lib.hid (map_past (map_past hm ((Below.refl _ _).alloc (Nat.le_refl _) (.cells #[.map (some b)] 238))) ((Below.refl _ _).alloc (Nat.le_refl _) (.cells #[.int .i64 5, .int .i64 d, .int .i64 n, .int .i64 m, .int .i64 a, .int .i64 c, .int .i64 i] 29)))
  have HI0 := Lib.hid (InsC.new (w.alloc (.cells #[.map (some b)] 238)) (.int .i64 5) (.int .i64 d) (.int .i64 n) (.int .i64 m) (.int .i64 a) (.int .i64 c) (.int .i64 i))
  have HE0 : Hid (((w.alloc (.cells #[.map (some b)] 238)).alloc (.cells #[.int .i64 5, .int .i64 d, .int .i64 n, .int .i64 m, .int .i64 a, .int .i64 c, .int .i64 i] 29)).cell? ⟨w.heap.size, 0, none⟩ = some (.map (some b))) := Lib.hid (by simp)
  refine (HCK.out _).mono ?_
  rintro e w1 ⟨rfl, hb⟩
  have HB1 : Hid (Below w.heap.size w w1) := Lib.hid ((((Below.refl _ _).alloc (Nat.le_refl _) _).alloc (by simp) _).trans (hb.mono (by simp; omega)))
  have HI1 := Lib.hid (HI0.out.below' hb rfl)
  rw [World.size_alloc] at HI1
  have HM1 := Lib.hid (map_past HM0.out hb)
  have e1 := (hb.cell (p := ⟨w.heap.size, 0, none⟩) (by simp; omega)).trans HE0.out
  have hs1 : w.heap.size + 1 < w1.heap.size := HI1.out.1
  obtain ⟨hl, i0, i1, i2, i3, i4, i5, i6⟩ := HI1.out
  clear hb HI0 HM0 HE0 hm
  go_wp2_with (at_lookup; refine wpList_lookup_own_int _ rfl _ _ 235 rfl 3 54 .u32 law3 Try.underlying235 Try.underlying54 (zero25 _) b 42 _ rfl HM1.out _ _ rfl (keyOf_int_mk Try.underlying3 (by decide)) ?_; intro c' hat hwc; obtain rfl : c' = 3506438144 := (look_c _ _ hat).trans (by decide))
  clear hat hwc e1 HM1
  refine (flds_5 _).mono ?_
  rintro e w2 ⟨rfl, hf, hb⟩
  have HB2 := Lib.hid (HB1.out.trans (hb.mono HB1.out.size))
  have HI2 := Lib.hid (HI1.out.below' hb rfl)
  have HF2 := Lib.hid hf
  clear hl i0 i1 i2 i3 i4 i5 i6
  obtain ⟨g, hg⟩ : ∃ g, g = w1.heap.size := ⟨_, rfl⟩
  rw [← hg] at HF2
  rw [← hg]
  clear hb hf HI1 HB1 hg hs1
  go_wp2_with fail
  refine wp_loop_rounds 4 ?_
  rw [rounds_succ]
  obtain ⟨hl, i0, i1, i2, i3, i4, i5, i6⟩ := HI2.out
  have f0 := HF2.out.2 0 _ rfl
  go_wp2_with fail
  refine (lay_small 5 d n m a c i 3506438144 _ hB0.1 hB0.2 (by have := HOK.out; omega) (by have := HOK.out; omega)).mono ?_
  rintro e w3 ⟨rfl, hb⟩
  have HB3 := Lib.hid (HB2.out.trans (hb.mono HB2.out.size))
  have HI3 := Lib.hid (HI2.out.below' hb rfl)
  have HF3 := Lib.hid (HF2.out.past hb rfl)
  clear hb hl i0 i1 i2 i3 i4 i5 i6 f0
  go_wp2
  rw [rounds_succ]
  obtain ⟨hl, i0, i1, i2, i3, i4, i5, i6⟩ := HI3.out
  have f1 := HF3.out.2 1 _ rfl
  go_wp2_with fail
  refine (lay_n 5 d n m a c i (putS 3506438144 10 12 i) _ (putS_lt 3506438144 10 12 i hB0.1 hB0.2).1 (putS_lt 3506438144 10 12 i hB0.1 hB0.2).2 (by have := HOK.out; omega) (by have := HOK.out; omega)).mono ?_
  rintro e w4 ⟨rfl, hb⟩
  have HB4 := Lib.hid (HB3.out.trans (hb.mono HB3.out.size))
  have HI4 := Lib.hid (HI3.out.below' hb rfl)
  have HF4 := Lib.hid (HF3.out.past hb rfl)
  clear hb hl i0 i1 i2 i3 i4 i5 i6 f1
  go_wp2
  rw [rounds_succ]
  obtain ⟨hl, i0, i1, i2, i3, i4, i5, i6⟩ := HI4.out
  have f2 := HF4.out.2 2 _ rfl
  go_wp2_with fail
  refine (lay_d 5 d n m a c i (putS (putS 3506438144 10 12 i) 5 5 n) _ (putS_lt (putS 3506438144 10 12 i) 5 5 n (putS_lt 3506438144 10 12 i hB0.1 hB0.2).1 (putS_lt 3506438144 10 12 i hB0.1 hB0.2).2).1 (putS_lt (putS 3506438144 10 12 i) 5 5 n (putS_lt 3506438144 10 12 i hB0.1 hB0.2).1 (putS_lt 3506438144 10 12 i hB0.1 hB0.2).2).2 (by have := HOK.out; omega) (by have := HOK.out; omega)).mono ?_
  rintro e w5 ⟨rfl, hb⟩
  have HB5 := Lib.hid (HB4.out.trans (hb.mono HB4.out.size))
  have HI5 := Lib.hid (HI4.out.below' hb rfl)
  have HF5 := Lib.hid (HF4.out.past hb rfl)
  clear hb hl i0 i1 i2 i3 i4 i5 i6 f2
  go_wp2
  rw [rounds_succ]
  go_wp2
  refine bodyPost_ret (v := .tuple #[.int .u32 (putS (putS (putS 3506438144 10 12 i) 5 5 n) 0 5 d), .int .i64 0]) (by simp [results, Try.results166, go_sem]) rfl ⟨rfl, HB5.out⟩
set_option maxRecDepth 100000 in
set_option maxHeartbeats 4000000 in
theorem word_9 (d n m a c i : Int) (b : Nat) (w : World) (hok : ok_9 d n m a c i = true) (hm : w.ownsMap Try.prog 3 (plainElem (H := Unit) Try.prog 54) b 42 DD) : Calls Try.prog 166 #[.agg #[.map (some b)], .agg #[.int .i64 9, .int .i64 d, .int .i64 n, .int .i64 m, .int .i64 a, .int .i64 c, .int .i64 i]] w fun e w' => e = .returned (.tuple #[.int .u32 (putS (putS (putS 3942645760 16 5 m) 5 5 n) 0 5 d), .int .i64 0]) ∧ Below w.heap.size w w' := by
  have HCK := Lib.hid (fun w => (by have := check_9 d n m a c i w; rw [hok] at this; exact this) : ∀ w, Calls Try.prog 31 #[.agg #[.int .i64 9, .int .i64 d, .int .i64 n, .int .i64 m, .int .i64 a, .int .i64 c, .int .i64 i]] w fun e w' => e = .returned (.int .i64 0) ∧ Below w.heap.size w w')
  have hB0 : (0 : Int) ≤ 3942645760 ∧ (3942645760 : Int) < 4294967296 := by decide
  simp only [ok_9, wi, Bool.and_eq_true, decide_eq_true_eq, beq_iff_eq] at hok
  have HOK := Lib.hid hok
  clear hok
  go_enter Try.func166, Try.ntmps166
  go_wp2_with fail
  have HM0 := Lib.hid (map_past (map_past hm ((Below.refl _ _).alloc (Nat.le_refl _) (.cells #[.map (some b)] 238))) ((Below.refl _ _).alloc (Nat.le_refl _) (.cells #[.int .i64 9, .int .i64 d, .int .i64 n, .int .i64 m, .int .i64 a, .int .i64 c, .int .i64 i] 29)))
  have HI0 := Lib.hid (InsC.new (w.alloc (.cells #[.map (some b)] 238)) (.int .i64 9) (.int .i64 d) (.int .i64 n) (.int .i64 m) (.int .i64 a) (.int .i64 c) (.int .i64 i))
  have HE0 : Hid (((w.alloc (.cells #[.map (some b)] 238)).alloc (.cells #[.int .i64 9, .int .i64 d, .int .i64 n, .int .i64 m, .int .i64 a, .int .i64 c, .int .i64 i] 29)).cell? ⟨w.heap.size, 0, none⟩ = some (.map (some b))) := Lib.hid (by simp)
  refine (HCK.out _).mono ?_
  rintro e w1 ⟨rfl, hb⟩
  have HB1 : Hid (Below w.heap.size w w1) := Lib.hid ((((Below.refl _ _).alloc (Nat.le_refl _) _).alloc (by simp) _).trans (hb.mono (by simp; omega)))
  have HI1 := Lib.hid (HI0.out.below' hb rfl)
  rw [World.size_alloc] at HI1
  have HM1 := Lib.hid (map_past HM0.out hb)
  have e1 := (hb.cell (p := ⟨w.heap.size, 0, none⟩) (by simp; omega)).trans HE0.out
  have hs1 : w.heap.size + 1 < w1.heap.size := HI1.out.1
  obtain ⟨hl, i0, i1, i2, i3, i4, i5, i6⟩ := HI1.out
  clear hb HI0 HM0 HE0 hm
  go_wp2_with (at_lookup; refine wpList_lookup_own_int _ rfl _ _ 235 rfl 3 54 .u32 law3 Try.underlying235 Try.underlying54 (zero25 _) b 42 _ rfl HM1.out _ _ rfl (keyOf_int_mk Try.underlying3 (by decide)) ?_; intro c' hat hwc; obtain rfl : c' = 3942645760 := (look_c _ _ hat).trans (by decide))
  clear hat hwc e1 HM1
  refine (flds_9 _).mono ?_
  rintro e w2 ⟨rfl, hf, hb⟩
  have HB2 := Lib.hid (HB1.out.trans (hb.mono HB1.out.size))
  have HI2 := Lib.hid (HI1.out.below' hb rfl)
  have HF2 := Lib.hid hf
  clear hl i0 i1 i2 i3 i4 i5 i6
  obtain ⟨g, hg⟩ : ∃ g, g = w1.heap.size := ⟨_, rfl⟩
  rw [← hg] at HF2
  rw [← hg]
  clear hb hf HI1 HB1 hg hs1
  go_wp2_with fail
  refine wp_loop_rounds 4 ?_
  rw [rounds_succ]
  obtain ⟨hl, i0, i1, i2, i3, i4, i5, i6⟩ := HI2.out
  have f0 := HF2.out.2 0 _ rfl
  go_wp2_with fail
  refine (lay_m 9 d n m a c i 3942645760 _ hB0.1 hB0.2 (by have := HOK.out; omega) (by have := HOK.out; omega)).mono ?_
  rintro e w3 ⟨rfl, hb⟩
  have HB3 := Lib.hid (HB2.out.trans (hb.mono HB2.out.size))
  have HI3 := Lib.hid (HI2.out.below' hb rfl)
  have HF3 := Lib.hid (HF2.out.past hb rfl)
  clear hb hl i0 i1 i2 i3 i4 i5 i6 f0
  go_wp2
  rw [rounds_succ]
  obtain ⟨hl, i0, i1, i2, i3, i4, i5, i6⟩ := HI3.out
  have f1 := HF3.out.2 1 _ rfl
  go_wp2_with fail
  refine (lay_n 9 d n m a c i (putS 3942645760 16 5 m) _ (putS_lt 3942645760 16 5 m hB0.1 hB0.2).1 (putS_lt 3942645760 16 5 m hB0.1 hB0.2).2 (by have := HOK.out; omega) (by have := HOK.out; omega)).mono ?_
  rintro e w4 ⟨rfl, hb⟩
  have HB4 := Lib.hid (HB3.out.trans (hb.mono HB3.out.size))
  have HI4 := Lib.hid (HI3.out.below' hb rfl)
  have HF4 := Lib.hid (HF3.out.past hb rfl)
  clear hb hl i0 i1 i2 i3 i4 i5 i6 f1
  go_wp2
  rw [rounds_succ]
  obtain ⟨hl, i0, i1, i2, i3, i4, i5, i6⟩ := HI4.out
  have f2 := HF4.out.2 2 _ rfl
  go_wp2_with fail
  refine (lay_d 9 d n m a c i (putS (putS 3942645760 16 5 m) 5 5 n) _ (putS_lt (putS 3942645760 16 5 m) 5 5 n (putS_lt 3942645760 16 5 m hB0.1 hB0.2).1 (putS_lt 3942645760 16 5 m hB0.1 hB0.2).2).1 (putS_lt (putS 3942645760 16 5 m) 5 5 n (putS_lt 3942645760 16 5 m hB0.1 hB0.2).1 (putS_lt 3942645760 16 5 m hB0.1 hB0.2).2).2 (by have := HOK.out; omega) (by have := HOK.out; omega)).mono ?_
  rintro e w5 ⟨rfl, hb⟩
  have HB5 := Lib.hid (HB4.out.trans (hb.mono HB4.out.size))
  have HI5 := Lib.hid (HI4.out.below' hb rfl)
  have HF5 := Lib.hid (HF4.out.past hb rfl)
  clear hb hl i0 i1 i2 i3 i4 i5 i6 f2
  go_wp2
  rw [rounds_succ]
  go_wp2
  refine bodyPost_ret (v := .tuple #[.int .u32 (putS (putS (putS 3942645760 16 5 m) 5 5 n) 0 5 d), .int .i64 0]) (by simp [results, Try.results166, go_sem]) rfl ⟨rfl, HB5.out⟩
set_option maxRecDepth 100000 in
set_option maxHeartbeats 4000000 in
theorem word_13 (d n m a c i : Int) (b : Nat) (w : World) (hok : ok_13 d n m a c i = true) (hm : w.ownsMap Try.prog 3 (plainElem (H := Unit) Try.prog 54) b 42 DD) : Calls Try.prog 166 #[.agg #[.map (some b)], .agg #[.int .i64 13, .int .i64 d, .int .i64 n, .int .i64 m, .int .i64 a, .int .i64 c, .int .i64 i]] w fun e w' => e = .returned (.tuple #[.int .u32 (putS (putS (putS (putS 2600468480 16 5 m) 10 5 a) 5 5 n) 0 5 d), .int .i64 0]) ∧ Below w.heap.size w w' := by
  have HCK := Lib.hid (fun w => (by have := check_13 d n m a c i w; rw [hok] at this; exact this) : ∀ w, Calls Try.prog 31 #[.agg #[.int .i64 13, .int .i64 d, .int .i64 n, .int .i64 m, .int .i64 a, .int .i64 c, .int .i64 i]] w fun e w' => e = .returned (.int .i64 0) ∧ Below w.heap.size w w')
  have hB0 : (0 : Int) ≤ 2600468480 ∧ (2600468480 : Int) < 4294967296 := by decide
  simp only [ok_13, wi, Bool.and_eq_true, decide_eq_true_eq, beq_iff_eq] at hok
  have HOK := Lib.hid hok
  clear hok
  go_enter Try.func166, Try.ntmps166
  go_wp2_with fail
  have HM0 := Lib.hid (map_past (map_past hm ((Below.refl _ _).alloc (Nat.le_refl _) (.cells #[.map (some b)] 238))) ((Below.refl _ _).alloc (Nat.le_refl _) (.cells #[.int .i64 13, .int .i64 d, .int .i64 n, .int .i64 m, .int .i64 a, .int .i64 c, .int .i64 i] 29)))
  have HI0 := Lib.hid (InsC.new (w.alloc (.cells #[.map (some b)] 238)) (.int .i64 13) (.int .i64 d) (.int .i64 n) (.int .i64 m) (.int .i64 a) (.int .i64 c) (.int .i64 i))
  have HE0 : Hid (((w.alloc (.cells #[.map (some b)] 238)).alloc (.cells #[.int .i64 13, .int .i64 d, .int .i64 n, .int .i64 m, .int .i64 a, .int .i64 c, .int .i64 i] 29)).cell? ⟨w.heap.size, 0, none⟩ = some (.map (some b))) := Lib.hid (by simp)
  refine (HCK.out _).mono ?_
  rintro e w1 ⟨rfl, hb⟩
  have HB1 : Hid (Below w.heap.size w w1) := Lib.hid ((((Below.refl _ _).alloc (Nat.le_refl _) _).alloc (by simp) _).trans (hb.mono (by simp; omega)))
  have HI1 := Lib.hid (HI0.out.below' hb rfl)
  rw [World.size_alloc] at HI1
  have HM1 := Lib.hid (map_past HM0.out hb)
  have e1 := (hb.cell (p := ⟨w.heap.size, 0, none⟩) (by simp; omega)).trans HE0.out
  have hs1 : w.heap.size + 1 < w1.heap.size := HI1.out.1
  obtain ⟨hl, i0, i1, i2, i3, i4, i5, i6⟩ := HI1.out
  clear hb HI0 HM0 HE0 hm
  go_wp2_with (at_lookup; refine wpList_lookup_own_int _ rfl _ _ 235 rfl 3 54 .u32 law3 Try.underlying235 Try.underlying54 (zero25 _) b 42 _ rfl HM1.out _ _ rfl (keyOf_int_mk Try.underlying3 (by decide)) ?_; intro c' hat hwc; obtain rfl : c' = 2600468480 := (look_c _ _ hat).trans (by decide))
  clear hat hwc e1 HM1
  refine (flds_13 _).mono ?_
  rintro e w2 ⟨rfl, hf, hb⟩
  have HB2 := Lib.hid (HB1.out.trans (hb.mono HB1.out.size))
  have HI2 := Lib.hid (HI1.out.below' hb rfl)
  have HF2 := Lib.hid hf
  clear hl i0 i1 i2 i3 i4 i5 i6
  obtain ⟨g, hg⟩ : ∃ g, g = w1.heap.size := ⟨_, rfl⟩
  rw [← hg] at HF2
  rw [← hg]
  clear hb hf HI1 HB1 hg hs1
  go_wp2_with fail
  refine wp_loop_rounds 5 ?_
  rw [rounds_succ]
  obtain ⟨hl, i0, i1, i2, i3, i4, i5, i6⟩ := HI2.out
  have f0 := HF2.out.2 0 _ rfl
  go_wp2_with fail
  refine (lay_m 13 d n m a c i 2600468480 _ hB0.1 hB0.2 (by have := HOK.out; omega) (by have := HOK.out; omega)).mono ?_
  rintro e w3 ⟨rfl, hb⟩
  have HB3 := Lib.hid (HB2.out.trans (hb.mono HB2.out.size))
  have HI3 := Lib.hid (HI2.out.below' hb rfl)
  have HF3 := Lib.hid (HF2.out.past hb rfl)
  clear hb hl i0 i1 i2 i3 i4 i5 i6 f0
  go_wp2
  rw [rounds_succ]
  obtain ⟨hl, i0, i1, i2, i3, i4, i5, i6⟩ := HI3.out
  have f1 := HF3.out.2 1 _ rfl
  go_wp2_with fail
  refine (lay_a 13 d n m a c i (putS 2600468480 16 5 m) _ (putS_lt 2600468480 16 5 m hB0.1 hB0.2).1 (putS_lt 2600468480 16 5 m hB0.1 hB0.2).2 (by have := HOK.out; omega) (by have := HOK.out; omega)).mono ?_
  rintro e w4 ⟨rfl, hb⟩
  have HB4 := Lib.hid (HB3.out.trans (hb.mono HB3.out.size))
  have HI4 := Lib.hid (HI3.out.below' hb rfl)
  have HF4 := Lib.hid (HF3.out.past hb rfl)
  clear hb hl i0 i1 i2 i3 i4 i5 i6 f1
  go_wp2
  rw [rounds_succ]
  obtain ⟨hl, i0, i1, i2, i3, i4, i5, i6⟩ := HI4.out
  have f2 := HF4.out.2 2 _ rfl
  go_wp2_with fail
  refine (lay_n 13 d n m a c i (putS (putS 2600468480 16 5 m) 10 5 a) _ (putS_lt (putS 2600468480 16 5 m) 10 5 a (putS_lt 2600468480 16 5 m hB0.1 hB0.2).1 (putS_lt 2600468480 16 5 m hB0.1 hB0.2).2).1 (putS_lt (putS 2600468480 16 5 m) 10 5 a (putS_lt 2600468480 16 5 m hB0.1 hB0.2).1 (putS_lt 2600468480 16 5 m hB0.1 hB0.2).2).2 (by have := HOK.out; omega) (by have := HOK.out; omega)).mono ?_
  rintro e w5 ⟨rfl, hb⟩
  have HB5 := Lib.hid (HB4.out.trans (hb.mono HB4.out.size))
  have HI5 := Lib.hid (HI4.out.below' hb rfl)
  have HF5 := Lib.hid (HF4.out.past hb rfl)
  clear hb hl i0 i1 i2 i3 i4 i5 i6 f2
  go_wp2
  rw [rounds_succ]
  obtain ⟨hl, i0, i1, i2, i3, i4, i5, i6⟩ := HI5.out
  have f3 := HF5.out.2 3 _ rfl
  go_wp2_with fail
  refine (lay_d 13 d n m a c i (putS (putS (putS 2600468480 16 5 m) 10 5 a) 5 5 n) _ (putS_lt (putS (putS 2600468480 16 5 m) 10 5 a) 5 5 n (putS_lt (putS 2600468480 16 5 m) 10 5 a (putS_lt 2600468480 16 5 m hB0.1 hB0.2).1 (putS_lt 2600468480 16 5 m hB0.1 hB0.2).2).1 (putS_lt (putS 2600468480 16 5 m) 10 5 a (putS_lt 2600468480 16 5 m hB0.1 hB0.2).1 (putS_lt 2600468480 16 5 m hB0.1 hB0.2).2).2).1 (putS_lt (putS (putS 2600468480 16 5 m) 10 5 a) 5 5 n (putS_lt (putS 2600468480 16 5 m) 10 5 a (putS_lt 2600468480 16 5 m hB0.1 hB0.2).1 (putS_lt 2600468480 16 5 m hB0.1 hB0.2).2).1 (putS_lt (putS 2600468480 16 5 m) 10 5 a (putS_lt 2600468480 16 5 m hB0.1 hB0.2).1 (putS_lt 2600468480 16 5 m hB0.1 hB0.2).2).2).2 (by have := HOK.out; omega) (by have := HOK.out; omega)).mono ?_
  rintro e w6 ⟨rfl, hb⟩
  have HB6 := Lib.hid (HB5.out.trans (hb.mono HB5.out.size))
  have HI6 := Lib.hid (HI5.out.below' hb rfl)
  have HF6 := Lib.hid (HF5.out.past hb rfl)
  clear hb hl i0 i1 i2 i3 i4 i5 i6 f3
  go_wp2
  rw [rounds_succ]
  go_wp2
  refine bodyPost_ret (v := .tuple #[.int .u32 (putS (putS (putS (putS 2600468480 16 5 m) 10 5 a) 5 5 n) 0 5 d), .int .i64 0]) (by simp [results, Try.results166, go_sem]) rfl ⟨rfl, HB6.out⟩
set_option maxRecDepth 100000 in
set_option maxHeartbeats 4000000 in
theorem word_17 (d n m a c i : Int) (b : Nat) (w : World) (hok : ok_17 d n m a c i = true) (hm : w.ownsMap Try.prog 3 (plainElem (H := Unit) Try.prog 54) b 42 DD) : Calls Try.prog 166 #[.agg #[.map (some b)], .agg #[.int .i64 17, .int .i64 d, .int .i64 n, .int .i64 m, .int .i64 a, .int .i64 c, .int .i64 i]] w fun e w' => e = .returned (.tuple #[.int .u32 (putS (putS (putS 2596283392 16 5 m) 5 5 n) 0 5 d), .int .i64 0]) ∧ Below w.heap.size w w' := by
  have HCK := Lib.hid (fun w => (by have := check_17 d n m a c i w; rw [hok] at this; exact this) : ∀ w, Calls Try.prog 31 #[.agg #[.int .i64 17, .int .i64 d, .int .i64 n, .int .i64 m, .int .i64 a, .int .i64 c, .int .i64 i]] w fun e w' => e = .returned (.int .i64 0) ∧ Below w.heap.size w w')
  have hB0 : (0 : Int) ≤ 2596283392 ∧ (2596283392 : Int) < 4294967296 := by decide
  simp only [ok_17, wi, Bool.and_eq_true, decide_eq_true_eq, beq_iff_eq] at hok
  have HOK := Lib.hid hok
  clear hok
  go_enter Try.func166, Try.ntmps166
  go_wp2_with fail
  have HM0 := Lib.hid (map_past (map_past hm ((Below.refl _ _).alloc (Nat.le_refl _) (.cells #[.map (some b)] 238))) ((Below.refl _ _).alloc (Nat.le_refl _) (.cells #[.int .i64 17, .int .i64 d, .int .i64 n, .int .i64 m, .int .i64 a, .int .i64 c, .int .i64 i] 29)))
  have HI0 := Lib.hid (InsC.new (w.alloc (.cells #[.map (some b)] 238)) (.int .i64 17) (.int .i64 d) (.int .i64 n) (.int .i64 m) (.int .i64 a) (.int .i64 c) (.int .i64 i))
  have HE0 : Hid (((w.alloc (.cells #[.map (some b)] 238)).alloc (.cells #[.int .i64 17, .int .i64 d, .int .i64 n, .int .i64 m, .int .i64 a, .int .i64 c, .int .i64 i] 29)).cell? ⟨w.heap.size, 0, none⟩ = some (.map (some b))) := Lib.hid (by simp)
  refine (HCK.out _).mono ?_
  rintro e w1 ⟨rfl, hb⟩
  have HB1 : Hid (Below w.heap.size w w1) := Lib.hid ((((Below.refl _ _).alloc (Nat.le_refl _) _).alloc (by simp) _).trans (hb.mono (by simp; omega)))
  have HI1 := Lib.hid (HI0.out.below' hb rfl)
  rw [World.size_alloc] at HI1
  have HM1 := Lib.hid (map_past HM0.out hb)
  have e1 := (hb.cell (p := ⟨w.heap.size, 0, none⟩) (by simp; omega)).trans HE0.out
  have hs1 : w.heap.size + 1 < w1.heap.size := HI1.out.1
  obtain ⟨hl, i0, i1, i2, i3, i4, i5, i6⟩ := HI1.out
  clear hb HI0 HM0 HE0 hm
  go_wp2_with (at_lookup; refine wpList_lookup_own_int _ rfl _ _ 235 rfl 3 54 .u32 law3 Try.underlying235 Try.underlying54 (zero25 _) b 42 _ rfl HM1.out _ _ rfl (keyOf_int_mk Try.underlying3 (by decide)) ?_; intro c' hat hwc; obtain rfl : c' = 2596283392 := (look_c _ _ hat).trans (by decide))
  clear hat hwc e1 HM1
  refine (flds_17 _).mono ?_
  rintro e w2 ⟨rfl, hf, hb⟩
  have HB2 := Lib.hid (HB1.out.trans (hb.mono HB1.out.size))
  have HI2 := Lib.hid (HI1.out.below' hb rfl)
  have HF2 := Lib.hid hf
  clear hl i0 i1 i2 i3 i4 i5 i6
  obtain ⟨g, hg⟩ : ∃ g, g = w1.heap.size := ⟨_, rfl⟩
  rw [← hg] at HF2
  rw [← hg]
  clear hb hf HI1 HB1 hg hs1
  go_wp2_with fail
  refine wp_loop_rounds 4 ?_
  rw [rounds_succ]
  obtain ⟨hl, i0, i1, i2, i3, i4, i5, i6⟩ := HI2.out
  have f0 := HF2.out.2 0 _ rfl
  go_wp2_with fail
  refine (lay_m 17 d n m a c i 2596283392 _ hB0.1 hB0.2 (by have := HOK.out; omega) (by have := HOK.out; omega)).mono ?_
  rintro e w3 ⟨rfl, hb⟩
  have HB3 := Lib.hid (HB2.out.trans (hb.mono HB2.out.size))
  have HI3 := Lib.hid (HI2.out.below' hb rfl)
  have HF3 := Lib.hid (HF2.out.past hb rfl)
  clear hb hl i0 i1 i2 i3 i4 i5 i6 f0
  go_wp2
  rw [rounds_succ]
  obtain ⟨hl, i0, i1, i2, i3, i4, i5, i6⟩ := HI3.out
  have f1 := HF3.out.2 1 _ rfl
  go_wp2_with fail
  refine (lay_n 17 d n m a c i (putS 2596283392 16 5 m) _ (putS_lt 2596283392 16 5 m hB0.1 hB0.2).1 (putS_lt 2596283392 16 5 m hB0.1 hB0.2).2 (by have := HOK.out; omega) (by have := HOK.out; omega)).mono ?_
  rintro e w4 ⟨rfl, hb⟩
  have HB4 := Lib.hid (HB3.out.trans (hb.mono HB3.out.size))
  have HI4 := Lib.hid (HI3.out.below' hb rfl)
  have HF4 := Lib.hid (HF3.out.past hb rfl)
  clear hb hl i0 i1 i2 i3 i4 i5 i6 f1
  go_wp2
  rw [rounds_succ]
  obtain ⟨hl, i0, i1, i2, i3, i4, i5, i6⟩ := HI4.out
  have f2 := HF4.out.2 2 _ rfl
  go_wp2_with fail
  refine (lay_d 17 d n m a c i (putS (putS 2596283392 16 5 m) 5 5 n) _ (putS_lt (putS 2596283392 16 5 m) 5 5 n (putS_lt 2596283392 16 5 m hB0.1 hB0.2).1 (putS_lt 2596283392 16 5 m hB0.1 hB0.2).2).1 (putS_lt (putS 2596283392 16 5 m) 5 5 n (putS_lt 2596283392 16 5 m hB0.1 hB0.2).1 (putS_lt 2596283392 16 5 m hB0.1 hB0.2).2).2 (by have := HOK.out; omega) (by have := HOK.out; omega)).mono ?_
  rintro e w5 ⟨rfl, hb⟩
  have HB5 := Lib.hid (HB4.out.trans (hb.mono HB4.out.size))
  have HI5 := Lib.hid (HI4.out.below' hb rfl)
  have HF5 := Lib.hid (HF4.out.past hb rfl)
  clear hb hl i0 i1 i2 i3 i4 i5 i6 f2
  go_wp2
  rw [rounds_succ]
  go_wp2
  refine bodyPost_ret (v := .tuple #[.int .u32 (putS (putS (putS 2596283392 16 5 m) 5 5 n) 0 5 d), .int .i64 0]) (by simp [results, Try.results166, go_sem]) rfl ⟨rfl, HB5.out⟩
set_option maxRecDepth 100000 in
set_option maxHeartbeats 4000000 in
theorem word_21 (d n m a c i : Int) (b : Nat) (w : World) (hok : ok_21 d n m a c i = true) (hm : w.ownsMap Try.prog 3 (plainElem (H := Unit) Try.prog 54) b 42 DD) : Calls Try.prog 166 #[.agg #[.map (some b)], .agg #[.int .i64 21, .int .i64 d, .int .i64 n, .int .i64 m, .int .i64 a, .int .i64 c, .int .i64 i]] w fun e w' => e = .returned (.tuple #[.int .u32 (putS (putS 1409286144 5 19 (i / 4 % 4294967296)) 0 4 c), .int .i64 0]) ∧ Below w.heap.size w w' := by
  have HCK := Lib.hid (fun w => (by have := check_21 d n m a c i w; rw [hok] at this; exact this) : ∀ w, Calls Try.prog 31 #[.agg #[.int .i64 21, .int .i64 d, .int .i64 n, .int .i64 m, .int .i64 a, .int .i64 c, .int .i64 i]] w fun e w' => e = .returned (.int .i64 0) ∧ Below w.heap.size w w')
  have hB0 : (0 : Int) ≤ 1409286144 ∧ (1409286144 : Int) < 4294967296 := by decide
  simp only [ok_21, wi, wm, Bool.and_eq_true, decide_eq_true_eq, beq_iff_eq] at hok
  have HOK := Lib.hid hok
  clear hok
  go_enter Try.func166, Try.ntmps166
  go_wp2_with fail
  have HM0 := Lib.hid (map_past (map_past hm ((Below.refl _ _).alloc (Nat.le_refl _) (.cells #[.map (some b)] 238))) ((Below.refl _ _).alloc (Nat.le_refl _) (.cells #[.int .i64 21, .int .i64 d, .int .i64 n, .int .i64 m, .int .i64 a, .int .i64 c, .int .i64 i] 29)))
  have HI0 := Lib.hid (InsC.new (w.alloc (.cells #[.map (some b)] 238)) (.int .i64 21) (.int .i64 d) (.int .i64 n) (.int .i64 m) (.int .i64 a) (.int .i64 c) (.int .i64 i))
  have HE0 : Hid (((w.alloc (.cells #[.map (some b)] 238)).alloc (.cells #[.int .i64 21, .int .i64 d, .int .i64 n, .int .i64 m, .int .i64 a, .int .i64 c, .int .i64 i] 29)).cell? ⟨w.heap.size, 0, none⟩ = some (.map (some b))) := Lib.hid (by simp)
  refine (HCK.out _).mono ?_
  rintro e w1 ⟨rfl, hb⟩
  have HB1 : Hid (Below w.heap.size w w1) := Lib.hid ((((Below.refl _ _).alloc (Nat.le_refl _) _).alloc (by simp) _).trans (hb.mono (by simp; omega)))
  have HI1 := Lib.hid (HI0.out.below' hb rfl)
  rw [World.size_alloc] at HI1
  have HM1 := Lib.hid (map_past HM0.out hb)
  have e1 := (hb.cell (p := ⟨w.heap.size, 0, none⟩) (by simp; omega)).trans HE0.out
  have hs1 : w.heap.size + 1 < w1.heap.size := HI1.out.1
  obtain ⟨hl, i0, i1, i2, i3, i4, i5, i6⟩ := HI1.out
  clear hb HI0 HM0 HE0 hm
  go_wp2_with (at_lookup; refine wpList_lookup_own_int _ rfl _ _ 235 rfl 3 54 .u32 law3 Try.underlying235 Try.underlying54 (zero25 _) b 42 _ rfl HM1.out _ _ rfl (keyOf_int_mk Try.underlying3 (by decide)) ?_; intro c' hat hwc; obtain rfl : c' = 1409286144 := (look_c _ _ hat).trans (by decide))
  clear hat hwc e1 HM1
  refine (flds_21 _).mono ?_
  rintro e w2 ⟨rfl, hf, hb⟩
  have HB2 := Lib.hid (HB1.out.trans (hb.mono HB1.out.size))
  have HI2 := Lib.hid (HI1.out.below' hb rfl)
  have HF2 := Lib.hid hf
  clear hl i0 i1 i2 i3 i4 i5 i6
  obtain ⟨g, hg⟩ : ∃ g, g = w1.heap.size := ⟨_, rfl⟩
  rw [← hg] at HF2
  rw [← hg]
  clear hb hf HI1 HB1 hg hs1
  go_wp2_with fail
  refine wp_loop_rounds 3 ?_
  rw [rounds_succ]
  obtain ⟨hl, i0, i1, i2, i3, i4, i5, i6⟩ := HI2.out
  have f0 := HF2.out.2 0 _ rfl
  go_wp2_with fail
  refine (lay_near 21 d n m a c i 1409286144 (i / 4) _ hB0.1 hB0.2 (by have := HOK.out; omega) (by have := HOK.out; omega) (by have := HOK.out; omega)).mono ?_
  rintro e w3 ⟨rfl, hb⟩
  have HB3 := Lib.hid (HB2.out.trans (hb.mono HB2.out.size))
  have HI3 := Lib.hid (HI2.out.below' hb rfl)
  have HF3 := Lib.hid (HF2.out.past hb rfl)
  clear hb hl i0 i1 i2 i3 i4 i5 i6 f0
  go_wp2
  rw [rounds_succ]
  obtain ⟨hl, i0, i1, i2, i3, i4, i5, i6⟩ := HI3.out
  have f1 := HF3.out.2 1 _ rfl
  go_wp2_with fail
  refine (lay_cond 21 d n m a c i (putS 1409286144 5 19 (i / 4 % 4294967296)) _ (putS_lt 1409286144 5 19 (i / 4 % 4294967296) hB0.1 hB0.2).1 (putS_lt 1409286144 5 19 (i / 4 % 4294967296) hB0.1 hB0.2).2 (by have := HOK.out; omega) (by have := HOK.out; omega)).mono ?_
  rintro e w4 ⟨rfl, hb⟩
  have HB4 := Lib.hid (HB3.out.trans (hb.mono HB3.out.size))
  have HI4 := Lib.hid (HI3.out.below' hb rfl)
  have HF4 := Lib.hid (HF3.out.past hb rfl)
  clear hb hl i0 i1 i2 i3 i4 i5 i6 f1
  go_wp2
  rw [rounds_succ]
  go_wp2
  refine bodyPost_ret (v := .tuple #[.int .u32 (putS (putS 1409286144 5 19 (i / 4 % 4294967296)) 0 4 c), .int .i64 0]) (by simp [results, Try.results166, go_sem]) rfl ⟨rfl, HB4.out⟩
set_option maxRecDepth 100000 in
set_option maxHeartbeats 4000000 in
theorem word_25 (d n m a c i : Int) (b : Nat) (w : World) (hok : ok_25 d n m a c i = true) (hm : w.ownsMap Try.prog 3 (plainElem (H := Unit) Try.prog 54) b 42 DD) : Calls Try.prog 166 #[.agg #[.map (some b)], .agg #[.int .i64 25, .int .i64 d, .int .i64 n, .int .i64 m, .int .i64 a, .int .i64 c, .int .i64 i]] w fun e w' => e = .returned (.tuple #[.int .u32 (putS 3592355840 5 5 n), .int .i64 0]) ∧ Below w.heap.size w w' := by
  have HCK := Lib.hid (fun w => (by have := check_25 d n m a c i w; rw [hok] at this; exact this) : ∀ w, Calls Try.prog 31 #[.agg #[.int .i64 25, .int .i64 d, .int .i64 n, .int .i64 m, .int .i64 a, .int .i64 c, .int .i64 i]] w fun e w' => e = .returned (.int .i64 0) ∧ Below w.heap.size w w')
  have hB0 : (0 : Int) ≤ 3592355840 ∧ (3592355840 : Int) < 4294967296 := by decide
  simp only [ok_25, wi, Bool.and_eq_true, decide_eq_true_eq, beq_iff_eq] at hok
  have HOK := Lib.hid hok
  clear hok
  go_enter Try.func166, Try.ntmps166
  go_wp2_with fail
  have HM0 := Lib.hid (map_past (map_past hm ((Below.refl _ _).alloc (Nat.le_refl _) (.cells #[.map (some b)] 238))) ((Below.refl _ _).alloc (Nat.le_refl _) (.cells #[.int .i64 25, .int .i64 d, .int .i64 n, .int .i64 m, .int .i64 a, .int .i64 c, .int .i64 i] 29)))
  have HI0 := Lib.hid (InsC.new (w.alloc (.cells #[.map (some b)] 238)) (.int .i64 25) (.int .i64 d) (.int .i64 n) (.int .i64 m) (.int .i64 a) (.int .i64 c) (.int .i64 i))
  have HE0 : Hid (((w.alloc (.cells #[.map (some b)] 238)).alloc (.cells #[.int .i64 25, .int .i64 d, .int .i64 n, .int .i64 m, .int .i64 a, .int .i64 c, .int .i64 i] 29)).cell? ⟨w.heap.size, 0, none⟩ = some (.map (some b))) := Lib.hid (by simp)
  refine (HCK.out _).mono ?_
  rintro e w1 ⟨rfl, hb⟩
  have HB1 : Hid (Below w.heap.size w w1) := Lib.hid ((((Below.refl _ _).alloc (Nat.le_refl _) _).alloc (by simp) _).trans (hb.mono (by simp; omega)))
  have HI1 := Lib.hid (HI0.out.below' hb rfl)
  rw [World.size_alloc] at HI1
  have HM1 := Lib.hid (map_past HM0.out hb)
  have e1 := (hb.cell (p := ⟨w.heap.size, 0, none⟩) (by simp; omega)).trans HE0.out
  have hs1 : w.heap.size + 1 < w1.heap.size := HI1.out.1
  obtain ⟨hl, i0, i1, i2, i3, i4, i5, i6⟩ := HI1.out
  clear hb HI0 HM0 HE0 hm
  go_wp2_with (at_lookup; refine wpList_lookup_own_int _ rfl _ _ 235 rfl 3 54 .u32 law3 Try.underlying235 Try.underlying54 (zero25 _) b 42 _ rfl HM1.out _ _ rfl (keyOf_int_mk Try.underlying3 (by decide)) ?_; intro c' hat hwc; obtain rfl : c' = 3592355840 := (look_c _ _ hat).trans (by decide))
  clear hat hwc e1 HM1
  refine (flds_25 _).mono ?_
  rintro e w2 ⟨rfl, hf, hb⟩
  have HB2 := Lib.hid (HB1.out.trans (hb.mono HB1.out.size))
  have HI2 := Lib.hid (HI1.out.below' hb rfl)
  have HF2 := Lib.hid hf
  clear hl i0 i1 i2 i3 i4 i5 i6
  obtain ⟨g, hg⟩ : ∃ g, g = w1.heap.size := ⟨_, rfl⟩
  rw [← hg] at HF2
  rw [← hg]
  clear hb hf HI1 HB1 hg hs1
  go_wp2_with fail
  refine wp_loop_rounds 2 ?_
  rw [rounds_succ]
  obtain ⟨hl, i0, i1, i2, i3, i4, i5, i6⟩ := HI2.out
  have f0 := HF2.out.2 0 _ rfl
  go_wp2_with fail
  refine (lay_n 25 d n m a c i 3592355840 _ hB0.1 hB0.2 (by have := HOK.out; omega) (by have := HOK.out; omega)).mono ?_
  rintro e w3 ⟨rfl, hb⟩
  have HB3 := Lib.hid (HB2.out.trans (hb.mono HB2.out.size))
  have HI3 := Lib.hid (HI2.out.below' hb rfl)
  have HF3 := Lib.hid (HF2.out.past hb rfl)
  clear hb hl i0 i1 i2 i3 i4 i5 i6 f0
  go_wp2
  rw [rounds_succ]
  go_wp2
  refine bodyPost_ret (v := .tuple #[.int .u32 (putS 3592355840 5 5 n), .int .i64 0]) (by simp [results, Try.results166, go_sem]) rfl ⟨rfl, HB3.out⟩
set_option maxRecDepth 100000 in
set_option maxHeartbeats 4000000 in
theorem word_29 (d n m a c i : Int) (b : Nat) (w : World) (hok : ok_29 d n m a c i = true) (hm : w.ownsMap Try.prog 3 (plainElem (H := Unit) Try.prog 54) b 42 DD) : Calls Try.prog 166 #[.agg #[.map (some b)], .agg #[.int .i64 29, .int .i64 d, .int .i64 n, .int .i64 m, .int .i64 a, .int .i64 c, .int .i64 i]] w fun e w' => e = .returned (.tuple #[.int .u32 (putS (putS (putS 4177526784 10 12 (i / 8)) 5 5 n) 0 5 d), .int .i64 0]) ∧ Below w.heap.size w w' := by
  have HCK := Lib.hid (fun w => (by have := check_29 d n m a c i w; rw [hok] at this; exact this) : ∀ w, Calls Try.prog 31 #[.agg #[.int .i64 29, .int .i64 d, .int .i64 n, .int .i64 m, .int .i64 a, .int .i64 c, .int .i64 i]] w fun e w' => e = .returned (.int .i64 0) ∧ Below w.heap.size w w')
  have hB0 : (0 : Int) ≤ 4177526784 ∧ (4177526784 : Int) < 4294967296 := by decide
  simp only [ok_29, wi, wm, Bool.and_eq_true, decide_eq_true_eq, beq_iff_eq] at hok
  have HOK := Lib.hid hok
  clear hok
  go_enter Try.func166, Try.ntmps166
  go_wp2_with fail
  have HM0 := Lib.hid (map_past (map_past hm ((Below.refl _ _).alloc (Nat.le_refl _) (.cells #[.map (some b)] 238))) ((Below.refl _ _).alloc (Nat.le_refl _) (.cells #[.int .i64 29, .int .i64 d, .int .i64 n, .int .i64 m, .int .i64 a, .int .i64 c, .int .i64 i] 29)))
  have HI0 := Lib.hid (InsC.new (w.alloc (.cells #[.map (some b)] 238)) (.int .i64 29) (.int .i64 d) (.int .i64 n) (.int .i64 m) (.int .i64 a) (.int .i64 c) (.int .i64 i))
  have HE0 : Hid (((w.alloc (.cells #[.map (some b)] 238)).alloc (.cells #[.int .i64 29, .int .i64 d, .int .i64 n, .int .i64 m, .int .i64 a, .int .i64 c, .int .i64 i] 29)).cell? ⟨w.heap.size, 0, none⟩ = some (.map (some b))) := Lib.hid (by simp)
  refine (HCK.out _).mono ?_
  rintro e w1 ⟨rfl, hb⟩
  have HB1 : Hid (Below w.heap.size w w1) := Lib.hid ((((Below.refl _ _).alloc (Nat.le_refl _) _).alloc (by simp) _).trans (hb.mono (by simp; omega)))
  have HI1 := Lib.hid (HI0.out.below' hb rfl)
  rw [World.size_alloc] at HI1
  have HM1 := Lib.hid (map_past HM0.out hb)
  have e1 := (hb.cell (p := ⟨w.heap.size, 0, none⟩) (by simp; omega)).trans HE0.out
  have hs1 : w.heap.size + 1 < w1.heap.size := HI1.out.1
  obtain ⟨hl, i0, i1, i2, i3, i4, i5, i6⟩ := HI1.out
  clear hb HI0 HM0 HE0 hm
  go_wp2_with (at_lookup; refine wpList_lookup_own_int _ rfl _ _ 235 rfl 3 54 .u32 law3 Try.underlying235 Try.underlying54 (zero25 _) b 42 _ rfl HM1.out _ _ rfl (keyOf_int_mk Try.underlying3 (by decide)) ?_; intro c' hat hwc; obtain rfl : c' = 4177526784 := (look_c _ _ hat).trans (by decide))
  clear hat hwc e1 HM1
  refine (flds_29 _).mono ?_
  rintro e w2 ⟨rfl, hf, hb⟩
  have HB2 := Lib.hid (HB1.out.trans (hb.mono HB1.out.size))
  have HI2 := Lib.hid (HI1.out.below' hb rfl)
  have HF2 := Lib.hid hf
  clear hl i0 i1 i2 i3 i4 i5 i6
  obtain ⟨g, hg⟩ : ∃ g, g = w1.heap.size := ⟨_, rfl⟩
  rw [← hg] at HF2
  rw [← hg]
  clear hb hf HI1 HB1 hg hs1
  go_wp2_with fail
  refine wp_loop_rounds 4 ?_
  rw [rounds_succ]
  obtain ⟨hl, i0, i1, i2, i3, i4, i5, i6⟩ := HI2.out
  have f0 := HF2.out.2 0 _ rfl
  go_wp2_with fail
  refine (lay_eights 29 d n m a c i 4177526784 _ hB0.1 hB0.2 (by have := HOK.out; omega) (by have := HOK.out; omega)).mono ?_
  rintro e w3 ⟨rfl, hb⟩
  have HB3 := Lib.hid (HB2.out.trans (hb.mono HB2.out.size))
  have HI3 := Lib.hid (HI2.out.below' hb rfl)
  have HF3 := Lib.hid (HF2.out.past hb rfl)
  clear hb hl i0 i1 i2 i3 i4 i5 i6 f0
  go_wp2
  rw [rounds_succ]
  obtain ⟨hl, i0, i1, i2, i3, i4, i5, i6⟩ := HI3.out
  have f1 := HF3.out.2 1 _ rfl
  go_wp2_with fail
  refine (lay_n 29 d n m a c i (putS 4177526784 10 12 (i / 8)) _ (putS_lt 4177526784 10 12 (i / 8) hB0.1 hB0.2).1 (putS_lt 4177526784 10 12 (i / 8) hB0.1 hB0.2).2 (by have := HOK.out; omega) (by have := HOK.out; omega)).mono ?_
  rintro e w4 ⟨rfl, hb⟩
  have HB4 := Lib.hid (HB3.out.trans (hb.mono HB3.out.size))
  have HI4 := Lib.hid (HI3.out.below' hb rfl)
  have HF4 := Lib.hid (HF3.out.past hb rfl)
  clear hb hl i0 i1 i2 i3 i4 i5 i6 f1
  go_wp2
  rw [rounds_succ]
  obtain ⟨hl, i0, i1, i2, i3, i4, i5, i6⟩ := HI4.out
  have f2 := HF4.out.2 2 _ rfl
  go_wp2_with fail
  refine (lay_d 29 d n m a c i (putS (putS 4177526784 10 12 (i / 8)) 5 5 n) _ (putS_lt (putS 4177526784 10 12 (i / 8)) 5 5 n (putS_lt 4177526784 10 12 (i / 8) hB0.1 hB0.2).1 (putS_lt 4177526784 10 12 (i / 8) hB0.1 hB0.2).2).1 (putS_lt (putS 4177526784 10 12 (i / 8)) 5 5 n (putS_lt 4177526784 10 12 (i / 8) hB0.1 hB0.2).1 (putS_lt 4177526784 10 12 (i / 8) hB0.1 hB0.2).2).2 (by have := HOK.out; omega) (by have := HOK.out; omega)).mono ?_
  rintro e w5 ⟨rfl, hb⟩
  have HB5 := Lib.hid (HB4.out.trans (hb.mono HB4.out.size))
  have HI5 := Lib.hid (HI4.out.below' hb rfl)
  have HF5 := Lib.hid (HF4.out.past hb rfl)
  clear hb hl i0 i1 i2 i3 i4 i5 i6 f2
  go_wp2
  rw [rounds_succ]
  go_wp2
  refine bodyPost_ret (v := .tuple #[.int .u32 (putS (putS (putS 4177526784 10 12 (i / 8)) 5 5 n) 0 5 d), .int .i64 0]) (by simp [results, Try.results166, go_sem]) rfl ⟨rfl, HB5.out⟩
set_option maxRecDepth 100000 in
set_option maxHeartbeats 4000000 in
theorem word_33 (d n m a c i : Int) (b : Nat) (w : World) (hok : ok_33 d n m a c i = true) (hm : w.ownsMap Try.prog 3 (plainElem (H := Unit) Try.prog 54) b 42 DD) : Calls Try.prog 166 #[.agg #[.map (some b)], .agg #[.int .i64 33, .int .i64 d, .int .i64 n, .int .i64 m, .int .i64 a, .int .i64 c, .int .i64 i]] w fun e w' => e = .returned (.tuple #[.int .u32 (putS (putS 3370122240 5 5 n) 0 5 d), .int .i64 0]) ∧ Below w.heap.size w w' := by
  have HCK := Lib.hid (fun w => (by have := check_33 d n m a c i w; rw [hok] at this; exact this) : ∀ w, Calls Try.prog 31 #[.agg #[.int .i64 33, .int .i64 d, .int .i64 n, .int .i64 m, .int .i64 a, .int .i64 c, .int .i64 i]] w fun e w' => e = .returned (.int .i64 0) ∧ Below w.heap.size w w')
  have hB0 : (0 : Int) ≤ 3370122240 ∧ (3370122240 : Int) < 4294967296 := by decide
  simp only [ok_33, wi, Bool.and_eq_true, decide_eq_true_eq, beq_iff_eq] at hok
  have HOK := Lib.hid hok
  clear hok
  go_enter Try.func166, Try.ntmps166
  go_wp2_with fail
  have HM0 := Lib.hid (map_past (map_past hm ((Below.refl _ _).alloc (Nat.le_refl _) (.cells #[.map (some b)] 238))) ((Below.refl _ _).alloc (Nat.le_refl _) (.cells #[.int .i64 33, .int .i64 d, .int .i64 n, .int .i64 m, .int .i64 a, .int .i64 c, .int .i64 i] 29)))
  have HI0 := Lib.hid (InsC.new (w.alloc (.cells #[.map (some b)] 238)) (.int .i64 33) (.int .i64 d) (.int .i64 n) (.int .i64 m) (.int .i64 a) (.int .i64 c) (.int .i64 i))
  have HE0 : Hid (((w.alloc (.cells #[.map (some b)] 238)).alloc (.cells #[.int .i64 33, .int .i64 d, .int .i64 n, .int .i64 m, .int .i64 a, .int .i64 c, .int .i64 i] 29)).cell? ⟨w.heap.size, 0, none⟩ = some (.map (some b))) := Lib.hid (by simp)
  refine (HCK.out _).mono ?_
  rintro e w1 ⟨rfl, hb⟩
  have HB1 : Hid (Below w.heap.size w w1) := Lib.hid ((((Below.refl _ _).alloc (Nat.le_refl _) _).alloc (by simp) _).trans (hb.mono (by simp; omega)))
  have HI1 := Lib.hid (HI0.out.below' hb rfl)
  rw [World.size_alloc] at HI1
  have HM1 := Lib.hid (map_past HM0.out hb)
  have e1 := (hb.cell (p := ⟨w.heap.size, 0, none⟩) (by simp; omega)).trans HE0.out
  have hs1 : w.heap.size + 1 < w1.heap.size := HI1.out.1
  obtain ⟨hl, i0, i1, i2, i3, i4, i5, i6⟩ := HI1.out
  clear hb HI0 HM0 HE0 hm
  go_wp2_with (at_lookup; refine wpList_lookup_own_int _ rfl _ _ 235 rfl 3 54 .u32 law3 Try.underlying235 Try.underlying54 (zero25 _) b 42 _ rfl HM1.out _ _ rfl (keyOf_int_mk Try.underlying3 (by decide)) ?_; intro c' hat hwc; obtain rfl : c' = 3370122240 := (look_c _ _ hat).trans (by decide))
  clear hat hwc e1 HM1
  refine (flds_33 _).mono ?_
  rintro e w2 ⟨rfl, hf, hb⟩
  have HB2 := Lib.hid (HB1.out.trans (hb.mono HB1.out.size))
  have HI2 := Lib.hid (HI1.out.below' hb rfl)
  have HF2 := Lib.hid hf
  clear hl i0 i1 i2 i3 i4 i5 i6
  obtain ⟨g, hg⟩ : ∃ g, g = w1.heap.size := ⟨_, rfl⟩
  rw [← hg] at HF2
  rw [← hg]
  clear hb hf HI1 HB1 hg hs1
  go_wp2_with fail
  refine wp_loop_rounds 3 ?_
  rw [rounds_succ]
  obtain ⟨hl, i0, i1, i2, i3, i4, i5, i6⟩ := HI2.out
  have f0 := HF2.out.2 0 _ rfl
  go_wp2_with fail
  refine (lay_n 33 d n m a c i 3370122240 _ hB0.1 hB0.2 (by have := HOK.out; omega) (by have := HOK.out; omega)).mono ?_
  rintro e w3 ⟨rfl, hb⟩
  have HB3 := Lib.hid (HB2.out.trans (hb.mono HB2.out.size))
  have HI3 := Lib.hid (HI2.out.below' hb rfl)
  have HF3 := Lib.hid (HF2.out.past hb rfl)
  clear hb hl i0 i1 i2 i3 i4 i5 i6 f0
  go_wp2
  rw [rounds_succ]
  obtain ⟨hl, i0, i1, i2, i3, i4, i5, i6⟩ := HI3.out
  have f1 := HF3.out.2 1 _ rfl
  go_wp2_with fail
  refine (lay_d 33 d n m a c i (putS 3370122240 5 5 n) _ (putS_lt 3370122240 5 5 n hB0.1 hB0.2).1 (putS_lt 3370122240 5 5 n hB0.1 hB0.2).2 (by have := HOK.out; omega) (by have := HOK.out; omega)).mono ?_
  rintro e w4 ⟨rfl, hb⟩
  have HB4 := Lib.hid (HB3.out.trans (hb.mono HB3.out.size))
  have HI4 := Lib.hid (HI3.out.below' hb rfl)
  have HF4 := Lib.hid (HF3.out.past hb rfl)
  clear hb hl i0 i1 i2 i3 i4 i5 i6 f1
  go_wp2
  rw [rounds_succ]
  go_wp2
  refine bodyPost_ret (v := .tuple #[.int .u32 (putS (putS 3370122240 5 5 n) 0 5 d), .int .i64 0]) (by simp [results, Try.results166, go_sem]) rfl ⟨rfl, HB4.out⟩
set_option maxRecDepth 100000 in
set_option maxHeartbeats 4000000 in
theorem word_37 (d n m a c i : Int) (b : Nat) (w : World) (hok : ok_37 d n m a c i = true) (hm : w.ownsMap Try.prog 3 (plainElem (H := Unit) Try.prog 54) b 42 DD) : Calls Try.prog 166 #[.agg #[.map (some b)], .agg #[.int .i64 37, .int .i64 d, .int .i64 n, .int .i64 m, .int .i64 a, .int .i64 c, .int .i64 i]] w fun e w' => e = .returned (.tuple #[.int .u32 (barS 3573758911 i), .int .i64 0]) ∧ Below w.heap.size w w' := by
  have HCK := Lib.hid (fun w => (by have := check_37 d n m a c i w; rw [hok] at this; exact this) : ∀ w, Calls Try.prog 31 #[.agg #[.int .i64 37, .int .i64 d, .int .i64 n, .int .i64 m, .int .i64 a, .int .i64 c, .int .i64 i]] w fun e w' => e = .returned (.int .i64 0) ∧ Below w.heap.size w w')
  have hB0 : (0 : Int) ≤ 3573758911 ∧ (3573758911 : Int) < 4294967296 := by decide
  simp only [ok_37, wi, Bool.and_eq_true, decide_eq_true_eq, beq_iff_eq] at hok
  have HOK := Lib.hid hok
  clear hok
  go_enter Try.func166, Try.ntmps166
  go_wp2_with fail
  have HM0 := Lib.hid (map_past (map_past hm ((Below.refl _ _).alloc (Nat.le_refl _) (.cells #[.map (some b)] 238))) ((Below.refl _ _).alloc (Nat.le_refl _) (.cells #[.int .i64 37, .int .i64 d, .int .i64 n, .int .i64 m, .int .i64 a, .int .i64 c, .int .i64 i] 29)))
  have HI0 := Lib.hid (InsC.new (w.alloc (.cells #[.map (some b)] 238)) (.int .i64 37) (.int .i64 d) (.int .i64 n) (.int .i64 m) (.int .i64 a) (.int .i64 c) (.int .i64 i))
  have HE0 : Hid (((w.alloc (.cells #[.map (some b)] 238)).alloc (.cells #[.int .i64 37, .int .i64 d, .int .i64 n, .int .i64 m, .int .i64 a, .int .i64 c, .int .i64 i] 29)).cell? ⟨w.heap.size, 0, none⟩ = some (.map (some b))) := Lib.hid (by simp)
  refine (HCK.out _).mono ?_
  rintro e w1 ⟨rfl, hb⟩
  have HB1 : Hid (Below w.heap.size w w1) := Lib.hid ((((Below.refl _ _).alloc (Nat.le_refl _) _).alloc (by simp) _).trans (hb.mono (by simp; omega)))
  have HI1 := Lib.hid (HI0.out.below' hb rfl)
  rw [World.size_alloc] at HI1
  have HM1 := Lib.hid (map_past HM0.out hb)
  have e1 := (hb.cell (p := ⟨w.heap.size, 0, none⟩) (by simp; omega)).trans HE0.out
  have hs1 : w.heap.size + 1 < w1.heap.size := HI1.out.1
  obtain ⟨hl, i0, i1, i2, i3, i4, i5, i6⟩ := HI1.out
  clear hb HI0 HM0 HE0 hm
  go_wp2_with (at_lookup; refine wpList_lookup_own_int _ rfl _ _ 235 rfl 3 54 .u32 law3 Try.underlying235 Try.underlying54 (zero25 _) b 42 _ rfl HM1.out _ _ rfl (keyOf_int_mk Try.underlying3 (by decide)) ?_; intro c' hat hwc; obtain rfl : c' = 3573758911 := (look_c _ _ hat).trans (by decide))
  clear hat hwc e1 HM1
  refine (flds_37 _).mono ?_
  rintro e w2 ⟨rfl, hf, hb⟩
  have HB2 := Lib.hid (HB1.out.trans (hb.mono HB1.out.size))
  have HI2 := Lib.hid (HI1.out.below' hb rfl)
  have HF2 := Lib.hid hf
  clear hl i0 i1 i2 i3 i4 i5 i6
  obtain ⟨g, hg⟩ : ∃ g, g = w1.heap.size := ⟨_, rfl⟩
  rw [← hg] at HF2
  rw [← hg]
  clear hb hf HI1 HB1 hg hs1
  go_wp2_with fail
  refine wp_loop_rounds 2 ?_
  rw [rounds_succ]
  obtain ⟨hl, i0, i1, i2, i3, i4, i5, i6⟩ := HI2.out
  have f0 := HF2.out.2 0 _ rfl
  go_wp2_with fail
  refine (lay_barrier 37 d n m a c i 3573758911 _ hB0.1 hB0.2 (by have := HOK.out; omega) (by have := HOK.out; omega)).mono ?_
  rintro e w3 ⟨rfl, hb⟩
  have HB3 := Lib.hid (HB2.out.trans (hb.mono HB2.out.size))
  have HI3 := Lib.hid (HI2.out.below' hb rfl)
  have HF3 := Lib.hid (HF2.out.past hb rfl)
  clear hb hl i0 i1 i2 i3 i4 i5 i6 f0
  go_wp2
  rw [rounds_succ]
  go_wp2
  refine bodyPost_ret (v := .tuple #[.int .u32 (barS 3573758911 i), .int .i64 0]) (by simp [results, Try.results166, go_sem]) rfl ⟨rfl, HB3.out⟩
set_option maxRecDepth 100000 in
set_option maxHeartbeats 4000000 in
theorem word_41 (d n m a c i : Int) (b : Nat) (w : World) (hok : ok_41 d n m a c i = true) (hm : w.ownsMap Try.prog 3 (plainElem (H := Unit) Try.prog 54) b 42 DD) : Calls Try.prog 166 #[.agg #[.map (some b)], .agg #[.int .i64 41, .int .i64 d, .int .i64 n, .int .i64 m, .int .i64 a, .int .i64 c, .int .i64 i]] w fun e w' => e = .returned (.tuple #[.int .u32 (putS 3574297888 0 5 n), .int .i64 0]) ∧ Below w.heap.size w w' := by
  have HCK := Lib.hid (fun w => (by have := check_41 d n m a c i w; rw [hok] at this; exact this) : ∀ w, Calls Try.prog 31 #[.agg #[.int .i64 41, .int .i64 d, .int .i64 n, .int .i64 m, .int .i64 a, .int .i64 c, .int .i64 i]] w fun e w' => e = .returned (.int .i64 0) ∧ Below w.heap.size w w')
  have hB0 : (0 : Int) ≤ 3574297888 ∧ (3574297888 : Int) < 4294967296 := by decide
  simp only [ok_41, wi, Bool.and_eq_true, decide_eq_true_eq, beq_iff_eq] at hok
  have HOK := Lib.hid hok
  clear hok
  go_enter Try.func166, Try.ntmps166
  go_wp2_with fail
  have HM0 := Lib.hid (map_past (map_past hm ((Below.refl _ _).alloc (Nat.le_refl _) (.cells #[.map (some b)] 238))) ((Below.refl _ _).alloc (Nat.le_refl _) (.cells #[.int .i64 41, .int .i64 d, .int .i64 n, .int .i64 m, .int .i64 a, .int .i64 c, .int .i64 i] 29)))
  have HI0 := Lib.hid (InsC.new (w.alloc (.cells #[.map (some b)] 238)) (.int .i64 41) (.int .i64 d) (.int .i64 n) (.int .i64 m) (.int .i64 a) (.int .i64 c) (.int .i64 i))
  have HE0 : Hid (((w.alloc (.cells #[.map (some b)] 238)).alloc (.cells #[.int .i64 41, .int .i64 d, .int .i64 n, .int .i64 m, .int .i64 a, .int .i64 c, .int .i64 i] 29)).cell? ⟨w.heap.size, 0, none⟩ = some (.map (some b))) := Lib.hid (by simp)
  refine (HCK.out _).mono ?_
  rintro e w1 ⟨rfl, hb⟩
  have HB1 : Hid (Below w.heap.size w w1) := Lib.hid ((((Below.refl _ _).alloc (Nat.le_refl _) _).alloc (by simp) _).trans (hb.mono (by simp; omega)))
  have HI1 := Lib.hid (HI0.out.below' hb rfl)
  rw [World.size_alloc] at HI1
  have HM1 := Lib.hid (map_past HM0.out hb)
  have e1 := (hb.cell (p := ⟨w.heap.size, 0, none⟩) (by simp; omega)).trans HE0.out
  have hs1 : w.heap.size + 1 < w1.heap.size := HI1.out.1
  obtain ⟨hl, i0, i1, i2, i3, i4, i5, i6⟩ := HI1.out
  clear hb HI0 HM0 HE0 hm
  go_wp2_with (at_lookup; refine wpList_lookup_own_int _ rfl _ _ 235 rfl 3 54 .u32 law3 Try.underlying235 Try.underlying54 (zero25 _) b 42 _ rfl HM1.out _ _ rfl (keyOf_int_mk Try.underlying3 (by decide)) ?_; intro c' hat hwc; obtain rfl : c' = 3574297888 := (look_c _ _ hat).trans (by decide))
  clear hat hwc e1 HM1
  refine (flds_41 _).mono ?_
  rintro e w2 ⟨rfl, hf, hb⟩
  have HB2 := Lib.hid (HB1.out.trans (hb.mono HB1.out.size))
  have HI2 := Lib.hid (HI1.out.below' hb rfl)
  have HF2 := Lib.hid hf
  clear hl i0 i1 i2 i3 i4 i5 i6
  obtain ⟨g, hg⟩ : ∃ g, g = w1.heap.size := ⟨_, rfl⟩
  rw [← hg] at HF2
  rw [← hg]
  clear hb hf HI1 HB1 hg hs1
  go_wp2_with fail
  refine wp_loop_rounds 2 ?_
  rw [rounds_succ]
  obtain ⟨hl, i0, i1, i2, i3, i4, i5, i6⟩ := HI2.out
  have f0 := HF2.out.2 0 _ rfl
  go_wp2_with fail
  refine (lay_line 41 d n m a c i 3574297888 _ hB0.1 hB0.2 (by have := HOK.out; omega) (by have := HOK.out; omega)).mono ?_
  rintro e w3 ⟨rfl, hb⟩
  have HB3 := Lib.hid (HB2.out.trans (hb.mono HB2.out.size))
  have HI3 := Lib.hid (HI2.out.below' hb rfl)
  have HF3 := Lib.hid (HF2.out.past hb rfl)
  clear hb hl i0 i1 i2 i3 i4 i5 i6 f0
  go_wp2
  rw [rounds_succ]
  go_wp2
  refine bodyPost_ret (v := .tuple #[.int .u32 (putS 3574297888 0 5 n), .int .i64 0]) (by simp [results, Try.results166, go_sem]) rfl ⟨rfl, HB3.out⟩
end Go.Proofs.Ytnbpgoacooddjaa.En
