import Derived.Test.YtnbpgoacooddjaaEWd
namespace Go.Proofs.Ytnbpgoacooddjaa.Fr
end Go.Proofs.Ytnbpgoacooddjaa.Fr
namespace Go.Proofs.Ytnbpgoacooddjaa.En
open Go.Proofs.Ytnbpgoacooddjaa.Fr
open Go.ChangeShapes Go.WideShapes Go.ChangeAt Go.RowKit Go.Maps
set_option linter.unusedVariables false
set_option maxRecDepth 100000 in
set_option maxHeartbeats 4000000 in
theorem flds_2 (w : World) : Calls Try.prog 197 #[.int .i64 2] w fun e w' => e = .returned (.slice (some ⟨w.heap.size, 0, none⟩) 3 3) ∧ FldAt w' w.heap.size [218, 219, 220] ∧ Below w.heap.size w w' := by
  go_enter Try.func197, Try.ntmps197
  go_wp2
  go_ret
  refine ⟨rfl, ⟨by simp, fun k f hk => ?_⟩, (Below.refl _ _).alloc (Nat.le_refl _) _⟩
  have : k = 0 ∨ k = 1 ∨ k = 2 := by have := (List.getElem?_eq_some_iff.1 hk).1; simp at this; omega
  rcases this with rfl | rfl | rfl
  · cases hk; exact World.cell?_alloc_at _ _ _ _ rfl
  · cases hk; exact World.cell?_alloc_at _ _ _ _ rfl
  · cases hk; exact World.cell?_alloc_at _ _ _ _ rfl
set_option maxRecDepth 100000 in
set_option maxHeartbeats 4000000 in
theorem flds_6 (w : World) : Calls Try.prog 197 #[.int .i64 6] w fun e w' => e = .returned (.slice (some ⟨w.heap.size, 0, none⟩) 3 3) ∧ FldAt w' w.heap.size [221, 222, 220] ∧ Below w.heap.size w w' := by
  go_enter Try.func197, Try.ntmps197
  go_wp2
  go_ret
  refine ⟨rfl, ⟨by simp, fun k f hk => ?_⟩, (Below.refl _ _).alloc (Nat.le_refl _) _⟩
  have : k = 0 ∨ k = 1 ∨ k = 2 := by have := (List.getElem?_eq_some_iff.1 hk).1; simp at this; omega
  rcases this with rfl | rfl | rfl
  · cases hk; exact World.cell?_alloc_at _ _ _ _ rfl
  · cases hk; exact World.cell?_alloc_at _ _ _ _ rfl
  · cases hk; exact World.cell?_alloc_at _ _ _ _ rfl
set_option maxRecDepth 100000 in
set_option maxHeartbeats 4000000 in
theorem flds_10 (w : World) : Calls Try.prog 197 #[.int .i64 10] w fun e w' => e = .returned (.slice (some ⟨w.heap.size, 0, none⟩) 3 3) ∧ FldAt w' w.heap.size [224, 222, 220] ∧ Below w.heap.size w w' := by
  go_enter Try.func197, Try.ntmps197
  go_wp2
  go_ret
  refine ⟨rfl, ⟨by simp, fun k f hk => ?_⟩, (Below.refl _ _).alloc (Nat.le_refl _) _⟩
  have : k = 0 ∨ k = 1 ∨ k = 2 := by have := (List.getElem?_eq_some_iff.1 hk).1; simp at this; omega
  rcases this with rfl | rfl | rfl
  · cases hk; exact World.cell?_alloc_at _ _ _ _ rfl
  · cases hk; exact World.cell?_alloc_at _ _ _ _ rfl
  · cases hk; exact World.cell?_alloc_at _ _ _ _ rfl
set_option maxRecDepth 100000 in
set_option maxHeartbeats 4000000 in
theorem flds_14 (w : World) : Calls Try.prog 197 #[.int .i64 14] w fun e w' => e = .returned (.slice (some ⟨w.heap.size, 0, none⟩) 4 4) ∧ FldAt w' w.heap.size [224, 225, 222, 220] ∧ Below w.heap.size w w' := by
  go_enter Try.func197, Try.ntmps197
  go_wp2
  go_ret
  refine ⟨rfl, ⟨by simp, fun k f hk => ?_⟩, (Below.refl _ _).alloc (Nat.le_refl _) _⟩
  have : k = 0 ∨ k = 1 ∨ k = 2 ∨ k = 3 := by have := (List.getElem?_eq_some_iff.1 hk).1; simp at this; omega
  rcases this with rfl | rfl | rfl | rfl
  · cases hk; exact World.cell?_alloc_at _ _ _ _ rfl
  · cases hk; exact World.cell?_alloc_at _ _ _ _ rfl
  · cases hk; exact World.cell?_alloc_at _ _ _ _ rfl
  · cases hk; exact World.cell?_alloc_at _ _ _ _ rfl
set_option maxRecDepth 100000 in
set_option maxHeartbeats 4000000 in
theorem flds_18 (w : World) : Calls Try.prog 197 #[.int .i64 18] w fun e w' => e = .returned (.slice (some ⟨w.heap.size, 0, none⟩) 3 3) ∧ FldAt w' w.heap.size [224, 222, 220] ∧ Below w.heap.size w w' := by
  go_enter Try.func197, Try.ntmps197
  go_wp2
  go_ret
  refine ⟨rfl, ⟨by simp, fun k f hk => ?_⟩, (Below.refl _ _).alloc (Nat.le_refl _) _⟩
  have : k = 0 ∨ k = 1 ∨ k = 2 := by have := (List.getElem?_eq_some_iff.1 hk).1; simp at this; omega
  rcases this with rfl | rfl | rfl
  · cases hk; exact World.cell?_alloc_at _ _ _ _ rfl
  · cases hk; exact World.cell?_alloc_at _ _ _ _ rfl
  · cases hk; exact World.cell?_alloc_at _ _ _ _ rfl
set_option maxRecDepth 100000 in
set_option maxHeartbeats 4000000 in
theorem flds_22 (w : World) : Calls Try.prog 197 #[.int .i64 22] w fun e w' => e = .returned (.slice (some ⟨w.heap.size, 0, none⟩) 2 2) ∧ FldAt w' w.heap.size [228, 220] ∧ Below w.heap.size w w' := by
  go_enter Try.func197, Try.ntmps197
  go_wp2
  go_ret
  refine ⟨rfl, ⟨by simp, fun k f hk => ?_⟩, (Below.refl _ _).alloc (Nat.le_refl _) _⟩
  have : k = 0 ∨ k = 1 := by have := (List.getElem?_eq_some_iff.1 hk).1; simp at this; omega
  rcases this with rfl | rfl
  · cases hk; exact World.cell?_alloc_at _ _ _ _ rfl
  · cases hk; exact World.cell?_alloc_at _ _ _ _ rfl
set_option maxRecDepth 100000 in
set_option maxHeartbeats 4000000 in
theorem flds_26 (w : World) : Calls Try.prog 197 #[.int .i64 26] w fun e w' => e = .returned (.slice (some ⟨w.heap.size, 0, none⟩) 1 1) ∧ FldAt w' w.heap.size [222] ∧ Below w.heap.size w w' := by
  go_enter Try.func197, Try.ntmps197
  go_wp2
  go_ret
  refine ⟨rfl, ⟨by simp, fun k f hk => ?_⟩, (Below.refl _ _).alloc (Nat.le_refl _) _⟩
  have : k = 0 := by have := (List.getElem?_eq_some_iff.1 hk).1; simp at this; omega
  rcases this with rfl
  · cases hk; exact World.cell?_alloc_at _ _ _ _ rfl
set_option maxRecDepth 100000 in
set_option maxHeartbeats 4000000 in
theorem flds_30 (w : World) : Calls Try.prog 197 #[.int .i64 30] w fun e w' => e = .returned (.slice (some ⟨w.heap.size, 0, none⟩) 3 3) ∧ FldAt w' w.heap.size [221, 222, 220] ∧ Below w.heap.size w w' := by
  go_enter Try.func197, Try.ntmps197
  go_wp2
  go_ret
  refine ⟨rfl, ⟨by simp, fun k f hk => ?_⟩, (Below.refl _ _).alloc (Nat.le_refl _) _⟩
  have : k = 0 ∨ k = 1 ∨ k = 2 := by have := (List.getElem?_eq_some_iff.1 hk).1; simp at this; omega
  rcases this with rfl | rfl | rfl
  · cases hk; exact World.cell?_alloc_at _ _ _ _ rfl
  · cases hk; exact World.cell?_alloc_at _ _ _ _ rfl
  · cases hk; exact World.cell?_alloc_at _ _ _ _ rfl
set_option maxRecDepth 100000 in
set_option maxHeartbeats 4000000 in
theorem flds_34 (w : World) : Calls Try.prog 197 #[.int .i64 34] w fun e w' => e = .returned (.slice (some ⟨w.heap.size, 0, none⟩) 2 2) ∧ FldAt w' w.heap.size [222, 220] ∧ Below w.heap.size w w' := by
  go_enter Try.func197, Try.ntmps197
  go_wp2
  go_ret
  refine ⟨rfl, ⟨by simp, fun k f hk => ?_⟩, (Below.refl _ _).alloc (Nat.le_refl _) _⟩
  have : k = 0 ∨ k = 1 := by have := (List.getElem?_eq_some_iff.1 hk).1; simp at this; omega
  rcases this with rfl | rfl
  · cases hk; exact World.cell?_alloc_at _ _ _ _ rfl
  · cases hk; exact World.cell?_alloc_at _ _ _ _ rfl
set_option maxRecDepth 100000 in
set_option maxHeartbeats 4000000 in
theorem flds_38 (w : World) : Calls Try.prog 197 #[.int .i64 38] w fun e w' => e = .returned (.slice none 0 0) ∧ w' = w := by
  go_enter Try.func197, Try.ntmps197
  go_wp2
  go_ret
  exact ⟨rfl, rfl⟩
set_option maxRecDepth 100000 in
set_option maxHeartbeats 4000000 in
theorem flds_42 (w : World) : Calls Try.prog 197 #[.int .i64 42] w fun e w' => e = .returned (.slice (some ⟨w.heap.size, 0, none⟩) 1 1) ∧ FldAt w' w.heap.size [219] ∧ Below w.heap.size w w' := by
  go_enter Try.func197, Try.ntmps197
  go_wp2
  go_ret
  refine ⟨rfl, ⟨by simp, fun k f hk => ?_⟩, (Below.refl _ _).alloc (Nat.le_refl _) _⟩
  have : k = 0 := by have := (List.getElem?_eq_some_iff.1 hk).1; simp at this; omega
  rcases this with rfl
  · cases hk; exact World.cell?_alloc_at _ _ _ _ rfl
set_option maxRecDepth 100000 in
set_option maxHeartbeats 4000000 in
theorem word_2 (d n m a c i : Int) (b : Nat) (w : World) (hok : ok_2 d n m a c i = true) (hm : w.ownsMap Try.prog 3 (plainElem (H := Unit) Try.prog 54) b 42 DD) : Calls Try.prog 166 #[.agg #[.map (some b)], .agg #[.int .i64 2, .int .i64 d, .int .i64 n, .int .i64 m, .int .i64 a, .int .i64 c, .int .i64 i]] w fun e w' => e = .returned (.tuple #[.int .u32 (putS (putS (putS 3531603968 21 2 m) 5 16 i) 0 5 d), .int .i64 0]) ∧ Below w.heap.size w w' := by
  have HCK := Lib.hid (fun w => (by have := check_2 d n m a c i w; rw [hok] at this; exact this) : ∀ w, Calls Try.prog 31 #[.agg #[.int .i64 2, .int .i64 d, .int .i64 n, .int .i64 m, .int .i64 a, .int .i64 c, .int .i64 i]] w fun e w' => e = .returned (.int .i64 0) ∧ Below w.heap.size w w')
  have hB0 : (0 : Int) ≤ 3531603968 ∧ (3531603968 : Int) < 4294967296 := by decide
  simp only [ok_2, wi, Bool.and_eq_true, decide_eq_true_eq, beq_iff_eq] at hok
  have HOK := Lib.hid hok
  clear hok
  go_enter Try.func166, Try.ntmps166
  go_wp2_with fail
  have HM0 := Lib.hid (map_past (map_past hm ((Below.refl _ _).alloc (Nat.le_refl _) (.cells #[.map (some b)] 238))) ((Below.refl _ _).alloc (Nat.le_refl _) (.cells #[.int .i64 2, .int .i64 d, .int .i64 n, .int .i64 m, .int .i64 a, .int .i64 c, .int .i64 i] 29)))
  have HI0 := Lib.hid (InsC.new (w.alloc (.cells #[.map (some b)] 238)) (.int .i64 2) (.int .i64 d) (.int .i64 n) (.int .i64 m) (.int .i64 a) (.int .i64 c) (.int .i64 i))
  have HE0 : Hid (((w.alloc (.cells #[.map (some b)] 238)).alloc (.cells #[.int .i64 2, .int .i64 d, .int .i64 n, .int .i64 m, .int .i64 a, .int .i64 c, .int .i64 i] 29)).cell? ⟨w.heap.size, 0, none⟩ = some (.map (some b))) := Lib.hid (by simp)
  refine (HCK.out _).mono ?_
  rintro e w1 ⟨rfl, hb⟩
  have HB1 : Hid (Below w.heap.size w w1) := Lib.hid ((((Below.refl _ _).alloc (Nat.le_refl _) _).alloc (by simp) _).trans (hb.mono (by simp; omega)))
  have HI1 := Lib.hid (HI0.out.below' hb rfl)
  rw [World.size_alloc] at HI1
  have HM1 := Lib.hid (map_past HM0.out hb)
  have e1 := (hb.cell (p := ⟨w.heap.size, 0, none⟩) (by simp; omega)).trans HE0.out
  have hs1 : w.heap.size + 1 < w1.heap.size := HI1.out.1
  obtain ⟨hl, i0, i1, i2, i3, i4, i5, i6⟩ := HI1.out
  clear hb HI0 HM0 HE0 hm
  go_wp2_with (at_lookup; refine wpList_lookup_own_int _ rfl _ _ 235 rfl 3 54 .u32 law3 Try.underlying235 Try.underlying54 (zero25 _) b 42 _ rfl HM1.out _ _ rfl (keyOf_int_mk Try.underlying3 (by decide)) ?_; intro c' hat hwc; obtain rfl : c' = 3531603968 := (look_c _ _ hat).trans (by decide))
  clear hat hwc e1 HM1
  refine (flds_2 _).mono ?_
  rintro e w2 ⟨rfl, hf, hb⟩
  have HB2 := Lib.hid (HB1.out.trans (hb.mono HB1.out.size))
  have HI2 := Lib.hid (HI1.out.below' hb rfl)
  have HF2 := Lib.hid hf
  clear hl i0 i1 i2 i3 i4 i5 i6
  obtain ⟨g, hg⟩ : ∃ g, g = w1.heap.size := ⟨_, rfl⟩
  rw [← hg] at HF2
  rw [← hg]
  clear hb hf HI1 HB1 hg hs1
  go_wp2_with fail
  refine wp_loop_rounds 4 ?_
  rw [rounds_succ]
  obtain ⟨hl, i0, i1, i2, i3, i4, i5, i6⟩ := HI2.out
  have f0 := HF2.out.2 0 _ rfl
  go_wp2_with fail
  refine (lay_moved 2 d n m a c i 3531603968 _ hB0.1 hB0.2 (by have := HOK.out; omega) (by have := HOK.out; omega)).mono ?_
  rintro e w3 ⟨rfl, hb⟩
  have HB3 := Lib.hid (HB2.out.trans (hb.mono HB2.out.size))
  have HI3 := Lib.hid (HI2.out.below' hb rfl)
  have HF3 := Lib.hid (HF2.out.past hb rfl)
  clear hb hl i0 i1 i2 i3 i4 i5 i6 f0
  go_wp2
  rw [rounds_succ]
  obtain ⟨hl, i0, i1, i2, i3, i4, i5, i6⟩ := HI3.out
  have f1 := HF3.out.2 1 _ rfl
  go_wp2_with fail
  refine (lay_number 2 d n m a c i (putS 3531603968 21 2 m) _ (putS_lt 3531603968 21 2 m hB0.1 hB0.2).1 (putS_lt 3531603968 21 2 m hB0.1 hB0.2).2 (by have := HOK.out; omega) (by have := HOK.out; omega)).mono ?_
  rintro e w4 ⟨rfl, hb⟩
  have HB4 := Lib.hid (HB3.out.trans (hb.mono HB3.out.size))
  have HI4 := Lib.hid (HI3.out.below' hb rfl)
  have HF4 := Lib.hid (HF3.out.past hb rfl)
  clear hb hl i0 i1 i2 i3 i4 i5 i6 f1
  go_wp2
  rw [rounds_succ]
  obtain ⟨hl, i0, i1, i2, i3, i4, i5, i6⟩ := HI4.out
  have f2 := HF4.out.2 2 _ rfl
  go_wp2_with fail
  refine (lay_d 2 d n m a c i (putS (putS 3531603968 21 2 m) 5 16 i) _ (putS_lt (putS 3531603968 21 2 m) 5 16 i (putS_lt 3531603968 21 2 m hB0.1 hB0.2).1 (putS_lt 3531603968 21 2 m hB0.1 hB0.2).2).1 (putS_lt (putS 3531603968 21 2 m) 5 16 i (putS_lt 3531603968 21 2 m hB0.1 hB0.2).1 (putS_lt 3531603968 21 2 m hB0.1 hB0.2).2).2 (by have := HOK.out; omega) (by have := HOK.out; omega)).mono ?_
  rintro e w5 ⟨rfl, hb⟩
  have HB5 := Lib.hid (HB4.out.trans (hb.mono HB4.out.size))
  have HI5 := Lib.hid (HI4.out.below' hb rfl)
  have HF5 := Lib.hid (HF4.out.past hb rfl)
  clear hb hl i0 i1 i2 i3 i4 i5 i6 f2
  go_wp2
  rw [rounds_succ]
  go_wp2
  refine bodyPost_ret (v := .tuple #[.int .u32 (putS (putS (putS 3531603968 21 2 m) 5 16 i) 0 5 d), .int .i64 0]) (by simp [results, Try.results166, go_sem]) rfl ⟨rfl, HB5.out⟩
set_option maxRecDepth 100000 in
set_option maxHeartbeats 4000000 in
theorem word_6 (d n m a c i : Int) (b : Nat) (w : World) (hok : ok_6 d n m a c i = true) (hm : w.ownsMap Try.prog 3 (plainElem (H := Unit) Try.prog 54) b 42 DD) : Calls Try.prog 166 #[.agg #[.map (some b)], .agg #[.int .i64 6, .int .i64 d, .int .i64 n, .int .i64 m, .int .i64 a, .int .i64 c, .int .i64 i]] w fun e w' => e = .returned (.tuple #[.int .u32 (putS (putS (putS 4043309056 10 12 i) 5 5 n) 0 5 d), .int .i64 0]) ∧ Below w.heap.size w w' := by
  have HCK := Lib.hid (fun w => (by have := check_6 d n m a c i w; rw [hok] at this; exact this) : ∀ w, Calls Try.prog 31 #[.agg #[.int .i64 6, .int .i64 d, .int .i64 n, .int .i64 m, .int .i64 a, .int .i64 c, .int .i64 i]] w fun e w' => e = .returned (.int .i64 0) ∧ Below w.heap.size w w')
  have hB0 : (0 : Int) ≤ 4043309056 ∧ (4043309056 : Int) < 4294967296 := by decide
  simp only [ok_6, wi, Bool.and_eq_true, decide_eq_true_eq, beq_iff_eq] at hok
  have HOK := Lib.hid hok
  clear hok
  go_enter Try.func166, Try.ntmps166
  go_wp2_with fail
  have HM0 := Lib.hid (map_past (map_past hm ((Below.refl _ _).alloc (Nat.le_refl _) (.cells #[.map (some b)] 238))) ((Below.refl _ _).alloc (Nat.le_refl _) (.cells #[.int .i64 6, .int .i64 d, .int .i64 n, .int .i64 m, .int .i64 a, .int .i64 c, .int .i64 i] 29)))
  have HI0 := Lib.hid (InsC.new (w.alloc (.cells #[.map (some b)] 238)) (.int .i64 6) (.int .i64 d) (.int .i64 n) (.int .i64 m) (.int .i64 a) (.int .i64 c) (.int .i64 i))
  have HE0 : Hid (((w.alloc (.cells #[.map (some b)] 238)).alloc (.cells #[.int .i64 6, .int .i64 d, .int .i64 n, .int .i64 m, .int .i64 a, .int .i64 c, .int .i64 i] 29)).cell? ⟨w.heap.size, 0, none⟩ = some (.map (some b))) := Lib.hid (by simp)
  refine (HCK.out _).mono ?_
  rintro e w1 ⟨rfl, hb⟩
  have HB1 : Hid (Below w.heap.size w w1) := Lib.hid ((((Below.refl _ _).alloc (Nat.le_refl _) _).alloc (by simp) _).trans (hb.mono (by simp; omega)))
  have HI1 := Lib.hid (HI0.out.below' hb rfl)
  rw [World.size_alloc] at HI1
  have HM1 := Lib.hid (map_past HM0.out hb)
  have e1 := (hb.cell (p := ⟨w.heap.size, 0, none⟩) (by simp; omega)).trans HE0.out
  have hs1 : w.heap.size + 1 < w1.heap.size := HI1.out.1
  obtain ⟨hl, i0, i1, i2, i3, i4, i5, i6⟩ := HI1.out
  clear hb HI0 HM0 HE0 hm
  go_wp2_with (at_lookup; refine wpList_lookup_own_int _ rfl _ _ 235 rfl 3 54 .u32 law3 Try.underlying235 Try.underlying54 (zero25 _) b 42 _ rfl HM1.out _ _ rfl (keyOf_int_mk Try.underlying3 (by decide)) ?_; intro c' hat hwc; obtain rfl : c' = 4043309056 := (look_c _ _ hat).trans (by decide))
  clear hat hwc e1 HM1
  refine (flds_6 _).mono ?_
  rintro e w2 ⟨rfl, hf, hb⟩
  have HB2 := Lib.hid (HB1.out.trans (hb.mono HB1.out.size))
  have HI2 := Lib.hid (HI1.out.below' hb rfl)
  have HF2 := Lib.hid hf
  clear hl i0 i1 i2 i3 i4 i5 i6
  obtain ⟨g, hg⟩ : ∃ g, g = w1.heap.size := ⟨_, rfl⟩
  rw [← hg] at HF2
  rw [← hg]
  clear hb hf HI1 HB1 hg hs1
  go_wp2_with fail
  refine wp_loop_rounds 4 ?_
  rw [rounds_succ]
  obtain ⟨hl, i0, i1, i2, i3, i4, i5, i6⟩ := HI2.out
  have f0 := HF2.out.2 0 _ rfl
  go_wp2_with fail
  refine (lay_small 6 d n m a c i 4043309056 _ hB0.1 hB0.2 (by have := HOK.out; omega) (by have := HOK.out; omega)).mono ?_
  rintro e w3 ⟨rfl, hb⟩
  have HB3 := Lib.hid (HB2.out.trans (hb.mono HB2.out.size))
  have HI3 := Lib.hid (HI2.out.below' hb rfl)
  have HF3 := Lib.hid (HF2.out.past hb rfl)
  clear hb hl i0 i1 i2 i3 i4 i5 i6 f0
  go_wp2
  rw [rounds_succ]
  obtain ⟨hl, i0, i1, i2, i3, i4, i5, i6⟩ := HI3.out
  have f1 := HF3.out.2 1 _ rfl
  go_wp2_with fail
  refine (lay_n 6 d n m a c i (putS 4043309056 10 12 i) _ (putS_lt 4043309056 10 12 i hB0.1 hB0.2).1 (putS_lt 4043309056 10 12 i hB0.1 hB0.2).2 (by have := HOK.out; omega) (by have := HOK.out; omega)).mono ?_
  rintro e w4 ⟨rfl, hb⟩
  have HB4 := Lib.hid (HB3.out.trans (hb.mono HB3.out.size))
  have HI4 := Lib.hid (HI3.out.below' hb rfl)
  have HF4 := Lib.hid (HF3.out.past hb rfl)
  clear hb hl i0 i1 i2 i3 i4 i5 i6 f1
  go_wp2
  rw [rounds_succ]
  obtain ⟨hl, i0, i1, i2, i3, i4, i5, i6⟩ := HI4.out
  have f2 := HF4.out.2 2 _ rfl
  go_wp2_with fail
  refine (lay_d 6 d n m a c i (putS (putS 4043309056 10 12 i) 5 5 n) _ (putS_lt (putS 4043309056 10 12 i) 5 5 n (putS_lt 4043309056 10 12 i hB0.1 hB0.2).1 (putS_lt 4043309056 10 12 i hB0.1 hB0.2).2).1 (putS_lt (putS 4043309056 10 12 i) 5 5 n (putS_lt 4043309056 10 12 i hB0.1 hB0.2).1 (putS_lt 4043309056 10 12 i hB0.1 hB0.2).2).2 (by have := HOK.out; omega) (by have := HOK.out; omega)).mono ?_
  rintro e w5 ⟨rfl, hb⟩
  have HB5 := Lib.hid (HB4.out.trans (hb.mono HB4.out.size))
  have HI5 := Lib.hid (HI4.out.below' hb rfl)
  have HF5 := Lib.hid (HF4.out.past hb rfl)
  clear hb hl i0 i1 i2 i3 i4 i5 i6 f2
  go_wp2
  rw [rounds_succ]
  go_wp2
  refine bodyPost_ret (v := .tuple #[.int .u32 (putS (putS (putS 4043309056 10 12 i) 5 5 n) 0 5 d), .int .i64 0]) (by simp [results, Try.results166, go_sem]) rfl ⟨rfl, HB5.out⟩
set_option maxRecDepth 100000 in
set_option maxHeartbeats 4000000 in
theorem word_10 (d n m a c i : Int) (b : Nat) (w : World) (hok : ok_10 d n m a c i = true) (hm : w.ownsMap Try.prog 3 (plainElem (H := Unit) Try.prog 54) b 42 DD) : Calls Try.prog 166 #[.agg #[.map (some b)], .agg #[.int .i64 10, .int .i64 d, .int .i64 n, .int .i64 m, .int .i64 a, .int .i64 c, .int .i64 i]] w fun e w' => e = .returned (.tuple #[.int .u32 (putS (putS (putS 2315255808 16 5 m) 5 5 n) 0 5 d), .int .i64 0]) ∧ Below w.heap.size w w' := by
  have HCK := Lib.hid (fun w => (by have := check_10 d n m a c i w; rw [hok] at this; exact this) : ∀ w, Calls Try.prog 31 #[.agg #[.int .i64 10, .int .i64 d, .int .i64 n, .int .i64 m, .int .i64 a, .int .i64 c, .int .i64 i]] w fun e w' => e = .returned (.int .i64 0) ∧ Below w.heap.size w w')
  have hB0 : (0 : Int) ≤ 2315255808 ∧ (2315255808 : Int) < 4294967296 := by decide
  simp only [ok_10, wi, Bool.and_eq_true, decide_eq_true_eq, beq_iff_eq] at hok
  have HOK := Lib.hid hok
  clear hok
  go_enter Try.func166, Try.ntmps166
  go_wp2_with fail
  have HM0 := Lib.hid (map_past (map_past hm ((Below.refl _ _).alloc (Nat.le_refl _) (.cells #[.map (some b)] 238))) ((Below.refl _ _).alloc (Nat.le_refl _) (.cells #[.int .i64 10, .int .i64 d, .int .i64 n, .int .i64 m, .int .i64 a, .int .i64 c, .int .i64 i] 29)))
  have HI0 := Lib.hid (InsC.new (w.alloc (.cells #[.map (some b)] 238)) (.int .i64 10) (.int .i64 d) (.int .i64 n) (.int .i64 m) (.int .i64 a) (.int .i64 c) (.int .i64 i))
  have HE0 : Hid (((w.alloc (.cells #[.map (some b)] 238)).alloc (.cells #[.int .i64 10, .int .i64 d, .int .i64 n, .int .i64 m, .int .i64 a, .int .i64 c, .int .i64 i] 29)).cell? ⟨w.heap.size, 0, none⟩ = some (.map (some b))) := Lib.hid (by simp)
  refine (HCK.out _).mono ?_
  rintro e w1 ⟨rfl, hb⟩
  have HB1 : Hid (Below w.heap.size w w1) := Lib.hid ((((Below.refl _ _).alloc (Nat.le_refl _) _).alloc (by simp) _).trans (hb.mono (by simp; omega)))
  have HI1 := Lib.hid (HI0.out.below' hb rfl)
  rw [World.size_alloc] at HI1
  have HM1 := Lib.hid (map_past HM0.out hb)
  have e1 := (hb.cell (p := ⟨w.heap.size, 0, none⟩) (by simp; omega)).trans HE0.out
  have hs1 : w.heap.size + 1 < w1.heap.size := HI1.out.1
  obtain ⟨hl, i0, i1, i2, i3, i4, i5, i6⟩ := HI1.out
  clear hb HI0 HM0 HE0 hm
  go_wp2_with (at_lookup; refine wpList_lookup_own_int _ rfl _ _ 235 rfl 3 54 .u32 law3 Try.underlying235 Try.underlying54 (zero25 _) b 42 _ rfl HM1.out _ _ rfl (keyOf_int_mk Try.underlying3 (by decide)) ?_; intro c' hat hwc; obtain rfl : c' = 2315255808 := (look_c _ _ hat).trans (by decide))
  clear hat hwc e1 HM1
  refine (flds_10 _).mono ?_
  rintro e w2 ⟨rfl, hf, hb⟩
  have HB2 := Lib.hid (HB1.out.trans (hb.mono HB1.out.size))
  have HI2 := Lib.hid (HI1.out.below' hb rfl)
  have HF2 := Lib.hid hf
  clear hl i0 i1 i2 i3 i4 i5 i6
  obtain ⟨g, hg⟩ : ∃ g, g = w1.heap.size := ⟨_, rfl⟩
  rw [← hg] at HF2
  rw [← hg]
  clear hb hf HI1 HB1 hg hs1
  go_wp2_with fail
  refine wp_loop_rounds 4 ?_
  rw [rounds_succ]
  obtain ⟨hl, i0, i1, i2, i3, i4, i5, i6⟩ := HI2.out
  have f0 := HF2.out.2 0 _ rfl
  go_wp2_with fail
  refine (lay_m 10 d n m a c i 2315255808 _ hB0.1 hB0.2 (by have := HOK.out; omega) (by have := HOK.out; omega)).mono ?_
  rintro e w3 ⟨rfl, hb⟩
  have HB3 := Lib.hid (HB2.out.trans (hb.mono HB2.out.size))
  have HI3 := Lib.hid (HI2.out.below' hb rfl)
  have HF3 := Lib.hid (HF2.out.past hb rfl)
  clear hb hl i0 i1 i2 i3 i4 i5 i6 f0
  go_wp2
  rw [rounds_succ]
  obtain ⟨hl, i0, i1, i2, i3, i4, i5, i6⟩ := HI3.out
  have f1 := HF3.out.2 1 _ rfl
  go_wp2_with fail
  refine (lay_n 10 d n m a c i (putS 2315255808 16 5 m) _ (putS_lt 2315255808 16 5 m hB0.1 hB0.2).1 (putS_lt 2315255808 16 5 m hB0.1 hB0.2).2 (by have := HOK.out; omega) (by have := HOK.out; omega)).mono ?_
  rintro e w4 ⟨rfl, hb⟩
  have HB4 := Lib.hid (HB3.out.trans (hb.mono HB3.out.size))
  have HI4 := Lib.hid (HI3.out.below' hb rfl)
  have HF4 := Lib.hid (HF3.out.past hb rfl)
  clear hb hl i0 i1 i2 i3 i4 i5 i6 f1
  go_wp2
  rw [rounds_succ]
  obtain ⟨hl, i0, i1, i2, i3, i4, i5, i6⟩ := HI4.out
  have f2 := HF4.out.2 2 _ rfl
  go_wp2_with fail
  refine (lay_d 10 d n m a c i (putS (putS 2315255808 16 5 m) 5 5 n) _ (putS_lt (putS 2315255808 16 5 m) 5 5 n (putS_lt 2315255808 16 5 m hB0.1 hB0.2).1 (putS_lt 2315255808 16 5 m hB0.1 hB0.2).2).1 (putS_lt (putS 2315255808 16 5 m) 5 5 n (putS_lt 2315255808 16 5 m hB0.1 hB0.2).1 (putS_lt 2315255808 16 5 m hB0.1 hB0.2).2).2 (by have := HOK.out; omega) (by have := HOK.out; omega)).mono ?_
  rintro e w5 ⟨rfl, hb⟩
  have HB5 := Lib.hid (HB4.out.trans (hb.mono HB4.out.size))
  have HI5 := Lib.hid (HI4.out.below' hb rfl)
  have HF5 := Lib.hid (HF4.out.past hb rfl)
  clear hb hl i0 i1 i2 i3 i4 i5 i6 f2
  go_wp2
  rw [rounds_succ]
  go_wp2
  refine bodyPost_ret (v := .tuple #[.int .u32 (putS (putS (putS 2315255808 16 5 m) 5 5 n) 0 5 d), .int .i64 0]) (by simp [results, Try.results166, go_sem]) rfl ⟨rfl, HB5.out⟩
set_option maxRecDepth 100000 in
set_option maxHeartbeats 4000000 in
theorem word_14 (d n m a c i : Int) (b : Nat) (w : World) (hok : ok_14 d n m a c i = true) (hm : w.ownsMap Try.prog 3 (plainElem (H := Unit) Try.prog 54) b 42 DD) : Calls Try.prog 166 #[.agg #[.map (some b)], .agg #[.int .i64 14, .int .i64 d, .int .i64 n, .int .i64 m, .int .i64 a, .int .i64 c, .int .i64 i]] w fun e w' => e = .returned (.tuple #[.int .u32 (putS (putS (putS (putS 2600501248 16 5 m) 10 5 a) 5 5 n) 0 5 d), .int .i64 0]) ∧ Below w.heap.size w w' := by
  have HCK := Lib.hid (fun w => (by have := check_14 d n m a c i w; rw [hok] at this; exact this) : ∀ w, Calls Try.prog 31 #[.agg #[.int .i64 14, .int .i64 d, .int .i64 n, .int .i64 m, .int .i64 a, .int .i64 c, .int .i64 i]] w fun e w' => e = .returned (.int .i64 0) ∧ Below w.heap.size w w')
  have hB0 : (0 : Int) ≤ 2600501248 ∧ (2600501248 : Int) < 4294967296 := by decide
  simp only [ok_14, wi, Bool.and_eq_true, decide_eq_true_eq, beq_iff_eq] at hok
  have HOK := Lib.hid hok
  clear hok
  go_enter Try.func166, Try.ntmps166
  go_wp2_with fail
  have HM0 := Lib.hid (map_past (map_past hm ((Below.refl _ _).alloc (Nat.le_refl _) (.cells #[.map (some b)] 238))) ((Below.refl _ _).alloc (Nat.le_refl _) (.cells #[.int .i64 14, .int .i64 d, .int .i64 n, .int .i64 m, .int .i64 a, .int .i64 c, .int .i64 i] 29)))
  have HI0 := Lib.hid (InsC.new (w.alloc (.cells #[.map (some b)] 238)) (.int .i64 14) (.int .i64 d) (.int .i64 n) (.int .i64 m) (.int .i64 a) (.int .i64 c) (.int .i64 i))
  have HE0 : Hid (((w.alloc (.cells #[.map (some b)] 238)).alloc (.cells #[.int .i64 14, .int .i64 d, .int .i64 n, .int .i64 m, .int .i64 a, .int .i64 c, .int .i64 i] 29)).cell? ⟨w.heap.size, 0, none⟩ = some (.map (some b))) := Lib.hid (by simp)
  refine (HCK.out _).mono ?_
  rintro e w1 ⟨rfl, hb⟩
  have HB1 : Hid (Below w.heap.size w w1) := Lib.hid ((((Below.refl _ _).alloc (Nat.le_refl _) _).alloc (by simp) _).trans (hb.mono (by simp; omega)))
  have HI1 := Lib.hid (HI0.out.below' hb rfl)
  rw [World.size_alloc] at HI1
  have HM1 := Lib.hid (map_past HM0.out hb)
  have e1 := (hb.cell (p := ⟨w.heap.size, 0, none⟩) (by simp; omega)).trans HE0.out
  have hs1 : w.heap.size + 1 < w1.heap.size := HI1.out.1
  obtain ⟨hl, i0, i1, i2, i3, i4, i5, i6⟩ := HI1.out
  clear hb HI0 HM0 HE0 hm
  go_wp2_with (at_lookup; refine wpList_lookup_own_int _ rfl _ _ 235 rfl 3 54 .u32 law3 Try.underlying235 Try.underlying54 (zero25 _) b 42 _ rfl HM1.out _ _ rfl (keyOf_int_mk Try.underlying3 (by decide)) ?_; intro c' hat hwc; obtain rfl : c' = 2600501248 := (look_c _ _ hat).trans (by decide))
  clear hat hwc e1 HM1
  refine (flds_14 _).mono ?_
  rintro e w2 ⟨rfl, hf, hb⟩
  have HB2 := Lib.hid (HB1.out.trans (hb.mono HB1.out.size))
  have HI2 := Lib.hid (HI1.out.below' hb rfl)
  have HF2 := Lib.hid hf
  clear hl i0 i1 i2 i3 i4 i5 i6
  obtain ⟨g, hg⟩ : ∃ g, g = w1.heap.size := ⟨_, rfl⟩
  rw [← hg] at HF2
  rw [← hg]
  clear hb hf HI1 HB1 hg hs1
  go_wp2_with fail
  refine wp_loop_rounds 5 ?_
  rw [rounds_succ]
  obtain ⟨hl, i0, i1, i2, i3, i4, i5, i6⟩ := HI2.out
  have f0 := HF2.out.2 0 _ rfl
  go_wp2_with fail
  refine (lay_m 14 d n m a c i 2600501248 _ hB0.1 hB0.2 (by have := HOK.out; omega) (by have := HOK.out; omega)).mono ?_
  rintro e w3 ⟨rfl, hb⟩
  have HB3 := Lib.hid (HB2.out.trans (hb.mono HB2.out.size))
  have HI3 := Lib.hid (HI2.out.below' hb rfl)
  have HF3 := Lib.hid (HF2.out.past hb rfl)
  clear hb hl i0 i1 i2 i3 i4 i5 i6 f0
  go_wp2
  rw [rounds_succ]
  obtain ⟨hl, i0, i1, i2, i3, i4, i5, i6⟩ := HI3.out
  have f1 := HF3.out.2 1 _ rfl
  go_wp2_with fail
  refine (lay_a 14 d n m a c i (putS 2600501248 16 5 m) _ (putS_lt 2600501248 16 5 m hB0.1 hB0.2).1 (putS_lt 2600501248 16 5 m hB0.1 hB0.2).2 (by have := HOK.out; omega) (by have := HOK.out; omega)).mono ?_
  rintro e w4 ⟨rfl, hb⟩
  have HB4 := Lib.hid (HB3.out.trans (hb.mono HB3.out.size))
  have HI4 := Lib.hid (HI3.out.below' hb rfl)
  have HF4 := Lib.hid (HF3.out.past hb rfl)
  clear hb hl i0 i1 i2 i3 i4 i5 i6 f1
  go_wp2
  rw [rounds_succ]
  obtain ⟨hl, i0, i1, i2, i3, i4, i5, i6⟩ := HI4.out
  have f2 := HF4.out.2 2 _ rfl
  go_wp2_with fail
  refine (lay_n 14 d n m a c i (putS (putS 2600501248 16 5 m) 10 5 a) _ (putS_lt (putS 2600501248 16 5 m) 10 5 a (putS_lt 2600501248 16 5 m hB0.1 hB0.2).1 (putS_lt 2600501248 16 5 m hB0.1 hB0.2).2).1 (putS_lt (putS 2600501248 16 5 m) 10 5 a (putS_lt 2600501248 16 5 m hB0.1 hB0.2).1 (putS_lt 2600501248 16 5 m hB0.1 hB0.2).2).2 (by have := HOK.out; omega) (by have := HOK.out; omega)).mono ?_
  rintro e w5 ⟨rfl, hb⟩
  have HB5 := Lib.hid (HB4.out.trans (hb.mono HB4.out.size))
  have HI5 := Lib.hid (HI4.out.below' hb rfl)
  have HF5 := Lib.hid (HF4.out.past hb rfl)
  clear hb hl i0 i1 i2 i3 i4 i5 i6 f2
  go_wp2
  rw [rounds_succ]
  obtain ⟨hl, i0, i1, i2, i3, i4, i5, i6⟩ := HI5.out
  have f3 := HF5.out.2 3 _ rfl
  go_wp2_with fail
  refine (lay_d 14 d n m a c i (putS (putS (putS 2600501248 16 5 m) 10 5 a) 5 5 n) _ (putS_lt (putS (putS 2600501248 16 5 m) 10 5 a) 5 5 n (putS_lt (putS 2600501248 16 5 m) 10 5 a (putS_lt 2600501248 16 5 m hB0.1 hB0.2).1 (putS_lt 2600501248 16 5 m hB0.1 hB0.2).2).1 (putS_lt (putS 2600501248 16 5 m) 10 5 a (putS_lt 2600501248 16 5 m hB0.1 hB0.2).1 (putS_lt 2600501248 16 5 m hB0.1 hB0.2).2).2).1 (putS_lt (putS (putS 2600501248 16 5 m) 10 5 a) 5 5 n (putS_lt (putS 2600501248 16 5 m) 10 5 a (putS_lt 2600501248 16 5 m hB0.1 hB0.2).1 (putS_lt 2600501248 16 5 m hB0.1 hB0.2).2).1 (putS_lt (putS 2600501248 16 5 m) 10 5 a (putS_lt 2600501248 16 5 m hB0.1 hB0.2).1 (putS_lt 2600501248 16 5 m hB0.1 hB0.2).2).2).2 (by have := HOK.out; omega) (by have := HOK.out; omega)).mono ?_
  rintro e w6 ⟨rfl, hb⟩
  have HB6 := Lib.hid (HB5.out.trans (hb.mono HB5.out.size))
  have HI6 := Lib.hid (HI5.out.below' hb rfl)
  have HF6 := Lib.hid (HF5.out.past hb rfl)
  clear hb hl i0 i1 i2 i3 i4 i5 i6 f3
  go_wp2
  rw [rounds_succ]
  go_wp2
  refine bodyPost_ret (v := .tuple #[.int .u32 (putS (putS (putS (putS 2600501248 16 5 m) 10 5 a) 5 5 n) 0 5 d), .int .i64 0]) (by simp [results, Try.results166, go_sem]) rfl ⟨rfl, HB6.out⟩
set_option maxRecDepth 100000 in
set_option maxHeartbeats 4000000 in
theorem word_18 (d n m a c i : Int) (b : Nat) (w : World) (hok : ok_18 d n m a c i = true) (hm : w.ownsMap Try.prog 3 (plainElem (H := Unit) Try.prog 54) b 42 DD) : Calls Try.prog 166 #[.agg #[.map (some b)], .agg #[.int .i64 18, .int .i64 d, .int .i64 n, .int .i64 m, .int .i64 a, .int .i64 c, .int .i64 i]] w fun e w' => e = .returned (.tuple #[.int .u32 (putS (putS (putS 2596284416 16 5 m) 5 5 n) 0 5 d), .int .i64 0]) ∧ Below w.heap.size w w' := by
  have HCK := Lib.hid (fun w => (by have := check_18 d n m a c i w; rw [hok] at this; exact this) : ∀ w, Calls Try.prog 31 #[.agg #[.int .i64 18, .int .i64 d, .int .i64 n, .int .i64 m, .int .i64 a, .int .i64 c, .int .i64 i]] w fun e w' => e = .returned (.int .i64 0) ∧ Below w.heap.size w w')
  have hB0 : (0 : Int) ≤ 2596284416 ∧ (2596284416 : Int) < 4294967296 := by decide
  simp only [ok_18, wi, Bool.and_eq_true, decide_eq_true_eq, beq_iff_eq] at hok
  have HOK := Lib.hid hok
  clear hok
  go_enter Try.func166, Try.ntmps166
  go_wp2_with fail
  have HM0 := Lib.hid (map_past (map_past hm ((Below.refl _ _).alloc (Nat.le_refl _) (.cells #[.map (some b)] 238))) ((Below.refl _ _).alloc (Nat.le_refl _) (.cells #[.int .i64 18, .int .i64 d, .int .i64 n, .int .i64 m, .int .i64 a, .int .i64 c, .int .i64 i] 29)))
  have HI0 := Lib.hid (InsC.new (w.alloc (.cells #[.map (some b)] 238)) (.int .i64 18) (.int .i64 d) (.int .i64 n) (.int .i64 m) (.int .i64 a) (.int .i64 c) (.int .i64 i))
  have HE0 : Hid (((w.alloc (.cells #[.map (some b)] 238)).alloc (.cells #[.int .i64 18, .int .i64 d, .int .i64 n, .int .i64 m, .int .i64 a, .int .i64 c, .int .i64 i] 29)).cell? ⟨w.heap.size, 0, none⟩ = some (.map (some b))) := Lib.hid (by simp)
  refine (HCK.out _).mono ?_
  rintro e w1 ⟨rfl, hb⟩
  have HB1 : Hid (Below w.heap.size w w1) := Lib.hid ((((Below.refl _ _).alloc (Nat.le_refl _) _).alloc (by simp) _).trans (hb.mono (by simp; omega)))
  have HI1 := Lib.hid (HI0.out.below' hb rfl)
  rw [World.size_alloc] at HI1
  have HM1 := Lib.hid (map_past HM0.out hb)
  have e1 := (hb.cell (p := ⟨w.heap.size, 0, none⟩) (by simp; omega)).trans HE0.out
  have hs1 : w.heap.size + 1 < w1.heap.size := HI1.out.1
  obtain ⟨hl, i0, i1, i2, i3, i4, i5, i6⟩ := HI1.out
  clear hb HI0 HM0 HE0 hm
  go_wp2_with (at_lookup; refine wpList_lookup_own_int _ rfl _ _ 235 rfl 3 54 .u32 law3 Try.underlying235 Try.underlying54 (zero25 _) b 42 _ rfl HM1.out _ _ rfl (keyOf_int_mk Try.underlying3 (by decide)) ?_; intro c' hat hwc; obtain rfl : c' = 2596284416 := (look_c _ _ hat).trans (by decide))
  clear hat hwc e1 HM1
  refine (flds_18 _).mono ?_
  rintro e w2 ⟨rfl, hf, hb⟩
  have HB2 := Lib.hid (HB1.out.trans (hb.mono HB1.out.size))
  have HI2 := Lib.hid (HI1.out.below' hb rfl)
  have HF2 := Lib.hid hf
  clear hl i0 i1 i2 i3 i4 i5 i6
  obtain ⟨g, hg⟩ : ∃ g, g = w1.heap.size := ⟨_, rfl⟩
  rw [← hg] at HF2
  rw [← hg]
  clear hb hf HI1 HB1 hg hs1
  go_wp2_with fail
  refine wp_loop_rounds 4 ?_
  rw [rounds_succ]
  obtain ⟨hl, i0, i1, i2, i3, i4, i5, i6⟩ := HI2.out
  have f0 := HF2.out.2 0 _ rfl
  go_wp2_with fail
  refine (lay_m 18 d n m a c i 2596284416 _ hB0.1 hB0.2 (by have := HOK.out; omega) (by have := HOK.out; omega)).mono ?_
  rintro e w3 ⟨rfl, hb⟩
  have HB3 := Lib.hid (HB2.out.trans (hb.mono HB2.out.size))
  have HI3 := Lib.hid (HI2.out.below' hb rfl)
  have HF3 := Lib.hid (HF2.out.past hb rfl)
  clear hb hl i0 i1 i2 i3 i4 i5 i6 f0
  go_wp2
  rw [rounds_succ]
  obtain ⟨hl, i0, i1, i2, i3, i4, i5, i6⟩ := HI3.out
  have f1 := HF3.out.2 1 _ rfl
  go_wp2_with fail
  refine (lay_n 18 d n m a c i (putS 2596284416 16 5 m) _ (putS_lt 2596284416 16 5 m hB0.1 hB0.2).1 (putS_lt 2596284416 16 5 m hB0.1 hB0.2).2 (by have := HOK.out; omega) (by have := HOK.out; omega)).mono ?_
  rintro e w4 ⟨rfl, hb⟩
  have HB4 := Lib.hid (HB3.out.trans (hb.mono HB3.out.size))
  have HI4 := Lib.hid (HI3.out.below' hb rfl)
  have HF4 := Lib.hid (HF3.out.past hb rfl)
  clear hb hl i0 i1 i2 i3 i4 i5 i6 f1
  go_wp2
  rw [rounds_succ]
  obtain ⟨hl, i0, i1, i2, i3, i4, i5, i6⟩ := HI4.out
  have f2 := HF4.out.2 2 _ rfl
  go_wp2_with fail
  refine (lay_d 18 d n m a c i (putS (putS 2596284416 16 5 m) 5 5 n) _ (putS_lt (putS 2596284416 16 5 m) 5 5 n (putS_lt 2596284416 16 5 m hB0.1 hB0.2).1 (putS_lt 2596284416 16 5 m hB0.1 hB0.2).2).1 (putS_lt (putS 2596284416 16 5 m) 5 5 n (putS_lt 2596284416 16 5 m hB0.1 hB0.2).1 (putS_lt 2596284416 16 5 m hB0.1 hB0.2).2).2 (by have := HOK.out; omega) (by have := HOK.out; omega)).mono ?_
  rintro e w5 ⟨rfl, hb⟩
  have HB5 := Lib.hid (HB4.out.trans (hb.mono HB4.out.size))
  have HI5 := Lib.hid (HI4.out.below' hb rfl)
  have HF5 := Lib.hid (HF4.out.past hb rfl)
  clear hb hl i0 i1 i2 i3 i4 i5 i6 f2
  go_wp2
  rw [rounds_succ]
  go_wp2
  refine bodyPost_ret (v := .tuple #[.int .u32 (putS (putS (putS 2596284416 16 5 m) 5 5 n) 0 5 d), .int .i64 0]) (by simp [results, Try.results166, go_sem]) rfl ⟨rfl, HB5.out⟩
set_option maxRecDepth 100000 in
set_option maxHeartbeats 4000000 in
theorem word_22 (d n m a c i : Int) (b : Nat) (w : World) (hok : ok_22 d n m a c i = true) (hm : w.ownsMap Try.prog 3 (plainElem (H := Unit) Try.prog 54) b 42 DD) : Calls Try.prog 166 #[.agg #[.map (some b)], .agg #[.int .i64 22, .int .i64 d, .int .i64 n, .int .i64 m, .int .i64 a, .int .i64 c, .int .i64 i]] w fun e w' => e = .returned (.tuple #[.int .u32 (putS (putS 3019898880 5 19 (i / 4 % 4294967296)) 0 5 d), .int .i64 0]) ∧ Below w.heap.size w w' := by
  have HCK := Lib.hid (fun w => (by have := check_22 d n m a c i w; rw [hok] at this; exact this) : ∀ w, Calls Try.prog 31 #[.agg #[.int .i64 22, .int .i64 d, .int .i64 n, .int .i64 m, .int .i64 a, .int .i64 c, .int .i64 i]] w fun e w' => e = .returned (.int .i64 0) ∧ Below w.heap.size w w')
  have hB0 : (0 : Int) ≤ 3019898880 ∧ (3019898880 : Int) < 4294967296 := by decide
  simp only [ok_22, wi, wm, Bool.and_eq_true, decide_eq_true_eq, beq_iff_eq] at hok
  have HOK := Lib.hid hok
  clear hok
  go_enter Try.func166, Try.ntmps166
  go_wp2_with fail
  have HM0 := Lib.hid (map_past (map_past hm ((Below.refl _ _).alloc (Nat.le_refl _) (.cells #[.map (some b)] 238))) ((Below.refl _ _).alloc (Nat.le_refl _) (.cells #[.int .i64 22, .int .i64 d, .int .i64 n, .int .i64 m, .int .i64 a, .int .i64 c, .int .i64 i] 29)))
  have HI0 := Lib.hid (InsC.new (w.alloc (.cells #[.map (some b)] 238)) (.int .i64 22) (.int .i64 d) (.int .i64 n) (.int .i64 m) (.int .i64 a) (.int .i64 c) (.int .i64 i))
  have HE0 : Hid (((w.alloc (.cells #[.map (some b)] 238)).alloc (.cells #[.int .i64 22, .int .i64 d, .int .i64 n, .int .i64 m, .int .i64 a, .int .i64 c, .int .i64 i] 29)).cell? ⟨w.heap.size, 0, none⟩ = some (.map (some b))) := Lib.hid (by simp)
  refine (HCK.out _).mono ?_
  rintro e w1 ⟨rfl, hb⟩
  have HB1 : Hid (Below w.heap.size w w1) := Lib.hid ((((Below.refl _ _).alloc (Nat.le_refl _) _).alloc (by simp) _).trans (hb.mono (by simp; omega)))
  have HI1 := Lib.hid (HI0.out.below' hb rfl)
  rw [World.size_alloc] at HI1
  have HM1 := Lib.hid (map_past HM0.out hb)
  have e1 := (hb.cell (p := ⟨w.heap.size, 0, none⟩) (by simp; omega)).trans HE0.out
  have hs1 : w.heap.size + 1 < w1.heap.size := HI1.out.1
  obtain ⟨hl, i0, i1, i2, i3, i4, i5, i6⟩ := HI1.out
  clear hb HI0 HM0 HE0 hm
  go_wp2_with (at_lookup; refine wpList_lookup_own_int _ rfl _ _ 235 rfl 3 54 .u32 law3 Try.underlying235 Try.underlying54 (zero25 _) b 42 _ rfl HM1.out _ _ rfl (keyOf_int_mk Try.underlying3 (by decide)) ?_; intro c' hat hwc; obtain rfl : c' = 3019898880 := (look_c _ _ hat).trans (by decide))
  clear hat hwc e1 HM1
  refine (flds_22 _).mono ?_
  rintro e w2 ⟨rfl, hf, hb⟩
  have HB2 := Lib.hid (HB1.out.trans (hb.mono HB1.out.size))
  have HI2 := Lib.hid (HI1.out.below' hb rfl)
  have HF2 := Lib.hid hf
  clear hl i0 i1 i2 i3 i4 i5 i6
  obtain ⟨g, hg⟩ : ∃ g, g = w1.heap.size := ⟨_, rfl⟩
  rw [← hg] at HF2
  rw [← hg]
  clear hb hf HI1 HB1 hg hs1
  go_wp2_with fail
  refine wp_loop_rounds 3 ?_
  rw [rounds_succ]
  obtain ⟨hl, i0, i1, i2, i3, i4, i5, i6⟩ := HI2.out
  have f0 := HF2.out.2 0 _ rfl
  go_wp2_with fail
  refine (lay_near 22 d n m a c i 3019898880 (i / 4) _ hB0.1 hB0.2 (by have := HOK.out; omega) (by have := HOK.out; omega) (by have := HOK.out; omega)).mono ?_
  rintro e w3 ⟨rfl, hb⟩
  have HB3 := Lib.hid (HB2.out.trans (hb.mono HB2.out.size))
  have HI3 := Lib.hid (HI2.out.below' hb rfl)
  have HF3 := Lib.hid (HF2.out.past hb rfl)
  clear hb hl i0 i1 i2 i3 i4 i5 i6 f0
  go_wp2
  rw [rounds_succ]
  obtain ⟨hl, i0, i1, i2, i3, i4, i5, i6⟩ := HI3.out
  have f1 := HF3.out.2 1 _ rfl
  go_wp2_with fail
  refine (lay_d 22 d n m a c i (putS 3019898880 5 19 (i / 4 % 4294967296)) _ (putS_lt 3019898880 5 19 (i / 4 % 4294967296) hB0.1 hB0.2).1 (putS_lt 3019898880 5 19 (i / 4 % 4294967296) hB0.1 hB0.2).2 (by have := HOK.out; omega) (by have := HOK.out; omega)).mono ?_
  rintro e w4 ⟨rfl, hb⟩
  have HB4 := Lib.hid (HB3.out.trans (hb.mono HB3.out.size))
  have HI4 := Lib.hid (HI3.out.below' hb rfl)
  have HF4 := Lib.hid (HF3.out.past hb rfl)
  clear hb hl i0 i1 i2 i3 i4 i5 i6 f1
  go_wp2
  rw [rounds_succ]
  go_wp2
  refine bodyPost_ret (v := .tuple #[.int .u32 (putS (putS 3019898880 5 19 (i / 4 % 4294967296)) 0 5 d), .int .i64 0]) (by simp [results, Try.results166, go_sem]) rfl ⟨rfl, HB4.out⟩
set_option maxRecDepth 100000 in
set_option maxHeartbeats 4000000 in
theorem word_26 (d n m a c i : Int) (b : Nat) (w : World) (hok : ok_26 d n m a c i = true) (hm : w.ownsMap Try.prog 3 (plainElem (H := Unit) Try.prog 54) b 42 DD) : Calls Try.prog 166 #[.agg #[.map (some b)], .agg #[.int .i64 26, .int .i64 d, .int .i64 n, .int .i64 m, .int .i64 a, .int .i64 c, .int .i64 i]] w fun e w' => e = .returned (.tuple #[.int .u32 (putS 3594452992 5 5 n), .int .i64 0]) ∧ Below w.heap.size w w' := by
  have HCK := Lib.hid (fun w => (by have := check_26 d n m a c i w; rw [hok] at this; exact this) : ∀ w, Calls Try.prog 31 #[.agg #[.int .i64 26, .int .i64 d, .int .i64 n, .int .i64 m, .int .i64 a, .int .i64 c, .int .i64 i]] w fun e w' => e = .returned (.int .i64 0) ∧ Below w.heap.size w w')
  have hB0 : (0 : Int) ≤ 3594452992 ∧ (3594452992 : Int) < 4294967296 := by decide
  simp only [ok_26, wi, Bool.and_eq_true, decide_eq_true_eq, beq_iff_eq] at hok
  have HOK := Lib.hid hok
  clear hok
  go_enter Try.func166, Try.ntmps166
  go_wp2_with fail
  have HM0 := Lib.hid (map_past (map_past hm ((Below.refl _ _).alloc (Nat.le_refl _) (.cells #[.map (some b)] 238))) ((Below.refl _ _).alloc (Nat.le_refl _) (.cells #[.int .i64 26, .int .i64 d, .int .i64 n, .int .i64 m, .int .i64 a, .int .i64 c, .int .i64 i] 29)))
  have HI0 := Lib.hid (InsC.new (w.alloc (.cells #[.map (some b)] 238)) (.int .i64 26) (.int .i64 d) (.int .i64 n) (.int .i64 m) (.int .i64 a) (.int .i64 c) (.int .i64 i))
  have HE0 : Hid (((w.alloc (.cells #[.map (some b)] 238)).alloc (.cells #[.int .i64 26, .int .i64 d, .int .i64 n, .int .i64 m, .int .i64 a, .int .i64 c, .int .i64 i] 29)).cell? ⟨w.heap.size, 0, none⟩ = some (.map (some b))) := Lib.hid (by simp)
  refine (HCK.out _).mono ?_
  rintro e w1 ⟨rfl, hb⟩
  have HB1 : Hid (Below w.heap.size w w1) := Lib.hid ((((Below.refl _ _).alloc (Nat.le_refl _) _).alloc (by simp) _).trans (hb.mono (by simp; omega)))
  have HI1 := Lib.hid (HI0.out.below' hb rfl)
  rw [World.size_alloc] at HI1
  have HM1 := Lib.hid (map_past HM0.out hb)
  have e1 := (hb.cell (p := ⟨w.heap.size, 0, none⟩) (by simp; omega)).trans HE0.out
  have hs1 : w.heap.size + 1 < w1.heap.size := HI1.out.1
  obtain ⟨hl, i0, i1, i2, i3, i4, i5, i6⟩ := HI1.out
  clear hb HI0 HM0 HE0 hm
  go_wp2_with (at_lookup; refine wpList_lookup_own_int _ rfl _ _ 235 rfl 3 54 .u32 law3 Try.underlying235 Try.underlying54 (zero25 _) b 42 _ rfl HM1.out _ _ rfl (keyOf_int_mk Try.underlying3 (by decide)) ?_; intro c' hat hwc; obtain rfl : c' = 3594452992 := (look_c _ _ hat).trans (by decide))
  clear hat hwc e1 HM1
  refine (flds_26 _).mono ?_
  rintro e w2 ⟨rfl, hf, hb⟩
  have HB2 := Lib.hid (HB1.out.trans (hb.mono HB1.out.size))
  have HI2 := Lib.hid (HI1.out.below' hb rfl)
  have HF2 := Lib.hid hf
  clear hl i0 i1 i2 i3 i4 i5 i6
  obtain ⟨g, hg⟩ : ∃ g, g = w1.heap.size := ⟨_, rfl⟩
  rw [← hg] at HF2
  rw [← hg]
  clear hb hf HI1 HB1 hg hs1
  go_wp2_with fail
  refine wp_loop_rounds 2 ?_
  rw [rounds_succ]
  obtain ⟨hl, i0, i1, i2, i3, i4, i5, i6⟩ := HI2.out
  have f0 := HF2.out.2 0 _ rfl
  go_wp2_with fail
  refine (lay_n 26 d n m a c i 3594452992 _ hB0.1 hB0.2 (by have := HOK.out; omega) (by have := HOK.out; omega)).mono ?_
  rintro e w3 ⟨rfl, hb⟩
  have HB3 := Lib.hid (HB2.out.trans (hb.mono HB2.out.size))
  have HI3 := Lib.hid (HI2.out.below' hb rfl)
  have HF3 := Lib.hid (HF2.out.past hb rfl)
  clear hb hl i0 i1 i2 i3 i4 i5 i6 f0
  go_wp2
  rw [rounds_succ]
  go_wp2
  refine bodyPost_ret (v := .tuple #[.int .u32 (putS 3594452992 5 5 n), .int .i64 0]) (by simp [results, Try.results166, go_sem]) rfl ⟨rfl, HB3.out⟩
set_option maxRecDepth 100000 in
set_option maxHeartbeats 4000000 in
theorem word_30 (d n m a c i : Int) (b : Nat) (w : World) (hok : ok_30 d n m a c i = true) (hm : w.ownsMap Try.prog 3 (plainElem (H := Unit) Try.prog 54) b 42 DD) : Calls Try.prog 166 #[.agg #[.map (some b)], .agg #[.int .i64 30, .int .i64 d, .int .i64 n, .int .i64 m, .int .i64 a, .int .i64 c, .int .i64 i]] w fun e w' => e = .returned (.tuple #[.int .u32 (putS (putS (putS 960495616 10 12 i) 5 5 n) 0 5 d), .int .i64 0]) ∧ Below w.heap.size w w' := by
  have HCK := Lib.hid (fun w => (by have := check_30 d n m a c i w; rw [hok] at this; exact this) : ∀ w, Calls Try.prog 31 #[.agg #[.int .i64 30, .int .i64 d, .int .i64 n, .int .i64 m, .int .i64 a, .int .i64 c, .int .i64 i]] w fun e w' => e = .returned (.int .i64 0) ∧ Below w.heap.size w w')
  have hB0 : (0 : Int) ≤ 960495616 ∧ (960495616 : Int) < 4294967296 := by decide
  simp only [ok_30, wi, Bool.and_eq_true, decide_eq_true_eq, beq_iff_eq] at hok
  have HOK := Lib.hid hok
  clear hok
  go_enter Try.func166, Try.ntmps166
  go_wp2_with fail
  have HM0 := Lib.hid (map_past (map_past hm ((Below.refl _ _).alloc (Nat.le_refl _) (.cells #[.map (some b)] 238))) ((Below.refl _ _).alloc (Nat.le_refl _) (.cells #[.int .i64 30, .int .i64 d, .int .i64 n, .int .i64 m, .int .i64 a, .int .i64 c, .int .i64 i] 29)))
  have HI0 := Lib.hid (InsC.new (w.alloc (.cells #[.map (some b)] 238)) (.int .i64 30) (.int .i64 d) (.int .i64 n) (.int .i64 m) (.int .i64 a) (.int .i64 c) (.int .i64 i))
  have HE0 : Hid (((w.alloc (.cells #[.map (some b)] 238)).alloc (.cells #[.int .i64 30, .int .i64 d, .int .i64 n, .int .i64 m, .int .i64 a, .int .i64 c, .int .i64 i] 29)).cell? ⟨w.heap.size, 0, none⟩ = some (.map (some b))) := Lib.hid (by simp)
  refine (HCK.out _).mono ?_
  rintro e w1 ⟨rfl, hb⟩
  have HB1 : Hid (Below w.heap.size w w1) := Lib.hid ((((Below.refl _ _).alloc (Nat.le_refl _) _).alloc (by simp) _).trans (hb.mono (by simp; omega)))
  have HI1 := Lib.hid (HI0.out.below' hb rfl)
  rw [World.size_alloc] at HI1
  have HM1 := Lib.hid (map_past HM0.out hb)
  have e1 := (hb.cell (p := ⟨w.heap.size, 0, none⟩) (by simp; omega)).trans HE0.out
  have hs1 : w.heap.size + 1 < w1.heap.size := HI1.out.1
  obtain ⟨hl, i0, i1, i2, i3, i4, i5, i6⟩ := HI1.out
  clear hb HI0 HM0 HE0 hm
  go_wp2_with (at_lookup; refine wpList_lookup_own_int _ rfl _ _ 235 rfl 3 54 .u32 law3 Try.underlying235 Try.underlying54 (zero25 _) b 42 _ rfl HM1.out _ _ rfl (keyOf_int_mk Try.underlying3 (by decide)) ?_; intro c' hat hwc; obtain rfl : c' = 960495616 := (look_c _ _ hat).trans (by decide))
  clear hat hwc e1 HM1
  refine (flds_30 _).mono ?_
  rintro e w2 ⟨rfl, hf, hb⟩
  have HB2 := Lib.hid (HB1.out.trans (hb.mono HB1.out.size))
  have HI2 := Lib.hid (HI1.out.below' hb rfl)
  have HF2 := Lib.hid hf
  clear hl i0 i1 i2 i3 i4 i5 i6
  obtain ⟨g, hg⟩ : ∃ g, g = w1.heap.size := ⟨_, rfl⟩
  rw [← hg] at HF2
  rw [← hg]
  clear hb hf HI1 HB1 hg hs1
  go_wp2_with fail
  refine wp_loop_rounds 4 ?_
  rw [rounds_succ]
  obtain ⟨hl, i0, i1, i2, i3, i4, i5, i6⟩ := HI2.out
  have f0 := HF2.out.2 0 _ rfl
  go_wp2_with fail
  refine (lay_small 30 d n m a c i 960495616 _ hB0.1 hB0.2 (by have := HOK.out; omega) (by have := HOK.out; omega)).mono ?_
  rintro e w3 ⟨rfl, hb⟩
  have HB3 := Lib.hid (HB2.out.trans (hb.mono HB2.out.size))
  have HI3 := Lib.hid (HI2.out.below' hb rfl)
  have HF3 := Lib.hid (HF2.out.past hb rfl)
  clear hb hl i0 i1 i2 i3 i4 i5 i6 f0
  go_wp2
  rw [rounds_succ]
  obtain ⟨hl, i0, i1, i2, i3, i4, i5, i6⟩ := HI3.out
  have f1 := HF3.out.2 1 _ rfl
  go_wp2_with fail
  refine (lay_n 30 d n m a c i (putS 960495616 10 12 i) _ (putS_lt 960495616 10 12 i hB0.1 hB0.2).1 (putS_lt 960495616 10 12 i hB0.1 hB0.2).2 (by have := HOK.out; omega) (by have := HOK.out; omega)).mono ?_
  rintro e w4 ⟨rfl, hb⟩
  have HB4 := Lib.hid (HB3.out.trans (hb.mono HB3.out.size))
  have HI4 := Lib.hid (HI3.out.below' hb rfl)
  have HF4 := Lib.hid (HF3.out.past hb rfl)
  clear hb hl i0 i1 i2 i3 i4 i5 i6 f1
  go_wp2
  rw [rounds_succ]
  obtain ⟨hl, i0, i1, i2, i3, i4, i5, i6⟩ := HI4.out
  have f2 := HF4.out.2 2 _ rfl
  go_wp2_with fail
  refine (lay_d 30 d n m a c i (putS (putS 960495616 10 12 i) 5 5 n) _ (putS_lt (putS 960495616 10 12 i) 5 5 n (putS_lt 960495616 10 12 i hB0.1 hB0.2).1 (putS_lt 960495616 10 12 i hB0.1 hB0.2).2).1 (putS_lt (putS 960495616 10 12 i) 5 5 n (putS_lt 960495616 10 12 i hB0.1 hB0.2).1 (putS_lt 960495616 10 12 i hB0.1 hB0.2).2).2 (by have := HOK.out; omega) (by have := HOK.out; omega)).mono ?_
  rintro e w5 ⟨rfl, hb⟩
  have HB5 := Lib.hid (HB4.out.trans (hb.mono HB4.out.size))
  have HI5 := Lib.hid (HI4.out.below' hb rfl)
  have HF5 := Lib.hid (HF4.out.past hb rfl)
  clear hb hl i0 i1 i2 i3 i4 i5 i6 f2
  go_wp2
  rw [rounds_succ]
  go_wp2
  refine bodyPost_ret (v := .tuple #[.int .u32 (putS (putS (putS 960495616 10 12 i) 5 5 n) 0 5 d), .int .i64 0]) (by simp [results, Try.results166, go_sem]) rfl ⟨rfl, HB5.out⟩
set_option maxRecDepth 100000 in
set_option maxHeartbeats 4000000 in
theorem word_34 (d n m a c i : Int) (b : Nat) (w : World) (hok : ok_34 d n m a c i = true) (hm : w.ownsMap Try.prog 3 (plainElem (H := Unit) Try.prog 54) b 42 DD) : Calls Try.prog 166 #[.agg #[.map (some b)], .agg #[.int .i64 34, .int .i64 d, .int .i64 n, .int .i64 m, .int .i64 a, .int .i64 c, .int .i64 i]] w fun e w' => e = .returned (.tuple #[.int .u32 (putS (putS 3365927936 5 5 n) 0 5 d), .int .i64 0]) ∧ Below w.heap.size w w' := by
  have HCK := Lib.hid (fun w => (by have := check_34 d n m a c i w; rw [hok] at this; exact this) : ∀ w, Calls Try.prog 31 #[.agg #[.int .i64 34, .int .i64 d, .int .i64 n, .int .i64 m, .int .i64 a, .int .i64 c, .int .i64 i]] w fun e w' => e = .returned (.int .i64 0) ∧ Below w.heap.size w w')
  have hB0 : (0 : Int) ≤ 3365927936 ∧ (3365927936 : Int) < 4294967296 := by decide
  simp only [ok_34, wi, Bool.and_eq_true, decide_eq_true_eq, beq_iff_eq] at hok
  have HOK := Lib.hid hok
  clear hok
  go_enter Try.func166, Try.ntmps166
  go_wp2_with fail
  have HM0 := Lib.hid (map_past (map_past hm ((Below.refl _ _).alloc (Nat.le_refl _) (.cells #[.map (some b)] 238))) ((Below.refl _ _).alloc (Nat.le_refl _) (.cells #[.int .i64 34, .int .i64 d, .int .i64 n, .int .i64 m, .int .i64 a, .int .i64 c, .int .i64 i] 29)))
  have HI0 := Lib.hid (InsC.new (w.alloc (.cells #[.map (some b)] 238)) (.int .i64 34) (.int .i64 d) (.int .i64 n) (.int .i64 m) (.int .i64 a) (.int .i64 c) (.int .i64 i))
  have HE0 : Hid (((w.alloc (.cells #[.map (some b)] 238)).alloc (.cells #[.int .i64 34, .int .i64 d, .int .i64 n, .int .i64 m, .int .i64 a, .int .i64 c, .int .i64 i] 29)).cell? ⟨w.heap.size, 0, none⟩ = some (.map (some b))) := Lib.hid (by simp)
  refine (HCK.out _).mono ?_
  rintro e w1 ⟨rfl, hb⟩
  have HB1 : Hid (Below w.heap.size w w1) := Lib.hid ((((Below.refl _ _).alloc (Nat.le_refl _) _).alloc (by simp) _).trans (hb.mono (by simp; omega)))
  have HI1 := Lib.hid (HI0.out.below' hb rfl)
  rw [World.size_alloc] at HI1
  have HM1 := Lib.hid (map_past HM0.out hb)
  have e1 := (hb.cell (p := ⟨w.heap.size, 0, none⟩) (by simp; omega)).trans HE0.out
  have hs1 : w.heap.size + 1 < w1.heap.size := HI1.out.1
  obtain ⟨hl, i0, i1, i2, i3, i4, i5, i6⟩ := HI1.out
  clear hb HI0 HM0 HE0 hm
  go_wp2_with (at_lookup; refine wpList_lookup_own_int _ rfl _ _ 235 rfl 3 54 .u32 law3 Try.underlying235 Try.underlying54 (zero25 _) b 42 _ rfl HM1.out _ _ rfl (keyOf_int_mk Try.underlying3 (by decide)) ?_; intro c' hat hwc; obtain rfl : c' = 3365927936 := (look_c _ _ hat).trans (by decide))
  clear hat hwc e1 HM1
  refine (flds_34 _).mono ?_
  rintro e w2 ⟨rfl, hf, hb⟩
  have HB2 := Lib.hid (HB1.out.trans (hb.mono HB1.out.size))
  have HI2 := Lib.hid (HI1.out.below' hb rfl)
  have HF2 := Lib.hid hf
  clear hl i0 i1 i2 i3 i4 i5 i6
  obtain ⟨g, hg⟩ : ∃ g, g = w1.heap.size := ⟨_, rfl⟩
  rw [← hg] at HF2
  rw [← hg]
  clear hb hf HI1 HB1 hg hs1
  go_wp2_with fail
  refine wp_loop_rounds 3 ?_
  rw [rounds_succ]
  obtain ⟨hl, i0, i1, i2, i3, i4, i5, i6⟩ := HI2.out
  have f0 := HF2.out.2 0 _ rfl
  go_wp2_with fail
  refine (lay_n 34 d n m a c i 3365927936 _ hB0.1 hB0.2 (by have := HOK.out; omega) (by have := HOK.out; omega)).mono ?_
  rintro e w3 ⟨rfl, hb⟩
  have HB3 := Lib.hid (HB2.out.trans (hb.mono HB2.out.size))
  have HI3 := Lib.hid (HI2.out.below' hb rfl)
  have HF3 := Lib.hid (HF2.out.past hb rfl)
  clear hb hl i0 i1 i2 i3 i4 i5 i6 f0
  go_wp2
  rw [rounds_succ]
  obtain ⟨hl, i0, i1, i2, i3, i4, i5, i6⟩ := HI3.out
  have f1 := HF3.out.2 1 _ rfl
  go_wp2_with fail
  refine (lay_d 34 d n m a c i (putS 3365927936 5 5 n) _ (putS_lt 3365927936 5 5 n hB0.1 hB0.2).1 (putS_lt 3365927936 5 5 n hB0.1 hB0.2).2 (by have := HOK.out; omega) (by have := HOK.out; omega)).mono ?_
  rintro e w4 ⟨rfl, hb⟩
  have HB4 := Lib.hid (HB3.out.trans (hb.mono HB3.out.size))
  have HI4 := Lib.hid (HI3.out.below' hb rfl)
  have HF4 := Lib.hid (HF3.out.past hb rfl)
  clear hb hl i0 i1 i2 i3 i4 i5 i6 f1
  go_wp2
  rw [rounds_succ]
  go_wp2
  refine bodyPost_ret (v := .tuple #[.int .u32 (putS (putS 3365927936 5 5 n) 0 5 d), .int .i64 0]) (by simp [results, Try.results166, go_sem]) rfl ⟨rfl, HB4.out⟩
set_option maxRecDepth 100000 in
set_option maxHeartbeats 4000000 in
theorem word_38 (d n m a c i : Int) (b : Nat) (w : World) (hok : ok_38 d n m a c i = true) (hm : w.ownsMap Try.prog 3 (plainElem (H := Unit) Try.prog 54) b 42 DD) : Calls Try.prog 166 #[.agg #[.map (some b)], .agg #[.int .i64 38, .int .i64 d, .int .i64 n, .int .i64 m, .int .i64 a, .int .i64 c, .int .i64 i]] w fun e w' => e = .returned (.tuple #[.int .u32 3573758879, .int .i64 0]) ∧ Below w.heap.size w w' := by
  have HCK := Lib.hid (fun w => (by have := check_38 d n m a c i w; rw [hok] at this; exact this) : ∀ w, Calls Try.prog 31 #[.agg #[.int .i64 38, .int .i64 d, .int .i64 n, .int .i64 m, .int .i64 a, .int .i64 c, .int .i64 i]] w fun e w' => e = .returned (.int .i64 0) ∧ Below w.heap.size w w')
  have hB0 : (0 : Int) ≤ 3573758879 ∧ (3573758879 : Int) < 4294967296 := by decide
  have HOK := Lib.hid hok
  clear hok
  go_enter Try.func166, Try.ntmps166
  go_wp2_with fail
  have HM0 := Lib.hid (map_past (map_past hm ((Below.refl _ _).alloc (Nat.le_refl _) (.cells #[.map (some b)] 238))) ((Below.refl _ _).alloc (Nat.le_refl _) (.cells #[.int .i64 38, .int .i64 d, .int .i64 n, .int .i64 m, .int .i64 a, .int .i64 c, .int .i64 i] 29)))
  have HI0 := Lib.hid (InsC.new (w.alloc (.cells #[.map (some b)] 238)) (.int .i64 38) (.int .i64 d) (.int .i64 n) (.int .i64 m) (.int .i64 a) (.int .i64 c) (.int .i64 i))
  have HE0 : Hid (((w.alloc (.cells #[.map (some b)] 238)).alloc (.cells #[.int .i64 38, .int .i64 d, .int .i64 n, .int .i64 m, .int .i64 a, .int .i64 c, .int .i64 i] 29)).cell? ⟨w.heap.size, 0, none⟩ = some (.map (some b))) := Lib.hid (by simp)
  refine (HCK.out _).mono ?_
  rintro e w1 ⟨rfl, hb⟩
  have HB1 : Hid (Below w.heap.size w w1) := Lib.hid ((((Below.refl _ _).alloc (Nat.le_refl _) _).alloc (by simp) _).trans (hb.mono (by simp; omega)))
  have HI1 := Lib.hid (HI0.out.below' hb rfl)
  rw [World.size_alloc] at HI1
  have HM1 := Lib.hid (map_past HM0.out hb)
  have e1 := (hb.cell (p := ⟨w.heap.size, 0, none⟩) (by simp; omega)).trans HE0.out
  have hs1 : w.heap.size + 1 < w1.heap.size := HI1.out.1
  obtain ⟨hl, i0, i1, i2, i3, i4, i5, i6⟩ := HI1.out
  clear hb HI0 HM0 HE0 hm
  go_wp2_with (at_lookup; refine wpList_lookup_own_int _ rfl _ _ 235 rfl 3 54 .u32 law3 Try.underlying235 Try.underlying54 (zero25 _) b 42 _ rfl HM1.out _ _ rfl (keyOf_int_mk Try.underlying3 (by decide)) ?_; intro c' hat hwc; obtain rfl : c' = 3573758879 := (look_c _ _ hat).trans (by decide))
  clear hat hwc e1 HM1
  refine (flds_38 _).mono ?_
  rintro e w2 ⟨rfl, hw⟩
  obtain rfl := hw.symm
  go_wp2_with fail
  refine wp_loop_rounds 1 ?_
  rw [rounds_succ]
  go_wp2
  refine bodyPost_ret (v := .tuple #[.int .u32 3573758879, .int .i64 0]) (by simp [results, Try.results166, go_sem]) rfl ⟨rfl, HB1.out⟩
set_option maxRecDepth 100000 in
set_option maxHeartbeats 4000000 in
theorem word_42 (d n m a c i : Int) (b : Nat) (w : World) (hok : ok_42 d n m a c i = true) (hm : w.ownsMap Try.prog 3 (plainElem (H := Unit) Try.prog 54) b 42 DD) : Calls Try.prog 166 #[.agg #[.map (some b)], .agg #[.int .i64 42, .int .i64 d, .int .i64 n, .int .i64 m, .int .i64 a, .int .i64 c, .int .i64 i]] w fun e w' => e = .returned (.tuple #[.int .u32 (putS 3556769793 5 16 i), .int .i64 0]) ∧ Below w.heap.size w w' := by
  have HCK := Lib.hid (fun w => (by have := check_42 d n m a c i w; rw [hok] at this; exact this) : ∀ w, Calls Try.prog 31 #[.agg #[.int .i64 42, .int .i64 d, .int .i64 n, .int .i64 m, .int .i64 a, .int .i64 c, .int .i64 i]] w fun e w' => e = .returned (.int .i64 0) ∧ Below w.heap.size w w')
  have hB0 : (0 : Int) ≤ 3556769793 ∧ (3556769793 : Int) < 4294967296 := by decide
  simp only [ok_42, wi, Bool.and_eq_true, decide_eq_true_eq, beq_iff_eq] at hok
  have HOK := Lib.hid hok
  clear hok
  go_enter Try.func166, Try.ntmps166
  go_wp2_with fail
  have HM0 := Lib.hid (map_past (map_past hm ((Below.refl _ _).alloc (Nat.le_refl _) (.cells #[.map (some b)] 238))) ((Below.refl _ _).alloc (Nat.le_refl _) (.cells #[.int .i64 42, .int .i64 d, .int .i64 n, .int .i64 m, .int .i64 a, .int .i64 c, .int .i64 i] 29)))
  have HI0 := Lib.hid (InsC.new (w.alloc (.cells #[.map (some b)] 238)) (.int .i64 42) (.int .i64 d) (.int .i64 n) (.int .i64 m) (.int .i64 a) (.int .i64 c) (.int .i64 i))
  have HE0 : Hid (((w.alloc (.cells #[.map (some b)] 238)).alloc (.cells #[.int .i64 42, .int .i64 d, .int .i64 n, .int .i64 m, .int .i64 a, .int .i64 c, .int .i64 i] 29)).cell? ⟨w.heap.size, 0, none⟩ = some (.map (some b))) := Lib.hid (by simp)
  refine (HCK.out _).mono ?_
  rintro e w1 ⟨rfl, hb⟩
  have HB1 : Hid (Below w.heap.size w w1) := Lib.hid ((((Below.refl _ _).alloc (Nat.le_refl _) _).alloc (by simp) _).trans (hb.mono (by simp; omega)))
  have HI1 := Lib.hid (HI0.out.below' hb rfl)
  rw [World.size_alloc] at HI1
  have HM1 := Lib.hid (map_past HM0.out hb)
  have e1 := (hb.cell (p := ⟨w.heap.size, 0, none⟩) (by simp; omega)).trans HE0.out
  have hs1 : w.heap.size + 1 < w1.heap.size := HI1.out.1
  obtain ⟨hl, i0, i1, i2, i3, i4, i5, i6⟩ := HI1.out
  clear hb HI0 HM0 HE0 hm
  go_wp2_with (at_lookup; refine wpList_lookup_own_int _ rfl _ _ 235 rfl 3 54 .u32 law3 Try.underlying235 Try.underlying54 (zero25 _) b 42 _ rfl HM1.out _ _ rfl (keyOf_int_mk Try.underlying3 (by decide)) ?_; intro c' hat hwc; obtain rfl : c' = 3556769793 := (look_c _ _ hat).trans (by decide))
  clear hat hwc e1 HM1
  refine (flds_42 _).mono ?_
  rintro e w2 ⟨rfl, hf, hb⟩
  have HB2 := Lib.hid (HB1.out.trans (hb.mono HB1.out.size))
  have HI2 := Lib.hid (HI1.out.below' hb rfl)
  have HF2 := Lib.hid hf
  clear hl i0 i1 i2 i3 i4 i5 i6
  obtain ⟨g, hg⟩ : ∃ g, g = w1.heap.size := ⟨_, rfl⟩
  rw [← hg] at HF2
  rw [← hg]
  clear hb hf HI1 HB1 hg hs1
  go_wp2_with fail
  refine wp_loop_rounds 2 ?_
  rw [rounds_succ]
  obtain ⟨hl, i0, i1, i2, i3, i4, i5, i6⟩ := HI2.out
  have f0 := HF2.out.2 0 _ rfl
  go_wp2_with fail
  refine (lay_number 42 d n m a c i 3556769793 _ hB0.1 hB0.2 (by have := HOK.out; omega) (by have := HOK.out; omega)).mono ?_
  rintro e w3 ⟨rfl, hb⟩
  have HB3 := Lib.hid (HB2.out.trans (hb.mono HB2.out.size))
  have HI3 := Lib.hid (HI2.out.below' hb rfl)
  have HF3 := Lib.hid (HF2.out.past hb rfl)
  clear hb hl i0 i1 i2 i3 i4 i5 i6 f0
  go_wp2
  rw [rounds_succ]
  go_wp2
  refine bodyPost_ret (v := .tuple #[.int .u32 (putS 3556769793 5 16 i), .int .i64 0]) (by simp [results, Try.results166, go_sem]) rfl ⟨rfl, HB3.out⟩
end Go.Proofs.Ytnbpgoacooddjaa.En
