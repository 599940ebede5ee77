import Derived.Test.YtnbpgoacooddjaaEWd
namespace Go.Proofs.Ytnbpgoacooddjaa.Fr
end Go.Proofs.Ytnbpgoacooddjaa.Fr
namespace Go.Proofs.Ytnbpgoacooddjaa.En
open Go.Proofs.Ytnbpgoacooddjaa.Fr
open Go.ChangeShapes Go.WideShapes Go.ChangeAt Go.RowKit Go.Maps
set_option linter.unusedVariables false
set_option maxRecDepth 100000 in
set_option maxHeartbeats 4000000 in
theorem flds_3 (w : World) : Calls Try.prog 197 #[.int .i64 3] w fun e w' => e = .returned (.slice (some ⟨w.heap.size, 0, none⟩) 3 3) ∧ FldAt w' w.heap.size [218, 219, 220] ∧ Below w.heap.size w w' := by
  go_enter Try.func197, Try.ntmps197
  go_wp2
  go_ret
  refine ⟨rfl, ⟨by simp, fun k f hk => ?_⟩, (Below.refl _ _).alloc (Nat.le_refl _) _⟩
  have : k = 0 ∨ k = 1 ∨ k = 2 := by have := (List.getElem?_eq_some_iff.1 hk).1; simp at this; omega
  rcases this with rfl | rfl | rfl
  · cases hk; exact World.cell?_alloc_at _ _ _ _ rfl
  · cases hk; exact World.cell?_alloc_at _ _ _ _ rfl
  · cases hk; exact World.cell?_alloc_at _ _ _ _ rfl
set_option maxRecDepth 100000 in
set_option maxHeartbeats 4000000 in
theorem flds_7 (w : World) : Calls Try.prog 197 #[.int .i64 7] w fun e w' => e = .returned (.slice (some ⟨w.heap.size, 0, none⟩) 3 3) ∧ FldAt w' w.heap.size [224, 222, 220] ∧ Below w.heap.size w w' := by
  go_enter Try.func197, Try.ntmps197
  go_wp2
  go_ret
  refine ⟨rfl, ⟨by simp, fun k f hk => ?_⟩, (Below.refl _ _).alloc (Nat.le_refl _) _⟩
  have : k = 0 ∨ k = 1 ∨ k = 2 := by have := (List.getElem?_eq_some_iff.1 hk).1; simp at this; omega
  rcases this with rfl | rfl | rfl
  · cases hk; exact World.cell?_alloc_at _ _ _ _ rfl
  · cases hk; exact World.cell?_alloc_at _ _ _ _ rfl
  · cases hk; exact World.cell?_alloc_at _ _ _ _ rfl
set_option maxRecDepth 100000 in
set_option maxHeartbeats 4000000 in
theorem flds_11 (w : World) : Calls Try.prog 197 #[.int .i64 11] w fun e w' => e = .returned (.slice (some ⟨w.heap.size, 0, none⟩) 3 3) ∧ FldAt w' w.heap.size [224, 222, 220] ∧ Below w.heap.size w w' := by
  go_enter Try.func197, Try.ntmps197
  go_wp2
  go_ret
  refine ⟨rfl, ⟨by simp, fun k f hk => ?_⟩, (Below.refl _ _).alloc (Nat.le_refl _) _⟩
  have : k = 0 ∨ k = 1 ∨ k = 2 := by have := (List.getElem?_eq_some_iff.1 hk).1; simp at this; omega
  rcases this with rfl | rfl | rfl
  · cases hk; exact World.cell?_alloc_at _ _ _ _ rfl
  · cases hk; exact World.cell?_alloc_at _ _ _ _ rfl
  · cases hk; exact World.cell?_alloc_at _ _ _ _ rfl
set_option maxRecDepth 100000 in
set_option maxHeartbeats 4000000 in
theorem flds_15 (w : World) : Calls Try.prog 197 #[.int .i64 15] w fun e w' => e = .returned (.slice (some ⟨w.heap.size, 0, none⟩) 3 3) ∧ FldAt w' w.heap.size [224, 222, 220] ∧ Below w.heap.size w w' := by
  go_enter Try.func197, Try.ntmps197
  go_wp2
  go_ret
  refine ⟨rfl, ⟨by simp, fun k f hk => ?_⟩, (Below.refl _ _).alloc (Nat.le_refl _) _⟩
  have : k = 0 ∨ k = 1 ∨ k = 2 := by have := (List.getElem?_eq_some_iff.1 hk).1; simp at this; omega
  rcases this with rfl | rfl | rfl
  · cases hk; exact World.cell?_alloc_at _ _ _ _ rfl
  · cases hk; exact World.cell?_alloc_at _ _ _ _ rfl
  · cases hk; exact World.cell?_alloc_at _ _ _ _ rfl
set_option maxRecDepth 100000 in
set_option maxHeartbeats 4000000 in
theorem flds_19 (w : World) : Calls Try.prog 197 #[.int .i64 19] w fun e w' => e = .returned (.slice (some ⟨w.heap.size, 0, none⟩) 4 4) ∧ FldAt w' w.heap.size [224, 226, 222, 220] ∧ Below w.heap.size w w' := by
  go_enter Try.func197, Try.ntmps197
  go_wp2
  go_ret
  refine ⟨rfl, ⟨by simp, fun k f hk => ?_⟩, (Below.refl _ _).alloc (Nat.le_refl _) _⟩
  have : k = 0 ∨ k = 1 ∨ k = 2 ∨ k = 3 := by have := (List.getElem?_eq_some_iff.1 hk).1; simp at this; omega
  rcases this with rfl | rfl | rfl | rfl
  · cases hk; exact World.cell?_alloc_at _ _ _ _ rfl
  · cases hk; exact World.cell?_alloc_at _ _ _ _ rfl
  · cases hk; exact World.cell?_alloc_at _ _ _ _ rfl
  · cases hk; exact World.cell?_alloc_at _ _ _ _ rfl
set_option maxRecDepth 100000 in
set_option maxHeartbeats 4000000 in
theorem flds_23 (w : World) : Calls Try.prog 197 #[.int .i64 23] w fun e w' => e = .returned (.slice (some ⟨w.heap.size, 0, none⟩) 2 2) ∧ FldAt w' w.heap.size [228, 220] ∧ Below w.heap.size w w' := by
  go_enter Try.func197, Try.ntmps197
  go_wp2
  go_ret
  refine ⟨rfl, ⟨by simp, fun k f hk => ?_⟩, (Below.refl _ _).alloc (Nat.le_refl _) _⟩
  have : k = 0 ∨ k = 1 := by have := (List.getElem?_eq_some_iff.1 hk).1; simp at this; omega
  rcases this with rfl | rfl
  · cases hk; exact World.cell?_alloc_at _ _ _ _ rfl
  · cases hk; exact World.cell?_alloc_at _ _ _ _ rfl
set_option maxRecDepth 100000 in
set_option maxHeartbeats 4000000 in
theorem flds_27 (w : World) : Calls Try.prog 197 #[.int .i64 27] w fun e w' => e = .returned (.slice (some ⟨w.heap.size, 0, none⟩) 1 1) ∧ FldAt w' w.heap.size [222] ∧ Below w.heap.size w w' := by
  go_enter Try.func197, Try.ntmps197
  go_wp2
  go_ret
  refine ⟨rfl, ⟨by simp, fun k f hk => ?_⟩, (Below.refl _ _).alloc (Nat.le_refl _) _⟩
  have : k = 0 := by have := (List.getElem?_eq_some_iff.1 hk).1; simp at this; omega
  rcases this with rfl
  · cases hk; exact World.cell?_alloc_at _ _ _ _ rfl
set_option maxRecDepth 100000 in
set_option maxHeartbeats 4000000 in
theorem flds_31 (w : World) : Calls Try.prog 197 #[.int .i64 31] w fun e w' => e = .returned (.slice (some ⟨w.heap.size, 0, none⟩) 3 3) ∧ FldAt w' w.heap.size [224, 222, 220] ∧ Below w.heap.size w w' := by
  go_enter Try.func197, Try.ntmps197
  go_wp2
  go_ret
  refine ⟨rfl, ⟨by simp, fun k f hk => ?_⟩, (Below.refl _ _).alloc (Nat.le_refl _) _⟩
  have : k = 0 ∨ k = 1 ∨ k = 2 := by have := (List.getElem?_eq_some_iff.1 hk).1; simp at this; omega
  rcases this with rfl | rfl | rfl
  · cases hk; exact World.cell?_alloc_at _ _ _ _ rfl
  · cases hk; exact World.cell?_alloc_at _ _ _ _ rfl
  · cases hk; exact World.cell?_alloc_at _ _ _ _ rfl
set_option maxRecDepth 100000 in
set_option maxHeartbeats 4000000 in
theorem flds_35 (w : World) : Calls Try.prog 197 #[.int .i64 35] w fun e w' => e = .returned (.slice (some ⟨w.heap.size, 0, none⟩) 2 2) ∧ FldAt w' w.heap.size [222, 220] ∧ Below w.heap.size w w' := by
  go_enter Try.func197, Try.ntmps197
  go_wp2
  go_ret
  refine ⟨rfl, ⟨by simp, fun k f hk => ?_⟩, (Below.refl _ _).alloc (Nat.le_refl _) _⟩
  have : k = 0 ∨ k = 1 := by have := (List.getElem?_eq_some_iff.1 hk).1; simp at this; omega
  rcases this with rfl | rfl
  · cases hk; exact World.cell?_alloc_at _ _ _ _ rfl
  · cases hk; exact World.cell?_alloc_at _ _ _ _ rfl
set_option maxRecDepth 100000 in
set_option maxHeartbeats 4000000 in
theorem flds_39 (w : World) : Calls Try.prog 197 #[.int .i64 39] w fun e w' => e = .returned (.slice none 0 0) ∧ w' = w := by
  go_enter Try.func197, Try.ntmps197
  go_wp2
  go_ret
  exact ⟨rfl, rfl⟩
set_option maxRecDepth 100000 in
set_option maxHeartbeats 4000000 in
theorem word_3 (d n m a c i : Int) (b : Nat) (w : World) (hok : ok_3 d n m a c i = true) (hm : w.ownsMap Try.prog 3 (plainElem (H := Unit) Try.prog 54) b 42 DD) : Calls Try.prog 166 #[.agg #[.map (some b)], .agg #[.int .i64 3, .int .i64 d, .int .i64 n, .int .i64 m, .int .i64 a, .int .i64 c, .int .i64 i]] w fun e w' => e = .returned (.tuple #[.int .u32 (putS (putS (putS 4068474880 21 2 m) 5 16 i) 0 5 d), .int .i64 0]) ∧ Below w.heap.size w w' := by
  have HCK := Lib.hid (fun w => (by have := check_3 d n m a c i w; rw [hok] at this; exact this) : ∀ w, Calls Try.prog 31 #[.agg #[.int .i64 3, .int .i64 d, .int .i64 n, .int .i64 m, .int .i64 a, .int .i64 c, .int .i64 i]] w fun e w' => e = .returned (.int .i64 0) ∧ Below w.heap.size w w')
  have hB0 : (0 : Int) ≤ 4068474880 ∧ (4068474880 : Int) < 4294967296 := by decide
  simp only [ok_3, wi, Bool.and_eq_true, decide_eq_true_eq, beq_iff_eq] at hok
  have HOK := Lib.hid hok
  clear hok
  go_enter Try.func166, Try.ntmps166
  go_wp2_with fail
  have HM0 := Lib.hid (map_past (map_past hm ((Below.refl _ _).alloc (Nat.le_refl _) (.cells #[.map (some b)] 238))) ((Below.refl _ _).alloc (Nat.le_refl _) (.cells #[.int .i64 3, .int .i64 d, .int .i64 n, .int .i64 m, .int .i64 a, .int .i64 c, .int .i64 i] 29)))
  have HI0 := Lib.hid (InsC.new (w.alloc (.cells #[.map (some b)] 238)) (.int .i64 3) (.int .i64 d) (.int .i64 n) (.int .i64 m) (.int .i64 a) (.int .i64 c) (.int .i64 i))
  have HE0 : Hid (((w.alloc (.cells #[.map (some b)] 238)).alloc (.cells #[.int .i64 3, .int .i64 d, .int .i64 n, .int .i64 m, .int .i64 a, .int .i64 c, .int .i64 i] 29)).cell? ⟨w.heap.size, 0, none⟩ = some (.map (some b))) := Lib.hid (by simp)
  refine (HCK.out _).mono ?_
  rintro e w1 ⟨rfl, hb⟩
  have HB1 : Hid (Below w.heap.size w w1) := Lib.hid ((((Below.refl _ _).alloc (Nat.le_refl _) _).alloc (by simp) _).trans (hb.mono (by simp; omega)))
  have HI1 := Lib.hid (HI0.out.below' hb rfl)
  rw [World.size_alloc] at HI1
  have HM1 := Lib.hid (map_past HM0.out hb)
  have e1 := (hb.cell (p := ⟨w.heap.size, 0, none⟩) (by simp; omega)).trans HE0.out
  have hs1 : w.heap.size + 1 < w1.heap.size := HI1.out.1
  obtain ⟨hl, i0, i1, i2, i3, i4, i5, i6⟩ := HI1.out
  clear hb HI0 HM0 HE0 hm
  go_wp2_with (at_lookup; refine wpList_lookup_own_int _ rfl _ _ 235 rfl 3 54 .u32 law3 Try.underlying235 Try.underlying54 (zero25 _) b 42 _ rfl HM1.out _ _ rfl (keyOf_int_mk Try.underlying3 (by decide)) ?_; intro c' hat hwc; obtain rfl : c' = 4068474880 := (look_c _ _ hat).trans (by decide))
  clear hat hwc e1 HM1
  refine (flds_3 _).mono ?_
  rintro e w2 ⟨rfl, hf, hb⟩
  have HB2 := Lib.hid (HB1.out.trans (hb.mono HB1.out.size))
  have HI2 := Lib.hid (HI1.out.below' hb rfl)
  have HF2 := Lib.hid hf
  clear hl i0 i1 i2 i3 i4 i5 i6
  obtain ⟨g, hg⟩ : ∃ g, g = w1.heap.size := ⟨_, rfl⟩
  rw [← hg] at HF2
  rw [← hg]
  clear hb hf HI1 HB1 hg hs1
  go_wp2_with fail
  refine wp_loop_rounds 4 ?_
  rw [rounds_succ]
  obtain ⟨hl, i0, i1, i2, i3, i4, i5, i6⟩ := HI2.out
  have f0 := HF2.out.2 0 _ rfl
  go_wp2_with fail
  refine (lay_moved 3 d n m a c i 4068474880 _ hB0.1 hB0.2 (by have := HOK.out; omega) (by have := HOK.out; omega)).mono ?_
  rintro e w3 ⟨rfl, hb⟩
  have HB3 := Lib.hid (HB2.out.trans (hb.mono HB2.out.size))
  have HI3 := Lib.hid (HI2.out.below' hb rfl)
  have HF3 := Lib.hid (HF2.out.past hb rfl)
  clear hb hl i0 i1 i2 i3 i4 i5 i6 f0
  go_wp2
  rw [rounds_succ]
  obtain ⟨hl, i0, i1, i2, i3, i4, i5, i6⟩ := HI3.out
  have f1 := HF3.out.2 1 _ rfl
  go_wp2_with fail
  refine (lay_number 3 d n m a c i (putS 4068474880 21 2 m) _ (putS_lt 4068474880 21 2 m hB0.1 hB0.2).1 (putS_lt 4068474880 21 2 m hB0.1 hB0.2).2 (by have := HOK.out; omega) (by have := HOK.out; omega)).mono ?_
  rintro e w4 ⟨rfl, hb⟩
  have HB4 := Lib.hid (HB3.out.trans (hb.mono HB3.out.size))
  have HI4 := Lib.hid (HI3.out.below' hb rfl)
  have HF4 := Lib.hid (HF3.out.past hb rfl)
  clear hb hl i0 i1 i2 i3 i4 i5 i6 f1
  go_wp2
  rw [rounds_succ]
  obtain ⟨hl, i0, i1, i2, i3, i4, i5, i6⟩ := HI4.out
  have f2 := HF4.out.2 2 _ rfl
  go_wp2_with fail
  refine (lay_d 3 d n m a c i (putS (putS 4068474880 21 2 m) 5 16 i) _ (putS_lt (putS 4068474880 21 2 m) 5 16 i (putS_lt 4068474880 21 2 m hB0.1 hB0.2).1 (putS_lt 4068474880 21 2 m hB0.1 hB0.2).2).1 (putS_lt (putS 4068474880 21 2 m) 5 16 i (putS_lt 4068474880 21 2 m hB0.1 hB0.2).1 (putS_lt 4068474880 21 2 m hB0.1 hB0.2).2).2 (by have := HOK.out; omega) (by have := HOK.out; omega)).mono ?_
  rintro e w5 ⟨rfl, hb⟩
  have HB5 := Lib.hid (HB4.out.trans (hb.mono HB4.out.size))
  have HI5 := Lib.hid (HI4.out.below' hb rfl)
  have HF5 := Lib.hid (HF4.out.past hb rfl)
  clear hb hl i0 i1 i2 i3 i4 i5 i6 f2
  go_wp2
  rw [rounds_succ]
  go_wp2
  refine bodyPost_ret (v := .tuple #[.int .u32 (putS (putS (putS 4068474880 21 2 m) 5 16 i) 0 5 d), .int .i64 0]) (by simp [results, Try.results166, go_sem]) rfl ⟨rfl, HB5.out⟩
set_option maxRecDepth 100000 in
set_option maxHeartbeats 4000000 in
theorem word_7 (d n m a c i : Int) (b : Nat) (w : World) (hok : ok_7 d n m a c i = true) (hm : w.ownsMap Try.prog 3 (plainElem (H := Unit) Try.prog 54) b 42 DD) : Calls Try.prog 166 #[.agg #[.map (some b)], .agg #[.int .i64 7, .int .i64 d, .int .i64 n, .int .i64 m, .int .i64 a, .int .i64 c, .int .i64 i]] w fun e w' => e = .returned (.tuple #[.int .u32 (putS (putS (putS 2332033024 16 5 m) 5 5 n) 0 5 d), .int .i64 0]) ∧ Below w.heap.size w w' := by
  have HCK := Lib.hid (fun w => (by have := check_7 d n m a c i w; rw [hok] at this; exact this) : ∀ w, Calls Try.prog 31 #[.agg #[.int .i64 7, .int .i64 d, .int .i64 n, .int .i64 m, .int .i64 a, .int .i64 c, .int .i64 i]] w fun e w' => e = .returned (.int .i64 0) ∧ Below w.heap.size w w')
  have hB0 : (0 : Int) ≤ 2332033024 ∧ (2332033024 : Int) < 4294967296 := by decide
  simp only [ok_7, wi, Bool.and_eq_true, decide_eq_true_eq, beq_iff_eq] at hok
  have HOK := Lib.hid hok
  clear hok
  go_enter Try.func166, Try.ntmps166
  go_wp2_with fail
  have HM0 := Lib.hid (map_past (map_past hm ((Below.refl _ _).alloc (Nat.le_refl _) (.cells #[.map (some b)] 238))) ((Below.refl _ _).alloc (Nat.le_refl _) (.cells #[.int .i64 7, .int .i64 d, .int .i64 n, .int .i64 m, .int .i64 a, .int .i64 c, .int .i64 i] 29)))
  have HI0 := Lib.hid (InsC.new (w.alloc (.cells #[.map (some b)] 238)) (.int .i64 7) (.int .i64 d) (.int .i64 n) (.int .i64 m) (.int .i64 a) (.int .i64 c) (.int .i64 i))
  have HE0 : Hid (((w.alloc (.cells #[.map (some b)] 238)).alloc (.cells #[.int .i64 7, .int .i64 d, .int .i64 n, .int .i64 m, .int .i64 a, .int .i64 c, .int .i64 i] 29)).cell? ⟨w.heap.size, 0, none⟩ = some (.map (some b))) := Lib.hid (by simp)
  refine (HCK.out _).mono ?_
  rintro e w1 ⟨rfl, hb⟩
  have HB1 : Hid (Below w.heap.size w w1) := Lib.hid ((((Below.refl _ _).alloc (Nat.le_refl _) _).alloc (by simp) _).trans (hb.mono (by simp; omega)))
  have HI1 := Lib.hid (HI0.out.below' hb rfl)
  rw [World.size_alloc] at HI1
  have HM1 := Lib.hid (map_past HM0.out hb)
  have e1 := (hb.cell (p := ⟨w.heap.size, 0, none⟩) (by simp; omega)).trans HE0.out
  have hs1 : w.heap.size + 1 < w1.heap.size := HI1.out.1
  obtain ⟨hl, i0, i1, i2, i3, i4, i5, i6⟩ := HI1.out
  clear hb HI0 HM0 HE0 hm
  go_wp2_with (at_lookup; refine wpList_lookup_own_int _ rfl _ _ 235 rfl 3 54 .u32 law3 Try.underlying235 Try.underlying54 (zero25 _) b 42 _ rfl HM1.out _ _ rfl (keyOf_int_mk Try.underlying3 (by decide)) ?_; intro c' hat hwc; obtain rfl : c' = 2332033024 := (look_c _ _ hat).trans (by decide))
  clear hat hwc e1 HM1
  refine (flds_7 _).mono ?_
  rintro e w2 ⟨rfl, hf, hb⟩
  have HB2 := Lib.hid (HB1.out.trans (hb.mono HB1.out.size))
  have HI2 := Lib.hid (HI1.out.below' hb rfl)
  have HF2 := Lib.hid hf
  clear hl i0 i1 i2 i3 i4 i5 i6
  obtain ⟨g, hg⟩ : ∃ g, g = w1.heap.size := ⟨_, rfl⟩
  rw [← hg] at HF2
  rw [← hg]
  clear hb hf HI1 HB1 hg hs1
  go_wp2_with fail
  refine wp_loop_rounds 4 ?_
  rw [rounds_succ]
  obtain ⟨hl, i0, i1, i2, i3, i4, i5, i6⟩ := HI2.out
  have f0 := HF2.out.2 0 _ rfl
  go_wp2_with fail
  refine (lay_m 7 d n m a c i 2332033024 _ hB0.1 hB0.2 (by have := HOK.out; omega) (by have := HOK.out; omega)).mono ?_
  rintro e w3 ⟨rfl, hb⟩
  have HB3 := Lib.hid (HB2.out.trans (hb.mono HB2.out.size))
  have HI3 := Lib.hid (HI2.out.below' hb rfl)
  have HF3 := Lib.hid (HF2.out.past hb rfl)
  clear hb hl i0 i1 i2 i3 i4 i5 i6 f0
  go_wp2
  rw [rounds_succ]
  obtain ⟨hl, i0, i1, i2, i3, i4, i5, i6⟩ := HI3.out
  have f1 := HF3.out.2 1 _ rfl
  go_wp2_with fail
  refine (lay_n 7 d n m a c i (putS 2332033024 16 5 m) _ (putS_lt 2332033024 16 5 m hB0.1 hB0.2).1 (putS_lt 2332033024 16 5 m hB0.1 hB0.2).2 (by have := HOK.out; omega) (by have := HOK.out; omega)).mono ?_
  rintro e w4 ⟨rfl, hb⟩
  have HB4 := Lib.hid (HB3.out.trans (hb.mono HB3.out.size))
  have HI4 := Lib.hid (HI3.out.below' hb rfl)
  have HF4 := Lib.hid (HF3.out.past hb rfl)
  clear hb hl i0 i1 i2 i3 i4 i5 i6 f1
  go_wp2
  rw [rounds_succ]
  obtain ⟨hl, i0, i1, i2, i3, i4, i5, i6⟩ := HI4.out
  have f2 := HF4.out.2 2 _ rfl
  go_wp2_with fail
  refine (lay_d 7 d n m a c i (putS (putS 2332033024 16 5 m) 5 5 n) _ (putS_lt (putS 2332033024 16 5 m) 5 5 n (putS_lt 2332033024 16 5 m hB0.1 hB0.2).1 (putS_lt 2332033024 16 5 m hB0.1 hB0.2).2).1 (putS_lt (putS 2332033024 16 5 m) 5 5 n (putS_lt 2332033024 16 5 m hB0.1 hB0.2).1 (putS_lt 2332033024 16 5 m hB0.1 hB0.2).2).2 (by have := HOK.out; omega) (by have := HOK.out; omega)).mono ?_
  rintro e w5 ⟨rfl, hb⟩
  have HB5 := Lib.hid (HB4.out.trans (hb.mono HB4.out.size))
  have HI5 := Lib.hid (HI4.out.below' hb rfl)
  have HF5 := Lib.hid (HF4.out.past hb rfl)
  clear hb hl i0 i1 i2 i3 i4 i5 i6 f2
  go_wp2
  rw [rounds_succ]
  go_wp2
  refine bodyPost_ret (v := .tuple #[.int .u32 (putS (putS (putS 2332033024 16 5 m) 5 5 n) 0 5 d), .int .i64 0]) (by simp [results, Try.results166, go_sem]) rfl ⟨rfl, HB5.out⟩
set_option maxRecDepth 100000 in
set_option maxHeartbeats 4000000 in
theorem word_11 (d n m a c i : Int) (b : Nat) (w : World) (hok : ok_11 d n m a c i = true) (hm : w.ownsMap Try.prog 3 (plainElem (H := Unit) Try.prog 54) b 42 DD) : Calls Try.prog 166 #[.agg #[.map (some b)], .agg #[.int .i64 11, .int .i64 d, .int .i64 n, .int .i64 m, .int .i64 a, .int .i64 c, .int .i64 i]] w fun e w' => e = .returned (.tuple #[.int .u32 (putS (putS (putS 2852126720 16 5 m) 5 5 n) 0 5 d), .int .i64 0]) ∧ Below w.heap.size w w' := by
  have HCK := Lib.hid (fun w => (by have := check_11 d n m a c i w; rw [hok] at this; exact this) : ∀ w, Calls Try.prog 31 #[.agg #[.int .i64 11, .int .i64 d, .int .i64 n, .int .i64 m, .int .i64 a, .int .i64 c, .int .i64 i]] w fun e w' => e = .returned (.int .i64 0) ∧ Below w.heap.size w w')
  have hB0 : (0 : Int) ≤ 2852126720 ∧ (2852126720 : Int) < 4294967296 := by decide
  simp only [ok_11, wi, Bool.and_eq_true, decide_eq_true_eq, beq_iff_eq] at hok
  have HOK := Lib.hid hok
  clear hok
  go_enter Try.func166, Try.ntmps166
  go_wp2_with fail
  have HM0 := Lib.hid (map_past (map_past hm ((Below.refl _ _).alloc (Nat.le_refl _) (.cells #[.map (some b)] 238))) ((Below.refl _ _).alloc (Nat.le_refl _) (.cells #[.int .i64 11, .int .i64 d, .int .i64 n, .int .i64 m, .int .i64 a, .int .i64 c, .int .i64 i] 29)))
  have HI0 := Lib.hid (InsC.new (w.alloc (.cells #[.map (some b)] 238)) (.int .i64 11) (.int .i64 d) (.int .i64 n) (.int .i64 m) (.int .i64 a) (.int .i64 c) (.int .i64 i))
  have HE0 : Hid (((w.alloc (.cells #[.map (some b)] 238)).alloc (.cells #[.int .i64 11, .int .i64 d, .int .i64 n, .int .i64 m, .int .i64 a, .int .i64 c, .int .i64 i] 29)).cell? ⟨w.heap.size, 0, none⟩ = some (.map (some b))) := Lib.hid (by simp)
  refine (HCK.out _).mono ?_
  rintro e w1 ⟨rfl, hb⟩
  have HB1 : Hid (Below w.heap.size w w1) := Lib.hid ((((Below.refl _ _).alloc (Nat.le_refl _) _).alloc (by simp) _).trans (hb.mono (by simp; omega)))
  have HI1 := Lib.hid (HI0.out.below' hb rfl)
  rw [World.size_alloc] at HI1
  have HM1 := Lib.hid (map_past HM0.out hb)
  have e1 := (hb.cell (p := ⟨w.heap.size, 0, none⟩) (by simp; omega)).trans HE0.out
  have hs1 : w.heap.size + 1 < w1.heap.size := HI1.out.1
  obtain ⟨hl, i0, i1, i2, i3, i4, i5, i6⟩ := HI1.out
  clear hb HI0 HM0 HE0 hm
  go_wp2_with (at_lookup; refine wpList_lookup_own_int _ rfl _ _ 235 rfl 3 54 .u32 law3 Try.underlying235 Try.underlying54 (zero25 _) b 42 _ rfl HM1.out _ _ rfl (keyOf_int_mk Try.underlying3 (by decide)) ?_; intro c' hat hwc; obtain rfl : c' = 2852126720 := (look_c _ _ hat).trans (by decide))
  clear hat hwc e1 HM1
  refine (flds_11 _).mono ?_
  rintro e w2 ⟨rfl, hf, hb⟩
  have HB2 := Lib.hid (HB1.out.trans (hb.mono HB1.out.size))
  have HI2 := Lib.hid (HI1.out.below' hb rfl)
  have HF2 := Lib.hid hf
  clear hl i0 i1 i2 i3 i4 i5 i6
  obtain ⟨g, hg⟩ : ∃ g, g = w1.heap.size := ⟨_, rfl⟩
  rw [← hg] at HF2
  rw [← hg]
  clear hb hf HI1 HB1 hg hs1
  go_wp2_with fail
  refine wp_loop_rounds 4 ?_
  rw [rounds_succ]
  obtain ⟨hl, i0, i1, i2, i3, i4, i5, i6⟩ := HI2.out
  have f0 := HF2.out.2 0 _ rfl
  go_wp2_with fail
  refine (lay_m 11 d n m a c i 2852126720 _ hB0.1 hB0.2 (by have := HOK.out; omega) (by have := HOK.out; omega)).mono ?_
  rintro e w3 ⟨rfl, hb⟩
  have HB3 := Lib.hid (HB2.out.trans (hb.mono HB2.out.size))
  have HI3 := Lib.hid (HI2.out.below' hb rfl)
  have HF3 := Lib.hid (HF2.out.past hb rfl)
  clear hb hl i0 i1 i2 i3 i4 i5 i6 f0
  go_wp2
  rw [rounds_succ]
  obtain ⟨hl, i0, i1, i2, i3, i4, i5, i6⟩ := HI3.out
  have f1 := HF3.out.2 1 _ rfl
  go_wp2_with fail
  refine (lay_n 11 d n m a c i (putS 2852126720 16 5 m) _ (putS_lt 2852126720 16 5 m hB0.1 hB0.2).1 (putS_lt 2852126720 16 5 m hB0.1 hB0.2).2 (by have := HOK.out; omega) (by have := HOK.out; omega)).mono ?_
  rintro e w4 ⟨rfl, hb⟩
  have HB4 := Lib.hid (HB3.out.trans (hb.mono HB3.out.size))
  have HI4 := Lib.hid (HI3.out.below' hb rfl)
  have HF4 := Lib.hid (HF3.out.past hb rfl)
  clear hb hl i0 i1 i2 i3 i4 i5 i6 f1
  go_wp2
  rw [rounds_succ]
  obtain ⟨hl, i0, i1, i2, i3, i4, i5, i6⟩ := HI4.out
  have f2 := HF4.out.2 2 _ rfl
  go_wp2_with fail
  refine (lay_d 11 d n m a c i (putS (putS 2852126720 16 5 m) 5 5 n) _ (putS_lt (putS 2852126720 16 5 m) 5 5 n (putS_lt 2852126720 16 5 m hB0.1 hB0.2).1 (putS_lt 2852126720 16 5 m hB0.1 hB0.2).2).1 (putS_lt (putS 2852126720 16 5 m) 5 5 n (putS_lt 2852126720 16 5 m hB0.1 hB0.2).1 (putS_lt 2852126720 16 5 m hB0.1 hB0.2).2).2 (by have := HOK.out; omega) (by have := HOK.out; omega)).mono ?_
  rintro e w5 ⟨rfl, hb⟩
  have HB5 := Lib.hid (HB4.out.trans (hb.mono HB4.out.size))
  have HI5 := Lib.hid (HI4.out.below' hb rfl)
  have HF5 := Lib.hid (HF4.out.past hb rfl)
  clear hb hl i0 i1 i2 i3 i4 i5 i6 f2
  go_wp2
  rw [rounds_succ]
  go_wp2
  refine bodyPost_ret (v := .tuple #[.int .u32 (putS (putS (putS 2852126720 16 5 m) 5 5 n) 0 5 d), .int .i64 0]) (by simp [results, Try.results166, go_sem]) rfl ⟨rfl, HB5.out⟩
set_option maxRecDepth 100000 in
set_option maxHeartbeats 4000000 in
theorem word_15 (d n m a c i : Int) (b : Nat) (w : World) (hok : ok_15 d n m a c i = true) (hm : w.ownsMap Try.prog 3 (plainElem (H := Unit) Try.prog 54) b 42 DD) : Calls Try.prog 166 #[.agg #[.map (some b)], .agg #[.int .i64 15, .int .i64 d, .int .i64 n, .int .i64 m, .int .i64 a, .int .i64 c, .int .i64 i]] w fun e w' => e = .returned (.tuple #[.int .u32 (putS (putS (putS 2596277248 16 5 m) 5 5 n) 0 5 d), .int .i64 0]) ∧ Below w.heap.size w w' := by
  have HCK := Lib.hid (fun w => (by have := check_15 d n m a c i w; rw [hok] at this; exact this) : ∀ w, Calls Try.prog 31 #[.agg #[.int .i64 15, .int .i64 d, .int .i64 n, .int .i64 m, .int .i64 a, .int .i64 c, .int .i64 i]] w fun e w' => e = .returned (.int .i64 0) ∧ Below w.heap.size w w')
  have hB0 : (0 : Int) ≤ 2596277248 ∧ (2596277248 : Int) < 4294967296 := by decide
  simp only [ok_15, wi, Bool.and_eq_true, decide_eq_true_eq, beq_iff_eq] at hok
  have HOK := Lib.hid hok
  clear hok
  go_enter Try.func166, Try.ntmps166
  go_wp2_with fail
  have HM0 := Lib.hid (map_past (map_past hm ((Below.refl _ _).alloc (Nat.le_refl _) (.cells #[.map (some b)] 238))) ((Below.refl _ _).alloc (Nat.le_refl _) (.cells #[.int .i64 15, .int .i64 d, .int .i64 n, .int .i64 m, .int .i64 a, .int .i64 c, .int .i64 i] 29)))
  have HI0 := Lib.hid (InsC.new (w.alloc (.cells #[.map (some b)] 238)) (.int .i64 15) (.int .i64 d) (.int .i64 n) (.int .i64 m) (.int .i64 a) (.int .i64 c) (.int .i64 i))
  have HE0 : Hid (((w.alloc (.cells #[.map (some b)] 238)).alloc (.cells #[.int .i64 15, .int .i64 d, .int .i64 n, .int .i64 m, .int .i64 a, .int .i64 c, .int .i64 i] 29)).cell? ⟨w.heap.size, 0, none⟩ = some (.map (some b))) := Lib.hid (by simp)
  refine (HCK.out _).mono ?_
  rintro e w1 ⟨rfl, hb⟩
  have HB1 : Hid (Below w.heap.size w w1) := Lib.hid ((((Below.refl _ _).alloc (Nat.le_refl _) _).alloc (by simp) _).trans (hb.mono (by simp; omega)))
  have HI1 := Lib.hid (HI0.out.below' hb rfl)
  rw [World.size_alloc] at HI1
  have HM1 := Lib.hid (map_past HM0.out hb)
  have e1 := (hb.cell (p := ⟨w.heap.size, 0, none⟩) (by simp; omega)).trans HE0.out
  have hs1 : w.heap.size + 1 < w1.heap.size := HI1.out.1
  obtain ⟨hl, i0, i1, i2, i3, i4, i5, i6⟩ := HI1.out
  clear hb HI0 HM0 HE0 hm
  go_wp2_with (at_lookup; refine wpList_lookup_own_int _ rfl _ _ 235 rfl 3 54 .u32 law3 Try.underlying235 Try.underlying54 (zero25 _) b 42 _ rfl HM1.out _ _ rfl (keyOf_int_mk Try.underlying3 (by decide)) ?_; intro c' hat hwc; obtain rfl : c' = 2596277248 := (look_c _ _ hat).trans (by decide))
  clear hat hwc e1 HM1
  refine (flds_15 _).mono ?_
  rintro e w2 ⟨rfl, hf, hb⟩
  have HB2 := Lib.hid (HB1.out.trans (hb.mono HB1.out.size))
  have HI2 := Lib.hid (HI1.out.below' hb rfl)
  have HF2 := Lib.hid hf
  clear hl i0 i1 i2 i3 i4 i5 i6
  obtain ⟨g, hg⟩ : ∃ g, g = w1.heap.size := ⟨_, rfl⟩
  rw [← hg] at HF2
  rw [← hg]
  clear hb hf HI1 HB1 hg hs1
  go_wp2_with fail
  refine wp_loop_rounds 4 ?_
  rw [rounds_succ]
  obtain ⟨hl, i0, i1, i2, i3, i4, i5, i6⟩ := HI2.out
  have f0 := HF2.out.2 0 _ rfl
  go_wp2_with fail
  refine (lay_m 15 d n m a c i 2596277248 _ hB0.1 hB0.2 (by have := HOK.out; omega) (by have := HOK.out; omega)).mono ?_
  rintro e w3 ⟨rfl, hb⟩
  have HB3 := Lib.hid (HB2.out.trans (hb.mono HB2.out.size))
  have HI3 := Lib.hid (HI2.out.below' hb rfl)
  have HF3 := Lib.hid (HF2.out.past hb rfl)
  clear hb hl i0 i1 i2 i3 i4 i5 i6 f0
  go_wp2
  rw [rounds_succ]
  obtain ⟨hl, i0, i1, i2, i3, i4, i5, i6⟩ := HI3.out
  have f1 := HF3.out.2 1 _ rfl
  go_wp2_with fail
  refine (lay_n 15 d n m a c i (putS 2596277248 16 5 m) _ (putS_lt 2596277248 16 5 m hB0.1 hB0.2).1 (putS_lt 2596277248 16 5 m hB0.1 hB0.2).2 (by have := HOK.out; omega) (by have := HOK.out; omega)).mono ?_
  rintro e w4 ⟨rfl, hb⟩
  have HB4 := Lib.hid (HB3.out.trans (hb.mono HB3.out.size))
  have HI4 := Lib.hid (HI3.out.below' hb rfl)
  have HF4 := Lib.hid (HF3.out.past hb rfl)
  clear hb hl i0 i1 i2 i3 i4 i5 i6 f1
  go_wp2
  rw [rounds_succ]
  obtain ⟨hl, i0, i1, i2, i3, i4, i5, i6⟩ := HI4.out
  have f2 := HF4.out.2 2 _ rfl
  go_wp2_with fail
  refine (lay_d 15 d n m a c i (putS (putS 2596277248 16 5 m) 5 5 n) _ (putS_lt (putS 2596277248 16 5 m) 5 5 n (putS_lt 2596277248 16 5 m hB0.1 hB0.2).1 (putS_lt 2596277248 16 5 m hB0.1 hB0.2).2).1 (putS_lt (putS 2596277248 16 5 m) 5 5 n (putS_lt 2596277248 16 5 m hB0.1 hB0.2).1 (putS_lt 2596277248 16 5 m hB0.1 hB0.2).2).2 (by have := HOK.out; omega) (by have := HOK.out; omega)).mono ?_
  rintro e w5 ⟨rfl, hb⟩
  have HB5 := Lib.hid (HB4.out.trans (hb.mono HB4.out.size))
  have HI5 := Lib.hid (HI4.out.below' hb rfl)
  have HF5 := Lib.hid (HF4.out.past hb rfl)
  clear hb hl i0 i1 i2 i3 i4 i5 i6 f2
  go_wp2
  rw [rounds_succ]
  go_wp2
  refine bodyPost_ret (v := .tuple #[.int .u32 (putS (putS (putS 2596277248 16 5 m) 5 5 n) 0 5 d), .int .i64 0]) (by simp [results, Try.results166, go_sem]) rfl ⟨rfl, HB5.out⟩
set_option maxRecDepth 100000 in
set_option maxHeartbeats 4000000 in
theorem word_19 (d n m a c i : Int) (b : Nat) (w : World) (hok : ok_19 d n m a c i = true) (hm : w.ownsMap Try.prog 3 (plainElem (H := Unit) Try.prog 54) b 42 DD) : Calls Try.prog 166 #[.agg #[.map (some b)], .agg #[.int .i64 19, .int .i64 d, .int .i64 n, .int .i64 m, .int .i64 a, .int .i64 c, .int .i64 i]] w fun e w' => e = .returned (.tuple #[.int .u32 (putS (putS (putS (putS 2592080896 16 5 m) 12 4 c) 5 5 n) 0 5 d), .int .i64 0]) ∧ Below w.heap.size w w' := by
  have HCK := Lib.hid (fun w => (by have := check_19 d n m a c i w; rw [hok] at this; exact this) : ∀ w, Calls Try.prog 31 #[.agg #[.int .i64 19, .int .i64 d, .int .i64 n, .int .i64 m, .int .i64 a, .int .i64 c, .int .i64 i]] w fun e w' => e = .returned (.int .i64 0) ∧ Below w.heap.size w w')
  have hB0 : (0 : Int) ≤ 2592080896 ∧ (2592080896 : Int) < 4294967296 := by decide
  simp only [ok_19, wi, Bool.and_eq_true, decide_eq_true_eq, beq_iff_eq] at hok
  have HOK := Lib.hid hok
  clear hok
  go_enter Try.func166, Try.ntmps166
  go_wp2_with fail
  have HM0 := Lib.hid (map_past (map_past hm ((Below.refl _ _).alloc (Nat.le_refl _) (.cells #[.map (some b)] 238))) ((Below.refl _ _).alloc (Nat.le_refl _) (.cells #[.int .i64 19, .int .i64 d, .int .i64 n, .int .i64 m, .int .i64 a, .int .i64 c, .int .i64 i] 29)))
  have HI0 := Lib.hid (InsC.new (w.alloc (.cells #[.map (some b)] 238)) (.int .i64 19) (.int .i64 d) (.int .i64 n) (.int .i64 m) (.int .i64 a) (.int .i64 c) (.int .i64 i))
  have HE0 : Hid (((w.alloc (.cells #[.map (some b)] 238)).alloc (.cells #[.int .i64 19, .int .i64 d, .int .i64 n, .int .i64 m, .int .i64 a, .int .i64 c, .int .i64 i] 29)).cell? ⟨w.heap.size, 0, none⟩ = some (.map (some b))) := Lib.hid (by simp)
  refine (HCK.out _).mono ?_
  rintro e w1 ⟨rfl, hb⟩
  have HB1 : Hid (Below w.heap.size w w1) := Lib.hid ((((Below.refl _ _).alloc (Nat.le_refl _) _).alloc (by simp) _).trans (hb.mono (by simp; omega)))
  have HI1 := Lib.hid (HI0.out.below' hb rfl)
  rw [World.size_alloc] at HI1
  have HM1 := Lib.hid (map_past HM0.out hb)
  have e1 := (hb.cell (p := ⟨w.heap.size, 0, none⟩) (by simp; omega)).trans HE0.out
  have hs1 : w.heap.size + 1 < w1.heap.size := HI1.out.1
  obtain ⟨hl, i0, i1, i2, i3, i4, i5, i6⟩ := HI1.out
  clear hb HI0 HM0 HE0 hm
  go_wp2_with (at_lookup; refine wpList_lookup_own_int _ rfl _ _ 235 rfl 3 54 .u32 law3 Try.underlying235 Try.underlying54 (zero25 _) b 42 _ rfl HM1.out _ _ rfl (keyOf_int_mk Try.underlying3 (by decide)) ?_; intro c' hat hwc; obtain rfl : c' = 2592080896 := (look_c _ _ hat).trans (by decide))
  clear hat hwc e1 HM1
  refine (flds_19 _).mono ?_
  rintro e w2 ⟨rfl, hf, hb⟩
  have HB2 := Lib.hid (HB1.out.trans (hb.mono HB1.out.size))
  have HI2 := Lib.hid (HI1.out.below' hb rfl)
  have HF2 := Lib.hid hf
  clear hl i0 i1 i2 i3 i4 i5 i6
  obtain ⟨g, hg⟩ : ∃ g, g = w1.heap.size := ⟨_, rfl⟩
  rw [← hg] at HF2
  rw [← hg]
  clear hb hf HI1 HB1 hg hs1
  go_wp2_with fail
  refine wp_loop_rounds 5 ?_
  rw [rounds_succ]
  obtain ⟨hl, i0, i1, i2, i3, i4, i5, i6⟩ := HI2.out
  have f0 := HF2.out.2 0 _ rfl
  go_wp2_with fail
  refine (lay_m 19 d n m a c i 2592080896 _ hB0.1 hB0.2 (by have := HOK.out; omega) (by have := HOK.out; omega)).mono ?_
  rintro e w3 ⟨rfl, hb⟩
  have HB3 := Lib.hid (HB2.out.trans (hb.mono HB2.out.size))
  have HI3 := Lib.hid (HI2.out.below' hb rfl)
  have HF3 := Lib.hid (HF2.out.past hb rfl)
  clear hb hl i0 i1 i2 i3 i4 i5 i6 f0
  go_wp2
  rw [rounds_succ]
  obtain ⟨hl, i0, i1, i2, i3, i4, i5, i6⟩ := HI3.out
  have f1 := HF3.out.2 1 _ rfl
  go_wp2_with fail
  refine (lay_condAbove 19 d n m a c i (putS 2592080896 16 5 m) _ (putS_lt 2592080896 16 5 m hB0.1 hB0.2).1 (putS_lt 2592080896 16 5 m hB0.1 hB0.2).2 (by have := HOK.out; omega) (by have := HOK.out; omega)).mono ?_
  rintro e w4 ⟨rfl, hb⟩
  have HB4 := Lib.hid (HB3.out.trans (hb.mono HB3.out.size))
  have HI4 := Lib.hid (HI3.out.below' hb rfl)
  have HF4 := Lib.hid (HF3.out.past hb rfl)
  clear hb hl i0 i1 i2 i3 i4 i5 i6 f1
  go_wp2
  rw [rounds_succ]
  obtain ⟨hl, i0, i1, i2, i3, i4, i5, i6⟩ := HI4.out
  have f2 := HF4.out.2 2 _ rfl
  go_wp2_with fail
  refine (lay_n 19 d n m a c i (putS (putS 2592080896 16 5 m) 12 4 c) _ (putS_lt (putS 2592080896 16 5 m) 12 4 c (putS_lt 2592080896 16 5 m hB0.1 hB0.2).1 (putS_lt 2592080896 16 5 m hB0.1 hB0.2).2).1 (putS_lt (putS 2592080896 16 5 m) 12 4 c (putS_lt 2592080896 16 5 m hB0.1 hB0.2).1 (putS_lt 2592080896 16 5 m hB0.1 hB0.2).2).2 (by have := HOK.out; omega) (by have := HOK.out; omega)).mono ?_
  rintro e w5 ⟨rfl, hb⟩
  have HB5 := Lib.hid (HB4.out.trans (hb.mono HB4.out.size))
  have HI5 := Lib.hid (HI4.out.below' hb rfl)
  have HF5 := Lib.hid (HF4.out.past hb rfl)
  clear hb hl i0 i1 i2 i3 i4 i5 i6 f2
  go_wp2
  rw [rounds_succ]
  obtain ⟨hl, i0, i1, i2, i3, i4, i5, i6⟩ := HI5.out
  have f3 := HF5.out.2 3 _ rfl
  go_wp2_with fail
  refine (lay_d 19 d n m a c i (putS (putS (putS 2592080896 16 5 m) 12 4 c) 5 5 n) _ (putS_lt (putS (putS 2592080896 16 5 m) 12 4 c) 5 5 n (putS_lt (putS 2592080896 16 5 m) 12 4 c (putS_lt 2592080896 16 5 m hB0.1 hB0.2).1 (putS_lt 2592080896 16 5 m hB0.1 hB0.2).2).1 (putS_lt (putS 2592080896 16 5 m) 12 4 c (putS_lt 2592080896 16 5 m hB0.1 hB0.2).1 (putS_lt 2592080896 16 5 m hB0.1 hB0.2).2).2).1 (putS_lt (putS (putS 2592080896 16 5 m) 12 4 c) 5 5 n (putS_lt (putS 2592080896 16 5 m) 12 4 c (putS_lt 2592080896 16 5 m hB0.1 hB0.2).1 (putS_lt 2592080896 16 5 m hB0.1 hB0.2).2).1 (putS_lt (putS 2592080896 16 5 m) 12 4 c (putS_lt 2592080896 16 5 m hB0.1 hB0.2).1 (putS_lt 2592080896 16 5 m hB0.1 hB0.2).2).2).2 (by have := HOK.out; omega) (by have := HOK.out; omega)).mono ?_
  rintro e w6 ⟨rfl, hb⟩
  have HB6 := Lib.hid (HB5.out.trans (hb.mono HB5.out.size))
  have HI6 := Lib.hid (HI5.out.below' hb rfl)
  have HF6 := Lib.hid (HF5.out.past hb rfl)
  clear hb hl i0 i1 i2 i3 i4 i5 i6 f3
  go_wp2
  rw [rounds_succ]
  go_wp2
  refine bodyPost_ret (v := .tuple #[.int .u32 (putS (putS (putS (putS 2592080896 16 5 m) 12 4 c) 5 5 n) 0 5 d), .int .i64 0]) (by simp [results, Try.results166, go_sem]) rfl ⟨rfl, HB6.out⟩
set_option maxRecDepth 100000 in
set_option maxHeartbeats 4000000 in
theorem word_23 (d n m a c i : Int) (b : Nat) (w : World) (hok : ok_23 d n m a c i = true) (hm : w.ownsMap Try.prog 3 (plainElem (H := Unit) Try.prog 54) b 42 DD) : Calls Try.prog 166 #[.agg #[.map (some b)], .agg #[.int .i64 23, .int .i64 d, .int .i64 n, .int .i64 m, .int .i64 a, .int .i64 c, .int .i64 i]] w fun e w' => e = .returned (.tuple #[.int .u32 (putS (putS 3036676096 5 19 (i / 4 % 4294967296)) 0 5 d), .int .i64 0]) ∧ Below w.heap.size w w' := by
  have HCK := Lib.hid (fun w => (by have := check_23 d n m a c i w; rw [hok] at this; exact this) : ∀ w, Calls Try.prog 31 #[.agg #[.int .i64 23, .int .i64 d, .int .i64 n, .int .i64 m, .int .i64 a, .int .i64 c, .int .i64 i]] w fun e w' => e = .returned (.int .i64 0) ∧ Below w.heap.size w w')
  have hB0 : (0 : Int) ≤ 3036676096 ∧ (3036676096 : Int) < 4294967296 := by decide
  simp only [ok_23, wi, wm, Bool.and_eq_true, decide_eq_true_eq, beq_iff_eq] at hok
  have HOK := Lib.hid hok
  clear hok
  go_enter Try.func166, Try.ntmps166
  go_wp2_with fail
  have HM0 := Lib.hid (map_past (map_past hm ((Below.refl _ _).alloc (Nat.le_refl _) (.cells #[.map (some b)] 238))) ((Below.refl _ _).alloc (Nat.le_refl _) (.cells #[.int .i64 23, .int .i64 d, .int .i64 n, .int .i64 m, .int .i64 a, .int .i64 c, .int .i64 i] 29)))
  have HI0 := Lib.hid (InsC.new (w.alloc (.cells #[.map (some b)] 238)) (.int .i64 23) (.int .i64 d) (.int .i64 n) (.int .i64 m) (.int .i64 a) (.int .i64 c) (.int .i64 i))
  have HE0 : Hid (((w.alloc (.cells #[.map (some b)] 238)).alloc (.cells #[.int .i64 23, .int .i64 d, .int .i64 n, .int .i64 m, .int .i64 a, .int .i64 c, .int .i64 i] 29)).cell? ⟨w.heap.size, 0, none⟩ = some (.map (some b))) := Lib.hid (by simp)
  refine (HCK.out _).mono ?_
  rintro e w1 ⟨rfl, hb⟩
  have HB1 : Hid (Below w.heap.size w w1) := Lib.hid ((((Below.refl _ _).alloc (Nat.le_refl _) _).alloc (by simp) _).trans (hb.mono (by simp; omega)))
  have HI1 := Lib.hid (HI0.out.below' hb rfl)
  rw [World.size_alloc] at HI1
  have HM1 := Lib.hid (map_past HM0.out hb)
  have e1 := (hb.cell (p := ⟨w.heap.size, 0, none⟩) (by simp; omega)).trans HE0.out
  have hs1 : w.heap.size + 1 < w1.heap.size := HI1.out.1
  obtain ⟨hl, i0, i1, i2, i3, i4, i5, i6⟩ := HI1.out
  clear hb HI0 HM0 HE0 hm
  go_wp2_with (at_lookup; refine wpList_lookup_own_int _ rfl _ _ 235 rfl 3 54 .u32 law3 Try.underlying235 Try.underlying54 (zero25 _) b 42 _ rfl HM1.out _ _ rfl (keyOf_int_mk Try.underlying3 (by decide)) ?_; intro c' hat hwc; obtain rfl : c' = 3036676096 := (look_c _ _ hat).trans (by decide))
  clear hat hwc e1 HM1
  refine (flds_23 _).mono ?_
  rintro e w2 ⟨rfl, hf, hb⟩
  have HB2 := Lib.hid (HB1.out.trans (hb.mono HB1.out.size))
  have HI2 := Lib.hid (HI1.out.below' hb rfl)
  have HF2 := Lib.hid hf
  clear hl i0 i1 i2 i3 i4 i5 i6
  obtain ⟨g, hg⟩ : ∃ g, g = w1.heap.size := ⟨_, rfl⟩
  rw [← hg] at HF2
  rw [← hg]
  clear hb hf HI1 HB1 hg hs1
  go_wp2_with fail
  refine wp_loop_rounds 3 ?_
  rw [rounds_succ]
  obtain ⟨hl, i0, i1, i2, i3, i4, i5, i6⟩ := HI2.out
  have f0 := HF2.out.2 0 _ rfl
  go_wp2_with fail
  refine (lay_near 23 d n m a c i 3036676096 (i / 4) _ hB0.1 hB0.2 (by have := HOK.out; omega) (by have := HOK.out; omega) (by have := HOK.out; omega)).mono ?_
  rintro e w3 ⟨rfl, hb⟩
  have HB3 := Lib.hid (HB2.out.trans (hb.mono HB2.out.size))
  have HI3 := Lib.hid (HI2.out.below' hb rfl)
  have HF3 := Lib.hid (HF2.out.past hb rfl)
  clear hb hl i0 i1 i2 i3 i4 i5 i6 f0
  go_wp2
  rw [rounds_succ]
  obtain ⟨hl, i0, i1, i2, i3, i4, i5, i6⟩ := HI3.out
  have f1 := HF3.out.2 1 _ rfl
  go_wp2_with fail
  refine (lay_d 23 d n m a c i (putS 3036676096 5 19 (i / 4 % 4294967296)) _ (putS_lt 3036676096 5 19 (i / 4 % 4294967296) hB0.1 hB0.2).1 (putS_lt 3036676096 5 19 (i / 4 % 4294967296) hB0.1 hB0.2).2 (by have := HOK.out; omega) (by have := HOK.out; omega)).mono ?_
  rintro e w4 ⟨rfl, hb⟩
  have HB4 := Lib.hid (HB3.out.trans (hb.mono HB3.out.size))
  have HI4 := Lib.hid (HI3.out.below' hb rfl)
  have HF4 := Lib.hid (HF3.out.past hb rfl)
  clear hb hl i0 i1 i2 i3 i4 i5 i6 f1
  go_wp2
  rw [rounds_succ]
  go_wp2
  refine bodyPost_ret (v := .tuple #[.int .u32 (putS (putS 3036676096 5 19 (i / 4 % 4294967296)) 0 5 d), .int .i64 0]) (by simp [results, Try.results166, go_sem]) rfl ⟨rfl, HB4.out⟩
set_option maxRecDepth 100000 in
set_option maxHeartbeats 4000000 in
theorem word_27 (d n m a c i : Int) (b : Nat) (w : World) (hok : ok_27 d n m a c i = true) (hm : w.ownsMap Try.prog 3 (plainElem (H := Unit) Try.prog 54) b 42 DD) : Calls Try.prog 166 #[.agg #[.map (some b)], .agg #[.int .i64 27, .int .i64 d, .int .i64 n, .int .i64 m, .int .i64 a, .int .i64 c, .int .i64 i]] w fun e w' => e = .returned (.tuple #[.int .u32 (putS 3596550144 5 5 n), .int .i64 0]) ∧ Below w.heap.size w w' := by
  have HCK := Lib.hid (fun w => (by have := check_27 d n m a c i w; rw [hok] at this; exact this) : ∀ w, Calls Try.prog 31 #[.agg #[.int .i64 27, .int .i64 d, .int .i64 n, .int .i64 m, .int .i64 a, .int .i64 c, .int .i64 i]] w fun e w' => e = .returned (.int .i64 0) ∧ Below w.heap.size w w')
  have hB0 : (0 : Int) ≤ 3596550144 ∧ (3596550144 : Int) < 4294967296 := by decide
  simp only [ok_27, wi, Bool.and_eq_true, decide_eq_true_eq, beq_iff_eq] at hok
  have HOK := Lib.hid hok
  clear hok
  go_enter Try.func166, Try.ntmps166
  go_wp2_with fail
  have HM0 := Lib.hid (map_past (map_past hm ((Below.refl _ _).alloc (Nat.le_refl _) (.cells #[.map (some b)] 238))) ((Below.refl _ _).alloc (Nat.le_refl _) (.cells #[.int .i64 27, .int .i64 d, .int .i64 n, .int .i64 m, .int .i64 a, .int .i64 c, .int .i64 i] 29)))
  have HI0 := Lib.hid (InsC.new (w.alloc (.cells #[.map (some b)] 238)) (.int .i64 27) (.int .i64 d) (.int .i64 n) (.int .i64 m) (.int .i64 a) (.int .i64 c) (.int .i64 i))
  have HE0 : Hid (((w.alloc (.cells #[.map (some b)] 238)).alloc (.cells #[.int .i64 27, .int .i64 d, .int .i64 n, .int .i64 m, .int .i64 a, .int .i64 c, .int .i64 i] 29)).cell? ⟨w.heap.size, 0, none⟩ = some (.map (some b))) := Lib.hid (by simp)
  refine (HCK.out _).mono ?_
  rintro e w1 ⟨rfl, hb⟩
  have HB1 : Hid (Below w.heap.size w w1) := Lib.hid ((((Below.refl _ _).alloc (Nat.le_refl _) _).alloc (by simp) _).trans (hb.mono (by simp; omega)))
  have HI1 := Lib.hid (HI0.out.below' hb rfl)
  rw [World.size_alloc] at HI1
  have HM1 := Lib.hid (map_past HM0.out hb)
  have e1 := (hb.cell (p := ⟨w.heap.size, 0, none⟩) (by simp; omega)).trans HE0.out
  have hs1 : w.heap.size + 1 < w1.heap.size := HI1.out.1
  obtain ⟨hl, i0, i1, i2, i3, i4, i5, i6⟩ := HI1.out
  clear hb HI0 HM0 HE0 hm
  go_wp2_with (at_lookup; refine wpList_lookup_own_int _ rfl _ _ 235 rfl 3 54 .u32 law3 Try.underlying235 Try.underlying54 (zero25 _) b 42 _ rfl HM1.out _ _ rfl (keyOf_int_mk Try.underlying3 (by decide)) ?_; intro c' hat hwc; obtain rfl : c' = 3596550144 := (look_c _ _ hat).trans (by decide))
  clear hat hwc e1 HM1
  refine (flds_27 _).mono ?_
  rintro e w2 ⟨rfl, hf, hb⟩
  have HB2 := Lib.hid (HB1.out.trans (hb.mono HB1.out.size))
  have HI2 := Lib.hid (HI1.out.below' hb rfl)
  have HF2 := Lib.hid hf
  clear hl i0 i1 i2 i3 i4 i5 i6
  obtain ⟨g, hg⟩ : ∃ g, g = w1.heap.size := ⟨_, rfl⟩
  rw [← hg] at HF2
  rw [← hg]
  clear hb hf HI1 HB1 hg hs1
  go_wp2_with fail
  refine wp_loop_rounds 2 ?_
  rw [rounds_succ]
  obtain ⟨hl, i0, i1, i2, i3, i4, i5, i6⟩ := HI2.out
  have f0 := HF2.out.2 0 _ rfl
  go_wp2_with fail
  refine (lay_n 27 d n m a c i 3596550144 _ hB0.1 hB0.2 (by have := HOK.out; omega) (by have := HOK.out; omega)).mono ?_
  rintro e w3 ⟨rfl, hb⟩
  have HB3 := Lib.hid (HB2.out.trans (hb.mono HB2.out.size))
  have HI3 := Lib.hid (HI2.out.below' hb rfl)
  have HF3 := Lib.hid (HF2.out.past hb rfl)
  clear hb hl i0 i1 i2 i3 i4 i5 i6 f0
  go_wp2
  rw [rounds_succ]
  go_wp2
  refine bodyPost_ret (v := .tuple #[.int .u32 (putS 3596550144 5 5 n), .int .i64 0]) (by simp [results, Try.results166, go_sem]) rfl ⟨rfl, HB3.out⟩
set_option maxRecDepth 100000 in
set_option maxHeartbeats 4000000 in
theorem word_31 (d n m a c i : Int) (b : Nat) (w : World) (hok : ok_31 d n m a c i = true) (hm : w.ownsMap Try.prog 3 (plainElem (H := Unit) Try.prog 54) b 42 DD) : Calls Try.prog 166 #[.agg #[.map (some b)], .agg #[.int .i64 31, .int .i64 d, .int .i64 n, .int .i64 m, .int .i64 a, .int .i64 c, .int .i64 i]] w fun e w' => e = .returned (.tuple #[.int .u32 (putS (putS (putS 4167071744 16 5 m) 5 5 n) 0 5 d), .int .i64 0]) ∧ Below w.heap.size w w' := by
  have HCK := Lib.hid (fun w => (by have := check_31 d n m a c i w; rw [hok] at this; exact this) : ∀ w, Calls Try.prog 31 #[.agg #[.int .i64 31, .int .i64 d, .int .i64 n, .int .i64 m, .int .i64 a, .int .i64 c, .int .i64 i]] w fun e w' => e = .returned (.int .i64 0) ∧ Below w.heap.size w w')
  have hB0 : (0 : Int) ≤ 4167071744 ∧ (4167071744 : Int) < 4294967296 := by decide
  simp only [ok_31, wi, Bool.and_eq_true, decide_eq_true_eq, beq_iff_eq] at hok
  have HOK := Lib.hid hok
  clear hok
  go_enter Try.func166, Try.ntmps166
  go_wp2_with fail
  have HM0 := Lib.hid (map_past (map_past hm ((Below.refl _ _).alloc (Nat.le_refl _) (.cells #[.map (some b)] 238))) ((Below.refl _ _).alloc (Nat.le_refl _) (.cells #[.int .i64 31, .int .i64 d, .int .i64 n, .int .i64 m, .int .i64 a, .int .i64 c, .int .i64 i] 29)))
  have HI0 := Lib.hid (InsC.new (w.alloc (.cells #[.map (some b)] 238)) (.int .i64 31) (.int .i64 d) (.int .i64 n) (.int .i64 m) (.int .i64 a) (.int .i64 c) (.int .i64 i))
  have HE0 : Hid (((w.alloc (.cells #[.map (some b)] 238)).alloc (.cells #[.int .i64 31, .int .i64 d, .int .i64 n, .int .i64 m, .int .i64 a, .int .i64 c, .int .i64 i] 29)).cell? ⟨w.heap.size, 0, none⟩ = some (.map (some b))) := Lib.hid (by simp)
  refine (HCK.out _).mono ?_
  rintro e w1 ⟨rfl, hb⟩
  have HB1 : Hid (Below w.heap.size w w1) := Lib.hid ((((Below.refl _ _).alloc (Nat.le_refl _) _).alloc (by simp) _).trans (hb.mono (by simp; omega)))
  have HI1 := Lib.hid (HI0.out.below' hb rfl)
  rw [World.size_alloc] at HI1
  have HM1 := Lib.hid (map_past HM0.out hb)
  have e1 := (hb.cell (p := ⟨w.heap.size, 0, none⟩) (by simp; omega)).trans HE0.out
  have hs1 : w.heap.size + 1 < w1.heap.size := HI1.out.1
  obtain ⟨hl, i0, i1, i2, i3, i4, i5, i6⟩ := HI1.out
  clear hb HI0 HM0 HE0 hm
  go_wp2_with (at_lookup; refine wpList_lookup_own_int _ rfl _ _ 235 rfl 3 54 .u32 law3 Try.underlying235 Try.underlying54 (zero25 _) b 42 _ rfl HM1.out _ _ rfl (keyOf_int_mk Try.underlying3 (by decide)) ?_; intro c' hat hwc; obtain rfl : c' = 4167071744 := (look_c _ _ hat).trans (by decide))
  clear hat hwc e1 HM1
  refine (flds_31 _).mono ?_
  rintro e w2 ⟨rfl, hf, hb⟩
  have HB2 := Lib.hid (HB1.out.trans (hb.mono HB1.out.size))
  have HI2 := Lib.hid (HI1.out.below' hb rfl)
  have HF2 := Lib.hid hf
  clear hl i0 i1 i2 i3 i4 i5 i6
  obtain ⟨g, hg⟩ : ∃ g, g = w1.heap.size := ⟨_, rfl⟩
  rw [← hg] at HF2
  rw [← hg]
  clear hb hf HI1 HB1 hg hs1
  go_wp2_with fail
  refine wp_loop_rounds 4 ?_
  rw [rounds_succ]
  obtain ⟨hl, i0, i1, i2, i3, i4, i5, i6⟩ := HI2.out
  have f0 := HF2.out.2 0 _ rfl
  go_wp2_with fail
  refine (lay_m 31 d n m a c i 4167071744 _ hB0.1 hB0.2 (by have := HOK.out; omega) (by have := HOK.out; omega)).mono ?_
  rintro e w3 ⟨rfl, hb⟩
  have HB3 := Lib.hid (HB2.out.trans (hb.mono HB2.out.size))
  have HI3 := Lib.hid (HI2.out.below' hb rfl)
  have HF3 := Lib.hid (HF2.out.past hb rfl)
  clear hb hl i0 i1 i2 i3 i4 i5 i6 f0
  go_wp2
  rw [rounds_succ]
  obtain ⟨hl, i0, i1, i2, i3, i4, i5, i6⟩ := HI3.out
  have f1 := HF3.out.2 1 _ rfl
  go_wp2_with fail
  refine (lay_n 31 d n m a c i (putS 4167071744 16 5 m) _ (putS_lt 4167071744 16 5 m hB0.1 hB0.2).1 (putS_lt 4167071744 16 5 m hB0.1 hB0.2).2 (by have := HOK.out; omega) (by have := HOK.out; omega)).mono ?_
  rintro e w4 ⟨rfl, hb⟩
  have HB4 := Lib.hid (HB3.out.trans (hb.mono HB3.out.size))
  have HI4 := Lib.hid (HI3.out.below' hb rfl)
  have HF4 := Lib.hid (HF3.out.past hb rfl)
  clear hb hl i0 i1 i2 i3 i4 i5 i6 f1
  go_wp2
  rw [rounds_succ]
  obtain ⟨hl, i0, i1, i2, i3, i4, i5, i6⟩ := HI4.out
  have f2 := HF4.out.2 2 _ rfl
  go_wp2_with fail
  refine (lay_d 31 d n m a c i (putS (putS 4167071744 16 5 m) 5 5 n) _ (putS_lt (putS 4167071744 16 5 m) 5 5 n (putS_lt 4167071744 16 5 m hB0.1 hB0.2).1 (putS_lt 4167071744 16 5 m hB0.1 hB0.2).2).1 (putS_lt (putS 4167071744 16 5 m) 5 5 n (putS_lt 4167071744 16 5 m hB0.1 hB0.2).1 (putS_lt 4167071744 16 5 m hB0.1 hB0.2).2).2 (by have := HOK.out; omega) (by have := HOK.out; omega)).mono ?_
  rintro e w5 ⟨rfl, hb⟩
  have HB5 := Lib.hid (HB4.out.trans (hb.mono HB4.out.size))
  have HI5 := Lib.hid (HI4.out.below' hb rfl)
  have HF5 := Lib.hid (HF4.out.past hb rfl)
  clear hb hl i0 i1 i2 i3 i4 i5 i6 f2
  go_wp2
  rw [rounds_succ]
  go_wp2
  refine bodyPost_ret (v := .tuple #[.int .u32 (putS (putS (putS 4167071744 16 5 m) 5 5 n) 0 5 d), .int .i64 0]) (by simp [results, Try.results166, go_sem]) rfl ⟨rfl, HB5.out⟩
set_option maxRecDepth 100000 in
set_option maxHeartbeats 4000000 in
theorem word_35 (d n m a c i : Int) (b : Nat) (w : World) (hok : ok_35 d n m a c i = true) (hm : w.ownsMap Try.prog 3 (plainElem (H := Unit) Try.prog 54) b 42 DD) : Calls Try.prog 166 #[.agg #[.map (some b)], .agg #[.int .i64 35, .int .i64 d, .int .i64 n, .int .i64 m, .int .i64 a, .int .i64 c, .int .i64 i]] w fun e w' => e = .returned (.tuple #[.int .u32 (putS (putS 3361700864 5 5 n) 0 5 d), .int .i64 0]) ∧ Below w.heap.size w w' := by
  have HCK := Lib.hid (fun w => (by have := check_35 d n m a c i w; rw [hok] at this; exact this) : ∀ w, Calls Try.prog 31 #[.agg #[.int .i64 35, .int .i64 d, .int .i64 n, .int .i64 m, .int .i64 a, .int .i64 c, .int .i64 i]] w fun e w' => e = .returned (.int .i64 0) ∧ Below w.heap.size w w')
  have hB0 : (0 : Int) ≤ 3361700864 ∧ (3361700864 : Int) < 4294967296 := by decide
  simp only [ok_35, wi, Bool.and_eq_true, decide_eq_true_eq, beq_iff_eq] at hok
  have HOK := Lib.hid hok
  clear hok
  go_enter Try.func166, Try.ntmps166
  go_wp2_with fail
  have HM0 := Lib.hid (map_past (map_past hm ((Below.refl _ _).alloc (Nat.le_refl _) (.cells #[.map (some b)] 238))) ((Below.refl _ _).alloc (Nat.le_refl _) (.cells #[.int .i64 35, .int .i64 d, .int .i64 n, .int .i64 m, .int .i64 a, .int .i64 c, .int .i64 i] 29)))
  have HI0 := Lib.hid (InsC.new (w.alloc (.cells #[.map (some b)] 238)) (.int .i64 35) (.int .i64 d) (.int .i64 n) (.int .i64 m) (.int .i64 a) (.int .i64 c) (.int .i64 i))
  have HE0 : Hid (((w.alloc (.cells #[.map (some b)] 238)).alloc (.cells #[.int .i64 35, .int .i64 d, .int .i64 n, .int .i64 m, .int .i64 a, .int .i64 c, .int .i64 i] 29)).cell? ⟨w.heap.size, 0, none⟩ = some (.map (some b))) := Lib.hid (by simp)
  refine (HCK.out _).mono ?_
  rintro e w1 ⟨rfl, hb⟩
  have HB1 : Hid (Below w.heap.size w w1) := Lib.hid ((((Below.refl _ _).alloc (Nat.le_refl _) _).alloc (by simp) _).trans (hb.mono (by simp; omega)))
  have HI1 := Lib.hid (HI0.out.below' hb rfl)
  rw [World.size_alloc] at HI1
  have HM1 := Lib.hid (map_past HM0.out hb)
  have e1 := (hb.cell (p := ⟨w.heap.size, 0, none⟩) (by simp; omega)).trans HE0.out
  have hs1 : w.heap.size + 1 < w1.heap.size := HI1.out.1
  obtain ⟨hl, i0, i1, i2, i3, i4, i5, i6⟩ := HI1.out
  clear hb HI0 HM0 HE0 hm
  go_wp2_with (at_lookup; refine wpList_lookup_own_int _ rfl _ _ 235 rfl 3 54 .u32 law3 Try.underlying235 Try.underlying54 (zero25 _) b 42 _ rfl HM1.out _ _ rfl (keyOf_int_mk Try.underlying3 (by decide)) ?_; intro c' hat hwc; obtain rfl : c' = 3361700864 := (look_c _ _ hat).trans (by decide))
  clear hat hwc e1 HM1
  refine (flds_35 _).mono ?_
  rintro e w2 ⟨rfl, hf, hb⟩
  have HB2 := Lib.hid (HB1.out.trans (hb.mono HB1.out.size))
  have HI2 := Lib.hid (HI1.out.below' hb rfl)
  have HF2 := Lib.hid hf
  clear hl i0 i1 i2 i3 i4 i5 i6
  obtain ⟨g, hg⟩ : ∃ g, g = w1.heap.size := ⟨_, rfl⟩
  rw [← hg] at HF2
  rw [← hg]
  clear hb hf HI1 HB1 hg hs1
  go_wp2_with fail
  refine wp_loop_rounds 3 ?_
  rw [rounds_succ]
  obtain ⟨hl, i0, i1, i2, i3, i4, i5, i6⟩ := HI2.out
  have f0 := HF2.out.2 0 _ rfl
  go_wp2_with fail
  refine (lay_n 35 d n m a c i 3361700864 _ hB0.1 hB0.2 (by have := HOK.out; omega) (by have := HOK.out; omega)).mono ?_
  rintro e w3 ⟨rfl, hb⟩
  have HB3 := Lib.hid (HB2.out.trans (hb.mono HB2.out.size))
  have HI3 := Lib.hid (HI2.out.below' hb rfl)
  have HF3 := Lib.hid (HF2.out.past hb rfl)
  clear hb hl i0 i1 i2 i3 i4 i5 i6 f0
  go_wp2
  rw [rounds_succ]
  obtain ⟨hl, i0, i1, i2, i3, i4, i5, i6⟩ := HI3.out
  have f1 := HF3.out.2 1 _ rfl
  go_wp2_with fail
  refine (lay_d 35 d n m a c i (putS 3361700864 5 5 n) _ (putS_lt 3361700864 5 5 n hB0.1 hB0.2).1 (putS_lt 3361700864 5 5 n hB0.1 hB0.2).2 (by have := HOK.out; omega) (by have := HOK.out; omega)).mono ?_
  rintro e w4 ⟨rfl, hb⟩
  have HB4 := Lib.hid (HB3.out.trans (hb.mono HB3.out.size))
  have HI4 := Lib.hid (HI3.out.below' hb rfl)
  have HF4 := Lib.hid (HF3.out.past hb rfl)
  clear hb hl i0 i1 i2 i3 i4 i5 i6 f1
  go_wp2
  rw [rounds_succ]
  go_wp2
  refine bodyPost_ret (v := .tuple #[.int .u32 (putS (putS 3361700864 5 5 n) 0 5 d), .int .i64 0]) (by simp [results, Try.results166, go_sem]) rfl ⟨rfl, HB4.out⟩
set_option maxRecDepth 100000 in
set_option maxHeartbeats 4000000 in
theorem word_39 (d n m a c i : Int) (b : Nat) (w : World) (hok : ok_39 d n m a c i = true) (hm : w.ownsMap Try.prog 3 (plainElem (H := Unit) Try.prog 54) b 42 DD) : Calls Try.prog 166 #[.agg #[.map (some b)], .agg #[.int .i64 39, .int .i64 d, .int .i64 n, .int .i64 m, .int .i64 a, .int .i64 c, .int .i64 i]] w fun e w' => e = .returned (.tuple #[.int .u32 3573759967, .int .i64 0]) ∧ Below w.heap.size w w' := by
  have HCK := Lib.hid (fun w => (by have := check_39 d n m a c i w; rw [hok] at this; exact this) : ∀ w, Calls Try.prog 31 #[.agg #[.int .i64 39, .int .i64 d, .int .i64 n, .int .i64 m, .int .i64 a, .int .i64 c, .int .i64 i]] w fun e w' => e = .returned (.int .i64 0) ∧ Below w.heap.size w w')
  have hB0 : (0 : Int) ≤ 3573759967 ∧ (3573759967 : Int) < 4294967296 := by decide
  have HOK := Lib.hid hok
  clear hok
  go_enter Try.func166, Try.ntmps166
  go_wp2_with fail
  have HM0 := Lib.hid (map_past (map_past hm ((Below.refl _ _).alloc (Nat.le_refl _) (.cells #[.map (some b)] 238))) ((Below.refl _ _).alloc (Nat.le_refl _) (.cells #[.int .i64 39, .int .i64 d, .int .i64 n, .int .i64 m, .int .i64 a, .int .i64 c, .int .i64 i] 29)))
  have HI0 := Lib.hid (InsC.new (w.alloc (.cells #[.map (some b)] 238)) (.int .i64 39) (.int .i64 d) (.int .i64 n) (.int .i64 m) (.int .i64 a) (.int .i64 c) (.int .i64 i))
  have HE0 : Hid (((w.alloc (.cells #[.map (some b)] 238)).alloc (.cells #[.int .i64 39, .int .i64 d, .int .i64 n, .int .i64 m, .int .i64 a, .int .i64 c, .int .i64 i] 29)).cell? ⟨w.heap.size, 0, none⟩ = some (.map (some b))) := Lib.hid (by simp)
  refine (HCK.out _).mono ?_
  rintro e w1 ⟨rfl, hb⟩
  have HB1 : Hid (Below w.heap.size w w1) := Lib.hid ((((Below.refl _ _).alloc (Nat.le_refl _) _).alloc (by simp) _).trans (hb.mono (by simp; omega)))
  have HI1 := Lib.hid (HI0.out.below' hb rfl)
  rw [World.size_alloc] at HI1
  have HM1 := Lib.hid (map_past HM0.out hb)
  have e1 := (hb.cell (p := ⟨w.heap.size, 0, none⟩) (by simp; omega)).trans HE0.out
  have hs1 : w.heap.size + 1 < w1.heap.size := HI1.out.1
  obtain ⟨hl, i0, i1, i2, i3, i4, i5, i6⟩ := HI1.out
  clear hb HI0 HM0 HE0 hm
  go_wp2_with (at_lookup; refine wpList_lookup_own_int _ rfl _ _ 235 rfl 3 54 .u32 law3 Try.underlying235 Try.underlying54 (zero25 _) b 42 _ rfl HM1.out _ _ rfl (keyOf_int_mk Try.underlying3 (by decide)) ?_; intro c' hat hwc; obtain rfl : c' = 3573759967 := (look_c _ _ hat).trans (by decide))
  clear hat hwc e1 HM1
  refine (flds_39 _).mono ?_
  rintro e w2 ⟨rfl, hw⟩
  obtain rfl := hw.symm
  go_wp2_with fail
  refine wp_loop_rounds 1 ?_
  rw [rounds_succ]
  go_wp2
  refine bodyPost_ret (v := .tuple #[.int .u32 3573759967, .int .i64 0]) (by simp [results, Try.results166, go_sem]) rfl ⟨rfl, HB1.out⟩
end Go.Proofs.Ytnbpgoacooddjaa.En
