import Derived.Test.YtnbpgoacooddjaaEWd
namespace Go.Proofs.Ytnbpgoacooddjaa.Fr
end Go.Proofs.Ytnbpgoacooddjaa.Fr
namespace Go.Proofs.Ytnbpgoacooddjaa.En
open Go.Proofs.Ytnbpgoacooddjaa.Fr
open Go.ChangeShapes Go.WideShapes Go.ChangeAt Go.RowKit Go.Maps
set_option linter.unusedVariables false
set_option maxRecDepth 100000 in
set_option maxHeartbeats 4000000 in
theorem flds_0 (w : World) : Calls Try.prog 197 #[.int .i64 0] w fun e w' => e = .returned (.slice (some ⟨w.heap.size, 0, none⟩) 1 1) ∧ FldAt w' w.heap.size [233] ∧ Below w.heap.size w w' := by
  go_enter Try.func197, Try.ntmps197
  go_wp2
  go_ret
  refine ⟨rfl, ⟨by simp, fun k f hk => ?_⟩, (Below.refl _ _).alloc (Nat.le_refl _) _⟩
  have : k = 0 := by have := (List.getElem?_eq_some_iff.1 hk).1; simp at this; omega
  rcases this with rfl
  · cases hk; exact World.cell?_alloc_at _ _ _ _ rfl
set_option maxRecDepth 100000 in
set_option maxHeartbeats 4000000 in
theorem flds_4 (w : World) : Calls Try.prog 197 #[.int .i64 4] w fun e w' => e = .returned (.slice (some ⟨w.heap.size, 0, none⟩) 3 3) ∧ FldAt w' w.heap.size [221, 222, 220] ∧ Below w.heap.size w w' := by
  go_enter Try.func197, Try.ntmps197
  go_wp2
  go_ret
  refine ⟨rfl, ⟨by simp, fun k f hk => ?_⟩, (Below.refl _ _).alloc (Nat.le_refl _) _⟩
  have : k = 0 ∨ k = 1 ∨ k = 2 := by have := (List.getElem?_eq_some_iff.1 hk).1; simp at this; omega
  rcases this with rfl | rfl | rfl
  · cases hk; exact World.cell?_alloc_at _ _ _ _ rfl
  · cases hk; exact World.cell?_alloc_at _ _ _ _ rfl
  · cases hk; exact World.cell?_alloc_at _ _ _ _ rfl
set_option maxRecDepth 100000 in
set_option maxHeartbeats 4000000 in
theorem flds_8 (w : World) : Calls Try.prog 197 #[.int .i64 8] w fun e w' => e = .returned (.slice (some ⟨w.heap.size, 0, none⟩) 3 3) ∧ FldAt w' w.heap.size [224, 222, 220] ∧ Below w.heap.size w w' := by
  go_enter Try.func197, Try.ntmps197
  go_wp2
  go_ret
  refine ⟨rfl, ⟨by simp, fun k f hk => ?_⟩, (Below.refl _ _).alloc (Nat.le_refl _) _⟩
  have : k = 0 ∨ k = 1 ∨ k = 2 := by have := (List.getElem?_eq_some_iff.1 hk).1; simp at this; omega
  rcases this with rfl | rfl | rfl
  · cases hk; exact World.cell?_alloc_at _ _ _ _ rfl
  · cases hk; exact World.cell?_alloc_at _ _ _ _ rfl
  · cases hk; exact World.cell?_alloc_at _ _ _ _ rfl
set_option maxRecDepth 100000 in
set_option maxHeartbeats 4000000 in
theorem flds_12 (w : World) : Calls Try.prog 197 #[.int .i64 12] w fun e w' => e = .returned (.slice (some ⟨w.heap.size, 0, none⟩) 3 3) ∧ FldAt w' w.heap.size [224, 222, 220] ∧ Below w.heap.size w w' := by
  go_enter Try.func197, Try.ntmps197
  go_wp2
  go_ret
  refine ⟨rfl, ⟨by simp, fun k f hk => ?_⟩, (Below.refl _ _).alloc (Nat.le_refl _) _⟩
  have : k = 0 ∨ k = 1 ∨ k = 2 := by have := (List.getElem?_eq_some_iff.1 hk).1; simp at this; omega
  rcases this with rfl | rfl | rfl
  · cases hk; exact World.cell?_alloc_at _ _ _ _ rfl
  · cases hk; exact World.cell?_alloc_at _ _ _ _ rfl
  · cases hk; exact World.cell?_alloc_at _ _ _ _ rfl
set_option maxRecDepth 100000 in
set_option maxHeartbeats 4000000 in
theorem flds_16 (w : World) : Calls Try.prog 197 #[.int .i64 16] w fun e w' => e = .returned (.slice (some ⟨w.heap.size, 0, none⟩) 3 3) ∧ FldAt w' w.heap.size [224, 222, 220] ∧ Below w.heap.size w w' := by
  go_enter Try.func197, Try.ntmps197
  go_wp2
  go_ret
  refine ⟨rfl, ⟨by simp, fun k f hk => ?_⟩, (Below.refl _ _).alloc (Nat.le_refl _) _⟩
  have : k = 0 ∨ k = 1 ∨ k = 2 := by have := (List.getElem?_eq_some_iff.1 hk).1; simp at this; omega
  rcases this with rfl | rfl | rfl
  · cases hk; exact World.cell?_alloc_at _ _ _ _ rfl
  · cases hk; exact World.cell?_alloc_at _ _ _ _ rfl
  · cases hk; exact World.cell?_alloc_at _ _ _ _ rfl
set_option maxRecDepth 100000 in
set_option maxHeartbeats 4000000 in
theorem flds_20 (w : World) : Calls Try.prog 197 #[.int .i64 20] w fun e w' => e = .returned (.slice (some ⟨w.heap.size, 0, none⟩) 1 1) ∧ FldAt w' w.heap.size [227] ∧ Below w.heap.size w w' := by
  go_enter Try.func197, Try.ntmps197
  go_wp2
  go_ret
  refine ⟨rfl, ⟨by simp, fun k f hk => ?_⟩, (Below.refl _ _).alloc (Nat.le_refl _) _⟩
  have : k = 0 := by have := (List.getElem?_eq_some_iff.1 hk).1; simp at this; omega
  rcases this with rfl
  · cases hk; exact World.cell?_alloc_at _ _ _ _ rfl
set_option maxRecDepth 100000 in
set_option maxHeartbeats 4000000 in
theorem flds_24 (w : World) : Calls Try.prog 197 #[.int .i64 24] w fun e w' => e = .returned (.slice (some ⟨w.heap.size, 0, none⟩) 1 1) ∧ FldAt w' w.heap.size [227] ∧ Below w.heap.size w w' := by
  go_enter Try.func197, Try.ntmps197
  go_wp2
  go_ret
  refine ⟨rfl, ⟨by simp, fun k f hk => ?_⟩, (Below.refl _ _).alloc (Nat.le_refl _) _⟩
  have : k = 0 := by have := (List.getElem?_eq_some_iff.1 hk).1; simp at this; omega
  rcases this with rfl
  · cases hk; exact World.cell?_alloc_at _ _ _ _ rfl
set_option maxRecDepth 100000 in
set_option maxHeartbeats 4000000 in
theorem flds_28 (w : World) : Calls Try.prog 197 #[.int .i64 28] w fun e w' => e = .returned (.slice (some ⟨w.heap.size, 0, none⟩) 3 3) ∧ FldAt w' w.heap.size [223, 222, 220] ∧ Below w.heap.size w w' := by
  go_enter Try.func197, Try.ntmps197
  go_wp2
  go_ret
  refine ⟨rfl, ⟨by simp, fun k f hk => ?_⟩, (Below.refl _ _).alloc (Nat.le_refl _) _⟩
  have : k = 0 ∨ k = 1 ∨ k = 2 := by have := (List.getElem?_eq_some_iff.1 hk).1; simp at this; omega
  rcases this with rfl | rfl | rfl
  · cases hk; exact World.cell?_alloc_at _ _ _ _ rfl
  · cases hk; exact World.cell?_alloc_at _ _ _ _ rfl
  · cases hk; exact World.cell?_alloc_at _ _ _ _ rfl
set_option maxRecDepth 100000 in
set_option maxHeartbeats 4000000 in
theorem flds_32 (w : World) : Calls Try.prog 197 #[.int .i64 32] w fun e w' => e = .returned (.slice (some ⟨w.heap.size, 0, none⟩) 3 3) ∧ FldAt w' w.heap.size [224, 222, 220] ∧ Below w.heap.size w w' := by
  go_enter Try.func197, Try.ntmps197
  go_wp2
  go_ret
  refine ⟨rfl, ⟨by simp, fun k f hk => ?_⟩, (Below.refl _ _).alloc (Nat.le_refl _) _⟩
  have : k = 0 ∨ k = 1 ∨ k = 2 := by have := (List.getElem?_eq_some_iff.1 hk).1; simp at this; omega
  rcases this with rfl | rfl | rfl
  · cases hk; exact World.cell?_alloc_at _ _ _ _ rfl
  · cases hk; exact World.cell?_alloc_at _ _ _ _ rfl
  · cases hk; exact World.cell?_alloc_at _ _ _ _ rfl
set_option maxRecDepth 100000 in
set_option maxHeartbeats 4000000 in
theorem flds_36 (w : World) : Calls Try.prog 197 #[.int .i64 36] w fun e w' => e = .returned (.slice (some ⟨w.heap.size, 0, none⟩) 3 3) ∧ FldAt w' w.heap.size [230, 222, 231] ∧ Below w.heap.size w w' := by
  go_enter Try.func197, Try.ntmps197
  go_wp2
  go_ret
  refine ⟨rfl, ⟨by simp, fun k f hk => ?_⟩, (Below.refl _ _).alloc (Nat.le_refl _) _⟩
  have : k = 0 ∨ k = 1 ∨ k = 2 := by have := (List.getElem?_eq_some_iff.1 hk).1; simp at this; omega
  rcases this with rfl | rfl | rfl
  · cases hk; exact World.cell?_alloc_at _ _ _ _ rfl
  · cases hk; exact World.cell?_alloc_at _ _ _ _ rfl
  · cases hk; exact World.cell?_alloc_at _ _ _ _ rfl
set_option maxRecDepth 100000 in
set_option maxHeartbeats 4000000 in
theorem flds_40 (w : World) : Calls Try.prog 197 #[.int .i64 40] w fun e w' => e = .returned (.slice (some ⟨w.heap.size, 0, none⟩) 1 1) ∧ FldAt w' w.heap.size [232] ∧ Below w.heap.size w w' := by
  go_enter Try.func197, Try.ntmps197
  go_wp2
  go_ret
  refine ⟨rfl, ⟨by simp, fun k f hk => ?_⟩, (Below.refl _ _).alloc (Nat.le_refl _) _⟩
  have : k = 0 := by have := (List.getElem?_eq_some_iff.1 hk).1; simp at this; omega
  rcases this with rfl
  · cases hk; exact World.cell?_alloc_at _ _ _ _ rfl
set_option maxRecDepth 100000 in
set_option maxHeartbeats 4000000 in
theorem word_0 (d n m a c i : Int) (b : Nat) (w : World) (hok : ok_0 d n m a c i = true) (hm : w.ownsMap Try.prog 3 (plainElem (H := Unit) Try.prog 54) b 42 DD) : Calls Try.prog 166 #[.agg #[.map (some b)], .agg #[.int .i64 0, .int .i64 d, .int .i64 n, .int .i64 m, .int .i64 a, .int .i64 c, .int .i64 i]] w fun e w' => e = .returned (.tuple #[.int .u32 (putS 0 0 16 i), .int .i64 0]) ∧ Below w.heap.size w w' := by
  have HCK := Lib.hid (fun w => (by have := check_0 d n m a c i w; rw [hok] at this; exact this) : ∀ w, Calls Try.prog 31 #[.agg #[.int .i64 0, .int .i64 d, .int .i64 n, .int .i64 m, .int .i64 a, .int .i64 c, .int .i64 i]] w fun e w' => e = .returned (.int .i64 0) ∧ Below w.heap.size w w')
  have hB0 : (0 : Int) ≤ 0 ∧ (0 : Int) < 4294967296 := by decide
  simp only [ok_0, wi, Bool.and_eq_true, decide_eq_true_eq, beq_iff_eq] at hok
  have HOK := Lib.hid hok
  clear hok
  go_enter Try.func166, Try.ntmps166
  go_wp2_with fail
  have HM0 := Lib.hid (map_past (map_past hm ((Below.refl _ _).alloc (Nat.le_refl _) (.cells #[.map (some b)] 238))) ((Below.refl _ _).alloc (Nat.le_refl _) (.cells #[.int .i64 0, .int .i64 d, .int .i64 n, .int .i64 m, .int .i64 a, .int .i64 c, .int .i64 i] 29)))
  have HI0 := Lib.hid (InsC.new (w.alloc (.cells #[.map (some b)] 238)) (.int .i64 0) (.int .i64 d) (.int .i64 n) (.int .i64 m) (.int .i64 a) (.int .i64 c) (.int .i64 i))
  have HE0 : Hid (((w.alloc (.cells #[.map (some b)] 238)).alloc (.cells #[.int .i64 0, .int .i64 d, .int .i64 n, .int .i64 m, .int .i64 a, .int .i64 c, .int .i64 i] 29)).cell? ⟨w.heap.size, 0, none⟩ = some (.map (some b))) := Lib.hid (by simp)
  refine (HCK.out _).mono ?_
  rintro e w1 ⟨rfl, hb⟩
  have HB1 : Hid (Below w.heap.size w w1) := Lib.hid ((((Below.refl _ _).alloc (Nat.le_refl _) _).alloc (by simp) _).trans (hb.mono (by simp; omega)))
  have HI1 := Lib.hid (HI0.out.below' hb rfl)
  rw [World.size_alloc] at HI1
  have HM1 := Lib.hid (map_past HM0.out hb)
  have e1 := (hb.cell (p := ⟨w.heap.size, 0, none⟩) (by simp; omega)).trans HE0.out
  have hs1 : w.heap.size + 1 < w1.heap.size := HI1.out.1
  obtain ⟨hl, i0, i1, i2, i3, i4, i5, i6⟩ := HI1.out
  clear hb HI0 HM0 HE0 hm
  go_wp2_with (at_lookup; refine wpList_lookup_own_int _ rfl _ _ 235 rfl 3 54 .u32 law3 Try.underlying235 Try.underlying54 (zero25 _) b 42 _ rfl HM1.out _ _ rfl (keyOf_int_mk Try.underlying3 (by decide)) ?_; intro c' hat hwc; obtain rfl : c' = 0 := (look_c _ _ hat).trans (by decide))
  clear hat hwc e1 HM1
  refine (flds_0 _).mono ?_
  rintro e w2 ⟨rfl, hf, hb⟩
  have HB2 := Lib.hid (HB1.out.trans (hb.mono HB1.out.size))
  have HI2 := Lib.hid (HI1.out.below' hb rfl)
  have HF2 := Lib.hid hf
  clear hl i0 i1 i2 i3 i4 i5 i6
  obtain ⟨g, hg⟩ : ∃ g, g = w1.heap.size := ⟨_, rfl⟩
  rw [← hg] at HF2
  rw [← hg]
  clear hb hf HI1 HB1 hg hs1
  go_wp2_with fail
  refine wp_loop_rounds 2 ?_
  rw [rounds_succ]
  obtain ⟨hl, i0, i1, i2, i3, i4, i5, i6⟩ := HI2.out
  have f0 := HF2.out.2 0 _ rfl
  go_wp2_with fail
  refine (lay_whole 0 d n m a c i 0 _ hB0.1 hB0.2 (by have := HOK.out; omega) (by have := HOK.out; omega)).mono ?_
  rintro e w3 ⟨rfl, hb⟩
  have HB3 := Lib.hid (HB2.out.trans (hb.mono HB2.out.size))
  have HI3 := Lib.hid (HI2.out.below' hb rfl)
  have HF3 := Lib.hid (HF2.out.past hb rfl)
  clear hb hl i0 i1 i2 i3 i4 i5 i6 f0
  go_wp2
  rw [rounds_succ]
  go_wp2
  refine bodyPost_ret (v := .tuple #[.int .u32 (putS 0 0 16 i), .int .i64 0]) (by simp [results, Try.results166, go_sem]) rfl ⟨rfl, HB3.out⟩
set_option maxRecDepth 100000 in
set_option maxHeartbeats 4000000 in
theorem word_4 (d n m a c i : Int) (b : Nat) (w : World) (hok : ok_4 d n m a c i = true) (hm : w.ownsMap Try.prog 3 (plainElem (H := Unit) Try.prog 54) b 42 DD) : Calls Try.prog 166 #[.agg #[.map (some b)], .agg #[.int .i64 4, .int .i64 d, .int .i64 n, .int .i64 m, .int .i64 a, .int .i64 c, .int .i64 i]] w fun e w' => e = .returned (.tuple #[.int .u32 (putS (putS (putS 2432696320 10 12 i) 5 5 n) 0 5 d), .int .i64 0]) ∧ Below w.heap.size w w' := by
  have HCK := Lib.hid (fun w => (by have := check_4 d n m a c i w; rw [hok] at this; exact this) : ∀ w, Calls Try.prog 31 #[.agg #[.int .i64 4, .int .i64 d, .int .i64 n, .int .i64 m, .int .i64 a, .int .i64 c, .int .i64 i]] w fun e w' => e = .returned (.int .i64 0) ∧ Below w.heap.size w w')
  have hB0 : (0 : Int) ≤ 2432696320 ∧ (2432696320 : Int) < 4294967296 := by decide
  simp only [ok_4, wi, Bool.and_eq_true, decide_eq_true_eq, beq_iff_eq] at hok
  have HOK := Lib.hid hok
  clear hok
  go_enter Try.func166, Try.ntmps166
  go_wp2_with fail
  have HM0 := Lib.hid (map_past (map_past hm ((Below.refl _ _).alloc (Nat.le_refl _) (.cells #[.map (some b)] 238))) ((Below.refl _ _).alloc (Nat.le_refl _) (.cells #[.int .i64 4, .int .i64 d, .int .i64 n, .int .i64 m, .int .i64 a, .int .i64 c, .int .i64 i] 29)))
  have HI0 := Lib.hid (InsC.new (w.alloc (.cells #[.map (some b)] 238)) (.int .i64 4) (.int .i64 d) (.int .i64 n) (.int .i64 m) (.int .i64 a) (.int .i64 c) (.int .i64 i))
  have HE0 : Hid (((w.alloc (.cells #[.map (some b)] 238)).alloc (.cells #[.int .i64 4, .int .i64 d, .int .i64 n, .int .i64 m, .int .i64 a, .int .i64 c, .int .i64 i] 29)).cell? ⟨w.heap.size, 0, none⟩ = some (.map (some b))) := Lib.hid (by simp)
  refine (HCK.out _).mono ?_
  rintro e w1 ⟨rfl, hb⟩
  have HB1 : Hid (Below w.heap.size w w1) := Lib.hid ((((Below.refl _ _).alloc (Nat.le_refl _) _).alloc (by simp) _).trans (hb.mono (by simp; omega)))
  have HI1 := Lib.hid (HI0.out.below' hb rfl)
  rw [World.size_alloc] at HI1
  have HM1 := Lib.hid (map_past HM0.out hb)
  have e1 := (hb.cell (p := ⟨w.heap.size, 0, none⟩) (by simp; omega)).trans HE0.out
  have hs1 : w.heap.size + 1 < w1.heap.size := HI1.out.1
  obtain ⟨hl, i0, i1, i2, i3, i4, i5, i6⟩ := HI1.out
  clear hb HI0 HM0 HE0 hm
  go_wp2_with (at_lookup; refine wpList_lookup_own_int _ rfl _ _ 235 rfl 3 54 .u32 law3 Try.underlying235 Try.underlying54 (zero25 _) b 42 _ rfl HM1.out _ _ rfl (keyOf_int_mk Try.underlying3 (by decide)) ?_; intro c' hat hwc; obtain rfl : c' = 2432696320 := (look_c _ _ hat).trans (by decide))
  clear hat hwc e1 HM1
  refine (flds_4 _).mono ?_
  rintro e w2 ⟨rfl, hf, hb⟩
  have HB2 := Lib.hid (HB1.out.trans (hb.mono HB1.out.size))
  have HI2 := Lib.hid (HI1.out.below' hb rfl)
  have HF2 := Lib.hid hf
  clear hl i0 i1 i2 i3 i4 i5 i6
  obtain ⟨g, hg⟩ : ∃ g, g = w1.heap.size := ⟨_, rfl⟩
  rw [← hg] at HF2
  rw [← hg]
  clear hb hf HI1 HB1 hg hs1
  go_wp2_with fail
  refine wp_loop_rounds 4 ?_
  rw [rounds_succ]
  obtain ⟨hl, i0, i1, i2, i3, i4, i5, i6⟩ := HI2.out
  have f0 := HF2.out.2 0 _ rfl
  go_wp2_with fail
  refine (lay_small 4 d n m a c i 2432696320 _ hB0.1 hB0.2 (by have := HOK.out; omega) (by have := HOK.out; omega)).mono ?_
  rintro e w3 ⟨rfl, hb⟩
  have HB3 := Lib.hid (HB2.out.trans (hb.mono HB2.out.size))
  have HI3 := Lib.hid (HI2.out.below' hb rfl)
  have HF3 := Lib.hid (HF2.out.past hb rfl)
  clear hb hl i0 i1 i2 i3 i4 i5 i6 f0
  go_wp2
  rw [rounds_succ]
  obtain ⟨hl, i0, i1, i2, i3, i4, i5, i6⟩ := HI3.out
  have f1 := HF3.out.2 1 _ rfl
  go_wp2_with fail
  refine (lay_n 4 d n m a c i (putS 2432696320 10 12 i) _ (putS_lt 2432696320 10 12 i hB0.1 hB0.2).1 (putS_lt 2432696320 10 12 i hB0.1 hB0.2).2 (by have := HOK.out; omega) (by have := HOK.out; omega)).mono ?_
  rintro e w4 ⟨rfl, hb⟩
  have HB4 := Lib.hid (HB3.out.trans (hb.mono HB3.out.size))
  have HI4 := Lib.hid (HI3.out.below' hb rfl)
  have HF4 := Lib.hid (HF3.out.past hb rfl)
  clear hb hl i0 i1 i2 i3 i4 i5 i6 f1
  go_wp2
  rw [rounds_succ]
  obtain ⟨hl, i0, i1, i2, i3, i4, i5, i6⟩ := HI4.out
  have f2 := HF4.out.2 2 _ rfl
  go_wp2_with fail
  refine (lay_d 4 d n m a c i (putS (putS 2432696320 10 12 i) 5 5 n) _ (putS_lt (putS 2432696320 10 12 i) 5 5 n (putS_lt 2432696320 10 12 i hB0.1 hB0.2).1 (putS_lt 2432696320 10 12 i hB0.1 hB0.2).2).1 (putS_lt (putS 2432696320 10 12 i) 5 5 n (putS_lt 2432696320 10 12 i hB0.1 hB0.2).1 (putS_lt 2432696320 10 12 i hB0.1 hB0.2).2).2 (by have := HOK.out; omega) (by have := HOK.out; omega)).mono ?_
  rintro e w5 ⟨rfl, hb⟩
  have HB5 := Lib.hid (HB4.out.trans (hb.mono HB4.out.size))
  have HI5 := Lib.hid (HI4.out.below' hb rfl)
  have HF5 := Lib.hid (HF4.out.past hb rfl)
  clear hb hl i0 i1 i2 i3 i4 i5 i6 f2
  go_wp2
  rw [rounds_succ]
  go_wp2
  refine bodyPost_ret (v := .tuple #[.int .u32 (putS (putS (putS 2432696320 10 12 i) 5 5 n) 0 5 d), .int .i64 0]) (by simp [results, Try.results166, go_sem]) rfl ⟨rfl, HB5.out⟩
set_option maxRecDepth 100000 in
set_option maxHeartbeats 4000000 in
theorem word_8 (d n m a c i : Int) (b : Nat) (w : World) (hok : ok_8 d n m a c i = true) (hm : w.ownsMap Try.prog 3 (plainElem (H := Unit) Try.prog 54) b 42 DD) : Calls Try.prog 166 #[.agg #[.map (some b)], .agg #[.int .i64 8, .int .i64 d, .int .i64 n, .int .i64 m, .int .i64 a, .int .i64 c, .int .i64 i]] w fun e w' => e = .returned (.tuple #[.int .u32 (putS (putS (putS 3405774848 16 5 m) 5 5 n) 0 5 d), .int .i64 0]) ∧ Below w.heap.size w w' := by
  have HCK := Lib.hid (fun w => (by have := check_8 d n m a c i w; rw [hok] at this; exact this) : ∀ w, Calls Try.prog 31 #[.agg #[.int .i64 8, .int .i64 d, .int .i64 n, .int .i64 m, .int .i64 a, .int .i64 c, .int .i64 i]] w fun e w' => e = .returned (.int .i64 0) ∧ Below w.heap.size w w')
  have hB0 : (0 : Int) ≤ 3405774848 ∧ (3405774848 : Int) < 4294967296 := by decide
  simp only [ok_8, wi, Bool.and_eq_true, decide_eq_true_eq, beq_iff_eq] at hok
  have HOK := Lib.hid hok
  clear hok
  go_enter Try.func166, Try.ntmps166
  go_wp2_with fail
  have HM0 := Lib.hid (map_past (map_past hm ((Below.refl _ _).alloc (Nat.le_refl _) (.cells #[.map (some b)] 238))) ((Below.refl _ _).alloc (Nat.le_refl _) (.cells #[.int .i64 8, .int .i64 d, .int .i64 n, .int .i64 m, .int .i64 a, .int .i64 c, .int .i64 i] 29)))
  have HI0 := Lib.hid (InsC.new (w.alloc (.cells #[.map (some b)] 238)) (.int .i64 8) (.int .i64 d) (.int .i64 n) (.int .i64 m) (.int .i64 a) (.int .i64 c) (.int .i64 i))
  have HE0 : Hid (((w.alloc (.cells #[.map (some b)] 238)).alloc (.cells #[.int .i64 8, .int .i64 d, .int .i64 n, .int .i64 m, .int .i64 a, .int .i64 c, .int .i64 i] 29)).cell? ⟨w.heap.size, 0, none⟩ = some (.map (some b))) := Lib.hid (by simp)
  refine (HCK.out _).mono ?_
  rintro e w1 ⟨rfl, hb⟩
  have HB1 : Hid (Below w.heap.size w w1) := Lib.hid ((((Below.refl _ _).alloc (Nat.le_refl _) _).alloc (by simp) _).trans (hb.mono (by simp; omega)))
  have HI1 := Lib.hid (HI0.out.below' hb rfl)
  rw [World.size_alloc] at HI1
  have HM1 := Lib.hid (map_past HM0.out hb)
  have e1 := (hb.cell (p := ⟨w.heap.size, 0, none⟩) (by simp; omega)).trans HE0.out
  have hs1 : w.heap.size + 1 < w1.heap.size := HI1.out.1
  obtain ⟨hl, i0, i1, i2, i3, i4, i5, i6⟩ := HI1.out
  clear hb HI0 HM0 HE0 hm
  go_wp2_with (at_lookup; refine wpList_lookup_own_int _ rfl _ _ 235 rfl 3 54 .u32 law3 Try.underlying235 Try.underlying54 (zero25 _) b 42 _ rfl HM1.out _ _ rfl (keyOf_int_mk Try.underlying3 (by decide)) ?_; intro c' hat hwc; obtain rfl : c' = 3405774848 := (look_c _ _ hat).trans (by decide))
  clear hat hwc e1 HM1
  refine (flds_8 _).mono ?_
  rintro e w2 ⟨rfl, hf, hb⟩
  have HB2 := Lib.hid (HB1.out.trans (hb.mono HB1.out.size))
  have HI2 := Lib.hid (HI1.out.below' hb rfl)
  have HF2 := Lib.hid hf
  clear hl i0 i1 i2 i3 i4 i5 i6
  obtain ⟨g, hg⟩ : ∃ g, g = w1.heap.size := ⟨_, rfl⟩
  rw [← hg] at HF2
  rw [← hg]
  clear hb hf HI1 HB1 hg hs1
  go_wp2_with fail
  refine wp_loop_rounds 4 ?_
  rw [rounds_succ]
  obtain ⟨hl, i0, i1, i2, i3, i4, i5, i6⟩ := HI2.out
  have f0 := HF2.out.2 0 _ rfl
  go_wp2_with fail
  refine (lay_m 8 d n m a c i 3405774848 _ hB0.1 hB0.2 (by have := HOK.out; omega) (by have := HOK.out; omega)).mono ?_
  rintro e w3 ⟨rfl, hb⟩
  have HB3 := Lib.hid (HB2.out.trans (hb.mono HB2.out.size))
  have HI3 := Lib.hid (HI2.out.below' hb rfl)
  have HF3 := Lib.hid (HF2.out.past hb rfl)
  clear hb hl i0 i1 i2 i3 i4 i5 i6 f0
  go_wp2
  rw [rounds_succ]
  obtain ⟨hl, i0, i1, i2, i3, i4, i5, i6⟩ := HI3.out
  have f1 := HF3.out.2 1 _ rfl
  go_wp2_with fail
  refine (lay_n 8 d n m a c i (putS 3405774848 16 5 m) _ (putS_lt 3405774848 16 5 m hB0.1 hB0.2).1 (putS_lt 3405774848 16 5 m hB0.1 hB0.2).2 (by have := HOK.out; omega) (by have := HOK.out; omega)).mono ?_
  rintro e w4 ⟨rfl, hb⟩
  have HB4 := Lib.hid (HB3.out.trans (hb.mono HB3.out.size))
  have HI4 := Lib.hid (HI3.out.below' hb rfl)
  have HF4 := Lib.hid (HF3.out.past hb rfl)
  clear hb hl i0 i1 i2 i3 i4 i5 i6 f1
  go_wp2
  rw [rounds_succ]
  obtain ⟨hl, i0, i1, i2, i3, i4, i5, i6⟩ := HI4.out
  have f2 := HF4.out.2 2 _ rfl
  go_wp2_with fail
  refine (lay_d 8 d n m a c i (putS (putS 3405774848 16 5 m) 5 5 n) _ (putS_lt (putS 3405774848 16 5 m) 5 5 n (putS_lt 3405774848 16 5 m hB0.1 hB0.2).1 (putS_lt 3405774848 16 5 m hB0.1 hB0.2).2).1 (putS_lt (putS 3405774848 16 5 m) 5 5 n (putS_lt 3405774848 16 5 m hB0.1 hB0.2).1 (putS_lt 3405774848 16 5 m hB0.1 hB0.2).2).2 (by have := HOK.out; omega) (by have := HOK.out; omega)).mono ?_
  rintro e w5 ⟨rfl, hb⟩
  have HB5 := Lib.hid (HB4.out.trans (hb.mono HB4.out.size))
  have HI5 := Lib.hid (HI4.out.below' hb rfl)
  have HF5 := Lib.hid (HF4.out.past hb rfl)
  clear hb hl i0 i1 i2 i3 i4 i5 i6 f2
  go_wp2
  rw [rounds_succ]
  go_wp2
  refine bodyPost_ret (v := .tuple #[.int .u32 (putS (putS (putS 3405774848 16 5 m) 5 5 n) 0 5 d), .int .i64 0]) (by simp [results, Try.results166, go_sem]) rfl ⟨rfl, HB5.out⟩
set_option maxRecDepth 100000 in
set_option maxHeartbeats 4000000 in
theorem word_12 (d n m a c i : Int) (b : Nat) (w : World) (hok : ok_12 d n m a c i = true) (hm : w.ownsMap Try.prog 3 (plainElem (H := Unit) Try.prog 54) b 42 DD) : Calls Try.prog 166 #[.agg #[.map (some b)], .agg #[.int .i64 12, .int .i64 d, .int .i64 n, .int .i64 m, .int .i64 a, .int .i64 c, .int .i64 i]] w fun e w' => e = .returned (.tuple #[.int .u32 (putS (putS (putS 3388997632 16 5 m) 5 5 n) 0 5 d), .int .i64 0]) ∧ Below w.heap.size w w' := by
  have HCK := Lib.hid (fun w => (by have := check_12 d n m a c i w; rw [hok] at this; exact this) : ∀ w, Calls Try.prog 31 #[.agg #[.int .i64 12, .int .i64 d, .int .i64 n, .int .i64 m, .int .i64 a, .int .i64 c, .int .i64 i]] w fun e w' => e = .returned (.int .i64 0) ∧ Below w.heap.size w w')
  have hB0 : (0 : Int) ≤ 3388997632 ∧ (3388997632 : Int) < 4294967296 := by decide
  simp only [ok_12, wi, Bool.and_eq_true, decide_eq_true_eq, beq_iff_eq] at hok
  have HOK := Lib.hid hok
  clear hok
  go_enter Try.func166, Try.ntmps166
  go_wp2_with fail
  have HM0 := Lib.hid (map_past (map_past hm ((Below.refl _ _).alloc (Nat.le_refl _) (.cells #[.map (some b)] 238))) ((Below.refl _ _).alloc (Nat.le_refl _) (.cells #[.int .i64 12, .int .i64 d, .int .i64 n, .int .i64 m, .int .i64 a, .int .i64 c, .int .i64 i] 29)))
  have HI0 := Lib.hid (InsC.new (w.alloc (.cells #[.map (some b)] 238)) (.int .i64 12) (.int .i64 d) (.int .i64 n) (.int .i64 m) (.int .i64 a) (.int .i64 c) (.int .i64 i))
  have HE0 : Hid (((w.alloc (.cells #[.map (some b)] 238)).alloc (.cells #[.int .i64 12, .int .i64 d, .int .i64 n, .int .i64 m, .int .i64 a, .int .i64 c, .int .i64 i] 29)).cell? ⟨w.heap.size, 0, none⟩ = some (.map (some b))) := Lib.hid (by simp)
  refine (HCK.out _).mono ?_
  rintro e w1 ⟨rfl, hb⟩
  have HB1 : Hid (Below w.heap.size w w1) := Lib.hid ((((Below.refl _ _).alloc (Nat.le_refl _) _).alloc (by simp) _).trans (hb.mono (by simp; omega)))
  have HI1 := Lib.hid (HI0.out.below' hb rfl)
  rw [World.size_alloc] at HI1
  have HM1 := Lib.hid (map_past HM0.out hb)
  have e1 := (hb.cell (p := ⟨w.heap.size, 0, none⟩) (by simp; omega)).trans HE0.out
  have hs1 : w.heap.size + 1 < w1.heap.size := HI1.out.1
  obtain ⟨hl, i0, i1, i2, i3, i4, i5, i6⟩ := HI1.out
  clear hb HI0 HM0 HE0 hm
  go_wp2_with (at_lookup; refine wpList_lookup_own_int _ rfl _ _ 235 rfl 3 54 .u32 law3 Try.underlying235 Try.underlying54 (zero25 _) b 42 _ rfl HM1.out _ _ rfl (keyOf_int_mk Try.underlying3 (by decide)) ?_; intro c' hat hwc; obtain rfl : c' = 3388997632 := (look_c _ _ hat).trans (by decide))
  clear hat hwc e1 HM1
  refine (flds_12 _).mono ?_
  rintro e w2 ⟨rfl, hf, hb⟩
  have HB2 := Lib.hid (HB1.out.trans (hb.mono HB1.out.size))
  have HI2 := Lib.hid (HI1.out.below' hb rfl)
  have HF2 := Lib.hid hf
  clear hl i0 i1 i2 i3 i4 i5 i6
  obtain ⟨g, hg⟩ : ∃ g, g = w1.heap.size := ⟨_, rfl⟩
  rw [← hg] at HF2
  rw [← hg]
  clear hb hf HI1 HB1 hg hs1
  go_wp2_with fail
  refine wp_loop_rounds 4 ?_
  rw [rounds_succ]
  obtain ⟨hl, i0, i1, i2, i3, i4, i5, i6⟩ := HI2.out
  have f0 := HF2.out.2 0 _ rfl
  go_wp2_with fail
  refine (lay_m 12 d n m a c i 3388997632 _ hB0.1 hB0.2 (by have := HOK.out; omega) (by have := HOK.out; omega)).mono ?_
  rintro e w3 ⟨rfl, hb⟩
  have HB3 := Lib.hid (HB2.out.trans (hb.mono HB2.out.size))
  have HI3 := Lib.hid (HI2.out.below' hb rfl)
  have HF3 := Lib.hid (HF2.out.past hb rfl)
  clear hb hl i0 i1 i2 i3 i4 i5 i6 f0
  go_wp2
  rw [rounds_succ]
  obtain ⟨hl, i0, i1, i2, i3, i4, i5, i6⟩ := HI3.out
  have f1 := HF3.out.2 1 _ rfl
  go_wp2_with fail
  refine (lay_n 12 d n m a c i (putS 3388997632 16 5 m) _ (putS_lt 3388997632 16 5 m hB0.1 hB0.2).1 (putS_lt 3388997632 16 5 m hB0.1 hB0.2).2 (by have := HOK.out; omega) (by have := HOK.out; omega)).mono ?_
  rintro e w4 ⟨rfl, hb⟩
  have HB4 := Lib.hid (HB3.out.trans (hb.mono HB3.out.size))
  have HI4 := Lib.hid (HI3.out.below' hb rfl)
  have HF4 := Lib.hid (HF3.out.past hb rfl)
  clear hb hl i0 i1 i2 i3 i4 i5 i6 f1
  go_wp2
  rw [rounds_succ]
  obtain ⟨hl, i0, i1, i2, i3, i4, i5, i6⟩ := HI4.out
  have f2 := HF4.out.2 2 _ rfl
  go_wp2_with fail
  refine (lay_d 12 d n m a c i (putS (putS 3388997632 16 5 m) 5 5 n) _ (putS_lt (putS 3388997632 16 5 m) 5 5 n (putS_lt 3388997632 16 5 m hB0.1 hB0.2).1 (putS_lt 3388997632 16 5 m hB0.1 hB0.2).2).1 (putS_lt (putS 3388997632 16 5 m) 5 5 n (putS_lt 3388997632 16 5 m hB0.1 hB0.2).1 (putS_lt 3388997632 16 5 m hB0.1 hB0.2).2).2 (by have := HOK.out; omega) (by have := HOK.out; omega)).mono ?_
  rintro e w5 ⟨rfl, hb⟩
  have HB5 := Lib.hid (HB4.out.trans (hb.mono HB4.out.size))
  have HI5 := Lib.hid (HI4.out.below' hb rfl)
  have HF5 := Lib.hid (HF4.out.past hb rfl)
  clear hb hl i0 i1 i2 i3 i4 i5 i6 f2
  go_wp2
  rw [rounds_succ]
  go_wp2
  refine bodyPost_ret (v := .tuple #[.int .u32 (putS (putS (putS 3388997632 16 5 m) 5 5 n) 0 5 d), .int .i64 0]) (by simp [results, Try.results166, go_sem]) rfl ⟨rfl, HB5.out⟩
set_option maxRecDepth 100000 in
set_option maxHeartbeats 4000000 in
theorem word_16 (d n m a c i : Int) (b : Nat) (w : World) (hok : ok_16 d n m a c i = true) (hm : w.ownsMap Try.prog 3 (plainElem (H := Unit) Try.prog 54) b 42 DD) : Calls Try.prog 166 #[.agg #[.map (some b)], .agg #[.int .i64 16, .int .i64 d, .int .i64 n, .int .i64 m, .int .i64 a, .int .i64 c, .int .i64 i]] w fun e w' => e = .returned (.tuple #[.int .u32 (putS (putS (putS 2596282368 16 5 m) 5 5 n) 0 5 d), .int .i64 0]) ∧ Below w.heap.size w w' := by
  have HCK := Lib.hid (fun w => (by have := check_16 d n m a c i w; rw [hok] at this; exact this) : ∀ w, Calls Try.prog 31 #[.agg #[.int .i64 16, .int .i64 d, .int .i64 n, .int .i64 m, .int .i64 a, .int .i64 c, .int .i64 i]] w fun e w' => e = .returned (.int .i64 0) ∧ Below w.heap.size w w')
  have hB0 : (0 : Int) ≤ 2596282368 ∧ (2596282368 : Int) < 4294967296 := by decide
  simp only [ok_16, wi, Bool.and_eq_true, decide_eq_true_eq, beq_iff_eq] at hok
  have HOK := Lib.hid hok
  clear hok
  go_enter Try.func166, Try.ntmps166
  go_wp2_with fail
  have HM0 := Lib.hid (map_past (map_past hm ((Below.refl _ _).alloc (Nat.le_refl _) (.cells #[.map (some b)] 238))) ((Below.refl _ _).alloc (Nat.le_refl _) (.cells #[.int .i64 16, .int .i64 d, .int .i64 n, .int .i64 m, .int .i64 a, .int .i64 c, .int .i64 i] 29)))
  have HI0 := Lib.hid (InsC.new (w.alloc (.cells #[.map (some b)] 238)) (.int .i64 16) (.int .i64 d) (.int .i64 n) (.int .i64 m) (.int .i64 a) (.int .i64 c) (.int .i64 i))
  have HE0 : Hid (((w.alloc (.cells #[.map (some b)] 238)).alloc (.cells #[.int .i64 16, .int .i64 d, .int .i64 n, .int .i64 m, .int .i64 a, .int .i64 c, .int .i64 i] 29)).cell? ⟨w.heap.size, 0, none⟩ = some (.map (some b))) := Lib.hid (by simp)
  refine (HCK.out _).mono ?_
  rintro e w1 ⟨rfl, hb⟩
  have HB1 : Hid (Below w.heap.size w w1) := Lib.hid ((((Below.refl _ _).alloc (Nat.le_refl _) _).alloc (by simp) _).trans (hb.mono (by simp; omega)))
  have HI1 := Lib.hid (HI0.out.below' hb rfl)
  rw [World.size_alloc] at HI1
  have HM1 := Lib.hid (map_past HM0.out hb)
  have e1 := (hb.cell (p := ⟨w.heap.size, 0, none⟩) (by simp; omega)).trans HE0.out
  have hs1 : w.heap.size + 1 < w1.heap.size := HI1.out.1
  obtain ⟨hl, i0, i1, i2, i3, i4, i5, i6⟩ := HI1.out
  clear hb HI0 HM0 HE0 hm
  go_wp2_with (at_lookup; refine wpList_lookup_own_int _ rfl _ _ 235 rfl 3 54 .u32 law3 Try.underlying235 Try.underlying54 (zero25 _) b 42 _ rfl HM1.out _ _ rfl (keyOf_int_mk Try.underlying3 (by decide)) ?_; intro c' hat hwc; obtain rfl : c' = 2596282368 := (look_c _ _ hat).trans (by decide))
  clear hat hwc e1 HM1
  refine (flds_16 _).mono ?_
  rintro e w2 ⟨rfl, hf, hb⟩
  have HB2 := Lib.hid (HB1.out.trans (hb.mono HB1.out.size))
  have HI2 := Lib.hid (HI1.out.below' hb rfl)
  have HF2 := Lib.hid hf
  clear hl i0 i1 i2 i3 i4 i5 i6
  obtain ⟨g, hg⟩ : ∃ g, g = w1.heap.size := ⟨_, rfl⟩
  rw [← hg] at HF2
  rw [← hg]
  clear hb hf HI1 HB1 hg hs1
  go_wp2_with fail
  refine wp_loop_rounds 4 ?_
  rw [rounds_succ]
  obtain ⟨hl, i0, i1, i2, i3, i4, i5, i6⟩ := HI2.out
  have f0 := HF2.out.2 0 _ rfl
  go_wp2_with fail
  refine (lay_m 16 d n m a c i 2596282368 _ hB0.1 hB0.2 (by have := HOK.out; omega) (by have := HOK.out; omega)).mono ?_
  rintro e w3 ⟨rfl, hb⟩
  have HB3 := Lib.hid (HB2.out.trans (hb.mono HB2.out.size))
  have HI3 := Lib.hid (HI2.out.below' hb rfl)
  have HF3 := Lib.hid (HF2.out.past hb rfl)
  clear hb hl i0 i1 i2 i3 i4 i5 i6 f0
  go_wp2
  rw [rounds_succ]
  obtain ⟨hl, i0, i1, i2, i3, i4, i5, i6⟩ := HI3.out
  have f1 := HF3.out.2 1 _ rfl
  go_wp2_with fail
  refine (lay_n 16 d n m a c i (putS 2596282368 16 5 m) _ (putS_lt 2596282368 16 5 m hB0.1 hB0.2).1 (putS_lt 2596282368 16 5 m hB0.1 hB0.2).2 (by have := HOK.out; omega) (by have := HOK.out; omega)).mono ?_
  rintro e w4 ⟨rfl, hb⟩
  have HB4 := Lib.hid (HB3.out.trans (hb.mono HB3.out.size))
  have HI4 := Lib.hid (HI3.out.below' hb rfl)
  have HF4 := Lib.hid (HF3.out.past hb rfl)
  clear hb hl i0 i1 i2 i3 i4 i5 i6 f1
  go_wp2
  rw [rounds_succ]
  obtain ⟨hl, i0, i1, i2, i3, i4, i5, i6⟩ := HI4.out
  have f2 := HF4.out.2 2 _ rfl
  go_wp2_with fail
  refine (lay_d 16 d n m a c i (putS (putS 2596282368 16 5 m) 5 5 n) _ (putS_lt (putS 2596282368 16 5 m) 5 5 n (putS_lt 2596282368 16 5 m hB0.1 hB0.2).1 (putS_lt 2596282368 16 5 m hB0.1 hB0.2).2).1 (putS_lt (putS 2596282368 16 5 m) 5 5 n (putS_lt 2596282368 16 5 m hB0.1 hB0.2).1 (putS_lt 2596282368 16 5 m hB0.1 hB0.2).2).2 (by have := HOK.out; omega) (by have := HOK.out; omega)).mono ?_
  rintro e w5 ⟨rfl, hb⟩
  have HB5 := Lib.hid (HB4.out.trans (hb.mono HB4.out.size))
  have HI5 := Lib.hid (HI4.out.below' hb rfl)
  have HF5 := Lib.hid (HF4.out.past hb rfl)
  clear hb hl i0 i1 i2 i3 i4 i5 i6 f2
  go_wp2
  rw [rounds_succ]
  go_wp2
  refine bodyPost_ret (v := .tuple #[.int .u32 (putS (putS (putS 2596282368 16 5 m) 5 5 n) 0 5 d), .int .i64 0]) (by simp [results, Try.results166, go_sem]) rfl ⟨rfl, HB5.out⟩
set_option maxRecDepth 100000 in
set_option maxHeartbeats 4000000 in
theorem word_20 (d n m a c i : Int) (b : Nat) (w : World) (hok : ok_20 d n m a c i = true) (hm : w.ownsMap Try.prog 3 (plainElem (H := Unit) Try.prog 54) b 42 DD) : Calls Try.prog 166 #[.agg #[.map (some b)], .agg #[.int .i64 20, .int .i64 d, .int .i64 n, .int .i64 m, .int .i64 a, .int .i64 c, .int .i64 i]] w fun e w' => e = .returned (.tuple #[.int .u32 (putS 335544320 0 26 (i / 4 % 4294967296)), .int .i64 0]) ∧ Below w.heap.size w w' := by
  have HCK := Lib.hid (fun w => (by have := check_20 d n m a c i w; rw [hok] at this; exact this) : ∀ w, Calls Try.prog 31 #[.agg #[.int .i64 20, .int .i64 d, .int .i64 n, .int .i64 m, .int .i64 a, .int .i64 c, .int .i64 i]] w fun e w' => e = .returned (.int .i64 0) ∧ Below w.heap.size w w')
  have hB0 : (0 : Int) ≤ 335544320 ∧ (335544320 : Int) < 4294967296 := by decide
  simp only [ok_20, wi, wm, Bool.and_eq_true, decide_eq_true_eq, beq_iff_eq] at hok
  have HOK := Lib.hid hok
  clear hok
  go_enter Try.func166, Try.ntmps166
  go_wp2_with fail
  have HM0 := Lib.hid (map_past (map_past hm ((Below.refl _ _).alloc (Nat.le_refl _) (.cells #[.map (some b)] 238))) ((Below.refl _ _).alloc (Nat.le_refl _) (.cells #[.int .i64 20, .int .i64 d, .int .i64 n, .int .i64 m, .int .i64 a, .int .i64 c, .int .i64 i] 29)))
  have HI0 := Lib.hid (InsC.new (w.alloc (.cells #[.map (some b)] 238)) (.int .i64 20) (.int .i64 d) (.int .i64 n) (.int .i64 m) (.int .i64 a) (.int .i64 c) (.int .i64 i))
  have HE0 : Hid (((w.alloc (.cells #[.map (some b)] 238)).alloc (.cells #[.int .i64 20, .int .i64 d, .int .i64 n, .int .i64 m, .int .i64 a, .int .i64 c, .int .i64 i] 29)).cell? ⟨w.heap.size, 0, none⟩ = some (.map (some b))) := Lib.hid (by simp)
  refine (HCK.out _).mono ?_
  rintro e w1 ⟨rfl, hb⟩
  have HB1 : Hid (Below w.heap.size w w1) := Lib.hid ((((Below.refl _ _).alloc (Nat.le_refl _) _).alloc (by simp) _).trans (hb.mono (by simp; omega)))
  have HI1 := Lib.hid (HI0.out.below' hb rfl)
  rw [World.size_alloc] at HI1
  have HM1 := Lib.hid (map_past HM0.out hb)
  have e1 := (hb.cell (p := ⟨w.heap.size, 0, none⟩) (by simp; omega)).trans HE0.out
  have hs1 : w.heap.size + 1 < w1.heap.size := HI1.out.1
  obtain ⟨hl, i0, i1, i2, i3, i4, i5, i6⟩ := HI1.out
  clear hb HI0 HM0 HE0 hm
  go_wp2_with (at_lookup; refine wpList_lookup_own_int _ rfl _ _ 235 rfl 3 54 .u32 law3 Try.underlying235 Try.underlying54 (zero25 _) b 42 _ rfl HM1.out _ _ rfl (keyOf_int_mk Try.underlying3 (by decide)) ?_; intro c' hat hwc; obtain rfl : c' = 335544320 := (look_c _ _ hat).trans (by decide))
  clear hat hwc e1 HM1
  refine (flds_20 _).mono ?_
  rintro e w2 ⟨rfl, hf, hb⟩
  have HB2 := Lib.hid (HB1.out.trans (hb.mono HB1.out.size))
  have HI2 := Lib.hid (HI1.out.below' hb rfl)
  have HF2 := Lib.hid hf
  clear hl i0 i1 i2 i3 i4 i5 i6
  obtain ⟨g, hg⟩ : ∃ g, g = w1.heap.size := ⟨_, rfl⟩
  rw [← hg] at HF2
  rw [← hg]
  clear hb hf HI1 HB1 hg hs1
  go_wp2_with fail
  refine wp_loop_rounds 2 ?_
  rw [rounds_succ]
  obtain ⟨hl, i0, i1, i2, i3, i4, i5, i6⟩ := HI2.out
  have f0 := HF2.out.2 0 _ rfl
  go_wp2_with fail
  refine (lay_far 20 d n m a c i 335544320 (i / 4) _ hB0.1 hB0.2 (by have := HOK.out; omega) (by have := HOK.out; omega) (by have := HOK.out; omega)).mono ?_
  rintro e w3 ⟨rfl, hb⟩
  have HB3 := Lib.hid (HB2.out.trans (hb.mono HB2.out.size))
  have HI3 := Lib.hid (HI2.out.below' hb rfl)
  have HF3 := Lib.hid (HF2.out.past hb rfl)
  clear hb hl i0 i1 i2 i3 i4 i5 i6 f0
  go_wp2
  rw [rounds_succ]
  go_wp2
  refine bodyPost_ret (v := .tuple #[.int .u32 (putS 335544320 0 26 (i / 4 % 4294967296)), .int .i64 0]) (by simp [results, Try.results166, go_sem]) rfl ⟨rfl, HB3.out⟩
set_option maxRecDepth 100000 in
set_option maxHeartbeats 4000000 in
theorem word_24 (d n m a c i : Int) (b : Nat) (w : World) (hok : ok_24 d n m a c i = true) (hm : w.ownsMap Try.prog 3 (plainElem (H := Unit) Try.prog 54) b 42 DD) : Calls Try.prog 166 #[.agg #[.map (some b)], .agg #[.int .i64 24, .int .i64 d, .int .i64 n, .int .i64 m, .int .i64 a, .int .i64 c, .int .i64 i]] w fun e w' => e = .returned (.tuple #[.int .u32 (putS 2483027968 0 26 (i / 4 % 4294967296)), .int .i64 0]) ∧ Below w.heap.size w w' := by
  have HCK := Lib.hid (fun w => (by have := check_24 d n m a c i w; rw [hok] at this; exact this) : ∀ w, Calls Try.prog 31 #[.agg #[.int .i64 24, .int .i64 d, .int .i64 n, .int .i64 m, .int .i64 a, .int .i64 c, .int .i64 i]] w fun e w' => e = .returned (.int .i64 0) ∧ Below w.heap.size w w')
  have hB0 : (0 : Int) ≤ 2483027968 ∧ (2483027968 : Int) < 4294967296 := by decide
  simp only [ok_24, wi, wm, Bool.and_eq_true, decide_eq_true_eq, beq_iff_eq] at hok
  have HOK := Lib.hid hok
  clear hok
  go_enter Try.func166, Try.ntmps166
  go_wp2_with fail
  have HM0 := Lib.hid (map_past (map_past hm ((Below.refl _ _).alloc (Nat.le_refl _) (.cells #[.map (some b)] 238))) ((Below.refl _ _).alloc (Nat.le_refl _) (.cells #[.int .i64 24, .int .i64 d, .int .i64 n, .int .i64 m, .int .i64 a, .int .i64 c, .int .i64 i] 29)))
  have HI0 := Lib.hid (InsC.new (w.alloc (.cells #[.map (some b)] 238)) (.int .i64 24) (.int .i64 d) (.int .i64 n) (.int .i64 m) (.int .i64 a) (.int .i64 c) (.int .i64 i))
  have HE0 : Hid (((w.alloc (.cells #[.map (some b)] 238)).alloc (.cells #[.int .i64 24, .int .i64 d, .int .i64 n, .int .i64 m, .int .i64 a, .int .i64 c, .int .i64 i] 29)).cell? ⟨w.heap.size, 0, none⟩ = some (.map (some b))) := Lib.hid (by simp)
  refine (HCK.out _).mono ?_
  rintro e w1 ⟨rfl, hb⟩
  have HB1 : Hid (Below w.heap.size w w1) := Lib.hid ((((Below.refl _ _).alloc (Nat.le_refl _) _).alloc (by simp) _).trans (hb.mono (by simp; omega)))
  have HI1 := Lib.hid (HI0.out.below' hb rfl)
  rw [World.size_alloc] at HI1
  have HM1 := Lib.hid (map_past HM0.out hb)
  have e1 := (hb.cell (p := ⟨w.heap.size, 0, none⟩) (by simp; omega)).trans HE0.out
  have hs1 : w.heap.size + 1 < w1.heap.size := HI1.out.1
  obtain ⟨hl, i0, i1, i2, i3, i4, i5, i6⟩ := HI1.out
  clear hb HI0 HM0 HE0 hm
  go_wp2_with (at_lookup; refine wpList_lookup_own_int _ rfl _ _ 235 rfl 3 54 .u32 law3 Try.underlying235 Try.underlying54 (zero25 _) b 42 _ rfl HM1.out _ _ rfl (keyOf_int_mk Try.underlying3 (by decide)) ?_; intro c' hat hwc; obtain rfl : c' = 2483027968 := (look_c _ _ hat).trans (by decide))
  clear hat hwc e1 HM1
  refine (flds_24 _).mono ?_
  rintro e w2 ⟨rfl, hf, hb⟩
  have HB2 := Lib.hid (HB1.out.trans (hb.mono HB1.out.size))
  have HI2 := Lib.hid (HI1.out.below' hb rfl)
  have HF2 := Lib.hid hf
  clear hl i0 i1 i2 i3 i4 i5 i6
  obtain ⟨g, hg⟩ : ∃ g, g = w1.heap.size := ⟨_, rfl⟩
  rw [← hg] at HF2
  rw [← hg]
  clear hb hf HI1 HB1 hg hs1
  go_wp2_with fail
  refine wp_loop_rounds 2 ?_
  rw [rounds_succ]
  obtain ⟨hl, i0, i1, i2, i3, i4, i5, i6⟩ := HI2.out
  have f0 := HF2.out.2 0 _ rfl
  go_wp2_with fail
  refine (lay_far 24 d n m a c i 2483027968 (i / 4) _ hB0.1 hB0.2 (by have := HOK.out; omega) (by have := HOK.out; omega) (by have := HOK.out; omega)).mono ?_
  rintro e w3 ⟨rfl, hb⟩
  have HB3 := Lib.hid (HB2.out.trans (hb.mono HB2.out.size))
  have HI3 := Lib.hid (HI2.out.below' hb rfl)
  have HF3 := Lib.hid (HF2.out.past hb rfl)
  clear hb hl i0 i1 i2 i3 i4 i5 i6 f0
  go_wp2
  rw [rounds_succ]
  go_wp2
  refine bodyPost_ret (v := .tuple #[.int .u32 (putS 2483027968 0 26 (i / 4 % 4294967296)), .int .i64 0]) (by simp [results, Try.results166, go_sem]) rfl ⟨rfl, HB3.out⟩
set_option maxRecDepth 100000 in
set_option maxHeartbeats 4000000 in
theorem word_28 (d n m a c i : Int) (b : Nat) (w : World) (hok : ok_28 d n m a c i = true) (hm : w.ownsMap Try.prog 3 (plainElem (H := Unit) Try.prog 54) b 42 DD) : Calls Try.prog 166 #[.agg #[.map (some b)], .agg #[.int .i64 28, .int .i64 d, .int .i64 n, .int .i64 m, .int .i64 a, .int .i64 c, .int .i64 i]] w fun e w' => e = .returned (.tuple #[.int .u32 (putS (putS (putS 4181721088 10 12 (i / 8)) 5 5 n) 0 5 d), .int .i64 0]) ∧ Below w.heap.size w w' := by
  have HCK := Lib.hid (fun w => (by have := check_28 d n m a c i w; rw [hok] at this; exact this) : ∀ w, Calls Try.prog 31 #[.agg #[.int .i64 28, .int .i64 d, .int .i64 n, .int .i64 m, .int .i64 a, .int .i64 c, .int .i64 i]] w fun e w' => e = .returned (.int .i64 0) ∧ Below w.heap.size w w')
  have hB0 : (0 : Int) ≤ 4181721088 ∧ (4181721088 : Int) < 4294967296 := by decide
  simp only [ok_28, wi, wm, Bool.and_eq_true, decide_eq_true_eq, beq_iff_eq] at hok
  have HOK := Lib.hid hok
  clear hok
  go_enter Try.func166, Try.ntmps166
  go_wp2_with fail
  have HM0 := Lib.hid (map_past (map_past hm ((Below.refl _ _).alloc (Nat.le_refl _) (.cells #[.map (some b)] 238))) ((Below.refl _ _).alloc (Nat.le_refl _) (.cells #[.int .i64 28, .int .i64 d, .int .i64 n, .int .i64 m, .int .i64 a, .int .i64 c, .int .i64 i] 29)))
  have HI0 := Lib.hid (InsC.new (w.alloc (.cells #[.map (some b)] 238)) (.int .i64 28) (.int .i64 d) (.int .i64 n) (.int .i64 m) (.int .i64 a) (.int .i64 c) (.int .i64 i))
  have HE0 : Hid (((w.alloc (.cells #[.map (some b)] 238)).alloc (.cells #[.int .i64 28, .int .i64 d, .int .i64 n, .int .i64 m, .int .i64 a, .int .i64 c, .int .i64 i] 29)).cell? ⟨w.heap.size, 0, none⟩ = some (.map (some b))) := Lib.hid (by simp)
  refine (HCK.out _).mono ?_
  rintro e w1 ⟨rfl, hb⟩
  have HB1 : Hid (Below w.heap.size w w1) := Lib.hid ((((Below.refl _ _).alloc (Nat.le_refl _) _).alloc (by simp) _).trans (hb.mono (by simp; omega)))
  have HI1 := Lib.hid (HI0.out.below' hb rfl)
  rw [World.size_alloc] at HI1
  have HM1 := Lib.hid (map_past HM0.out hb)
  have e1 := (hb.cell (p := ⟨w.heap.size, 0, none⟩) (by simp; omega)).trans HE0.out
  have hs1 : w.heap.size + 1 < w1.heap.size := HI1.out.1
  obtain ⟨hl, i0, i1, i2, i3, i4, i5, i6⟩ := HI1.out
  clear hb HI0 HM0 HE0 hm
  go_wp2_with (at_lookup; refine wpList_lookup_own_int _ rfl _ _ 235 rfl 3 54 .u32 law3 Try.underlying235 Try.underlying54 (zero25 _) b 42 _ rfl HM1.out _ _ rfl (keyOf_int_mk Try.underlying3 (by decide)) ?_; intro c' hat hwc; obtain rfl : c' = 4181721088 := (look_c _ _ hat).trans (by decide))
  clear hat hwc e1 HM1
  refine (flds_28 _).mono ?_
  rintro e w2 ⟨rfl, hf, hb⟩
  have HB2 := Lib.hid (HB1.out.trans (hb.mono HB1.out.size))
  have HI2 := Lib.hid (HI1.out.below' hb rfl)
  have HF2 := Lib.hid hf
  clear hl i0 i1 i2 i3 i4 i5 i6
  obtain ⟨g, hg⟩ : ∃ g, g = w1.heap.size := ⟨_, rfl⟩
  rw [← hg] at HF2
  rw [← hg]
  clear hb hf HI1 HB1 hg hs1
  go_wp2_with fail
  refine wp_loop_rounds 4 ?_
  rw [rounds_succ]
  obtain ⟨hl, i0, i1, i2, i3, i4, i5, i6⟩ := HI2.out
  have f0 := HF2.out.2 0 _ rfl
  go_wp2_with fail
  refine (lay_eights 28 d n m a c i 4181721088 _ hB0.1 hB0.2 (by have := HOK.out; omega) (by have := HOK.out; omega)).mono ?_
  rintro e w3 ⟨rfl, hb⟩
  have HB3 := Lib.hid (HB2.out.trans (hb.mono HB2.out.size))
  have HI3 := Lib.hid (HI2.out.below' hb rfl)
  have HF3 := Lib.hid (HF2.out.past hb rfl)
  clear hb hl i0 i1 i2 i3 i4 i5 i6 f0
  go_wp2
  rw [rounds_succ]
  obtain ⟨hl, i0, i1, i2, i3, i4, i5, i6⟩ := HI3.out
  have f1 := HF3.out.2 1 _ rfl
  go_wp2_with fail
  refine (lay_n 28 d n m a c i (putS 4181721088 10 12 (i / 8)) _ (putS_lt 4181721088 10 12 (i / 8) hB0.1 hB0.2).1 (putS_lt 4181721088 10 12 (i / 8) hB0.1 hB0.2).2 (by have := HOK.out; omega) (by have := HOK.out; omega)).mono ?_
  rintro e w4 ⟨rfl, hb⟩
  have HB4 := Lib.hid (HB3.out.trans (hb.mono HB3.out.size))
  have HI4 := Lib.hid (HI3.out.below' hb rfl)
  have HF4 := Lib.hid (HF3.out.past hb rfl)
  clear hb hl i0 i1 i2 i3 i4 i5 i6 f1
  go_wp2
  rw [rounds_succ]
  obtain ⟨hl, i0, i1, i2, i3, i4, i5, i6⟩ := HI4.out
  have f2 := HF4.out.2 2 _ rfl
  go_wp2_with fail
  refine (lay_d 28 d n m a c i (putS (putS 4181721088 10 12 (i / 8)) 5 5 n) _ (putS_lt (putS 4181721088 10 12 (i / 8)) 5 5 n (putS_lt 4181721088 10 12 (i / 8) hB0.1 hB0.2).1 (putS_lt 4181721088 10 12 (i / 8) hB0.1 hB0.2).2).1 (putS_lt (putS 4181721088 10 12 (i / 8)) 5 5 n (putS_lt 4181721088 10 12 (i / 8) hB0.1 hB0.2).1 (putS_lt 4181721088 10 12 (i / 8) hB0.1 hB0.2).2).2 (by have := HOK.out; omega) (by have := HOK.out; omega)).mono ?_
  rintro e w5 ⟨rfl, hb⟩
  have HB5 := Lib.hid (HB4.out.trans (hb.mono HB4.out.size))
  have HI5 := Lib.hid (HI4.out.below' hb rfl)
  have HF5 := Lib.hid (HF4.out.past hb rfl)
  clear hb hl i0 i1 i2 i3 i4 i5 i6 f2
  go_wp2
  rw [rounds_succ]
  go_wp2
  refine bodyPost_ret (v := .tuple #[.int .u32 (putS (putS (putS 4181721088 10 12 (i / 8)) 5 5 n) 0 5 d), .int .i64 0]) (by simp [results, Try.results166, go_sem]) rfl ⟨rfl, HB5.out⟩
set_option maxRecDepth 100000 in
set_option maxHeartbeats 4000000 in
theorem word_32 (d n m a c i : Int) (b : Nat) (w : World) (hok : ok_32 d n m a c i = true) (hm : w.ownsMap Try.prog 3 (plainElem (H := Unit) Try.prog 54) b 42 DD) : Calls Try.prog 166 #[.agg #[.map (some b)], .agg #[.int .i64 32, .int .i64 d, .int .i64 n, .int .i64 m, .int .i64 a, .int .i64 c, .int .i64 i]] w fun e w' => e = .returned (.tuple #[.int .u32 (putS (putS (putS 4162877440 16 5 m) 5 5 n) 0 5 d), .int .i64 0]) ∧ Below w.heap.size w w' := by
  have HCK := Lib.hid (fun w => (by have := check_32 d n m a c i w; rw [hok] at this; exact this) : ∀ w, Calls Try.prog 31 #[.agg #[.int .i64 32, .int .i64 d, .int .i64 n, .int .i64 m, .int .i64 a, .int .i64 c, .int .i64 i]] w fun e w' => e = .returned (.int .i64 0) ∧ Below w.heap.size w w')
  have hB0 : (0 : Int) ≤ 4162877440 ∧ (4162877440 : Int) < 4294967296 := by decide
  simp only [ok_32, wi, Bool.and_eq_true, decide_eq_true_eq, beq_iff_eq] at hok
  have HOK := Lib.hid hok
  clear hok
  go_enter Try.func166, Try.ntmps166
  go_wp2_with fail
  have HM0 := Lib.hid (map_past (map_past hm ((Below.refl _ _).alloc (Nat.le_refl _) (.cells #[.map (some b)] 238))) ((Below.refl _ _).alloc (Nat.le_refl _) (.cells #[.int .i64 32, .int .i64 d, .int .i64 n, .int .i64 m, .int .i64 a, .int .i64 c, .int .i64 i] 29)))
  have HI0 := Lib.hid (InsC.new (w.alloc (.cells #[.map (some b)] 238)) (.int .i64 32) (.int .i64 d) (.int .i64 n) (.int .i64 m) (.int .i64 a) (.int .i64 c) (.int .i64 i))
  have HE0 : Hid (((w.alloc (.cells #[.map (some b)] 238)).alloc (.cells #[.int .i64 32, .int .i64 d, .int .i64 n, .int .i64 m, .int .i64 a, .int .i64 c, .int .i64 i] 29)).cell? ⟨w.heap.size, 0, none⟩ = some (.map (some b))) := Lib.hid (by simp)
  refine (HCK.out _).mono ?_
  rintro e w1 ⟨rfl, hb⟩
  have HB1 : Hid (Below w.heap.size w w1) := Lib.hid ((((Below.refl _ _).alloc (Nat.le_refl _) _).alloc (by simp) _).trans (hb.mono (by simp; omega)))
  have HI1 := Lib.hid (HI0.out.below' hb rfl)
  rw [World.size_alloc] at HI1
  have HM1 := Lib.hid (map_past HM0.out hb)
  have e1 := (hb.cell (p := ⟨w.heap.size, 0, none⟩) (by simp; omega)).trans HE0.out
  have hs1 : w.heap.size + 1 < w1.heap.size := HI1.out.1
  obtain ⟨hl, i0, i1, i2, i3, i4, i5, i6⟩ := HI1.out
  clear hb HI0 HM0 HE0 hm
  go_wp2_with (at_lookup; refine wpList_lookup_own_int _ rfl _ _ 235 rfl 3 54 .u32 law3 Try.underlying235 Try.underlying54 (zero25 _) b 42 _ rfl HM1.out _ _ rfl (keyOf_int_mk Try.underlying3 (by decide)) ?_; intro c' hat hwc; obtain rfl : c' = 4162877440 := (look_c _ _ hat).trans (by decide))
  clear hat hwc e1 HM1
  refine (flds_32 _).mono ?_
  rintro e w2 ⟨rfl, hf, hb⟩
  have HB2 := Lib.hid (HB1.out.trans (hb.mono HB1.out.size))
  have HI2 := Lib.hid (HI1.out.below' hb rfl)
  have HF2 := Lib.hid hf
  clear hl i0 i1 i2 i3 i4 i5 i6
  obtain ⟨g, hg⟩ : ∃ g, g = w1.heap.size := ⟨_, rfl⟩
  rw [← hg] at HF2
  rw [← hg]
  clear hb hf HI1 HB1 hg hs1
  go_wp2_with fail
  refine wp_loop_rounds 4 ?_
  rw [rounds_succ]
  obtain ⟨hl, i0, i1, i2, i3, i4, i5, i6⟩ := HI2.out
  have f0 := HF2.out.2 0 _ rfl
  go_wp2_with fail
  refine (lay_m 32 d n m a c i 4162877440 _ hB0.1 hB0.2 (by have := HOK.out; omega) (by have := HOK.out; omega)).mono ?_
  rintro e w3 ⟨rfl, hb⟩
  have HB3 := Lib.hid (HB2.out.trans (hb.mono HB2.out.size))
  have HI3 := Lib.hid (HI2.out.below' hb rfl)
  have HF3 := Lib.hid (HF2.out.past hb rfl)
  clear hb hl i0 i1 i2 i3 i4 i5 i6 f0
  go_wp2
  rw [rounds_succ]
  obtain ⟨hl, i0, i1, i2, i3, i4, i5, i6⟩ := HI3.out
  have f1 := HF3.out.2 1 _ rfl
  go_wp2_with fail
  refine (lay_n 32 d n m a c i (putS 4162877440 16 5 m) _ (putS_lt 4162877440 16 5 m hB0.1 hB0.2).1 (putS_lt 4162877440 16 5 m hB0.1 hB0.2).2 (by have := HOK.out; omega) (by have := HOK.out; omega)).mono ?_
  rintro e w4 ⟨rfl, hb⟩
  have HB4 := Lib.hid (HB3.out.trans (hb.mono HB3.out.size))
  have HI4 := Lib.hid (HI3.out.below' hb rfl)
  have HF4 := Lib.hid (HF3.out.past hb rfl)
  clear hb hl i0 i1 i2 i3 i4 i5 i6 f1
  go_wp2
  rw [rounds_succ]
  obtain ⟨hl, i0, i1, i2, i3, i4, i5, i6⟩ := HI4.out
  have f2 := HF4.out.2 2 _ rfl
  go_wp2_with fail
  refine (lay_d 32 d n m a c i (putS (putS 4162877440 16 5 m) 5 5 n) _ (putS_lt (putS 4162877440 16 5 m) 5 5 n (putS_lt 4162877440 16 5 m hB0.1 hB0.2).1 (putS_lt 4162877440 16 5 m hB0.1 hB0.2).2).1 (putS_lt (putS 4162877440 16 5 m) 5 5 n (putS_lt 4162877440 16 5 m hB0.1 hB0.2).1 (putS_lt 4162877440 16 5 m hB0.1 hB0.2).2).2 (by have := HOK.out; omega) (by have := HOK.out; omega)).mono ?_
  rintro e w5 ⟨rfl, hb⟩
  have HB5 := Lib.hid (HB4.out.trans (hb.mono HB4.out.size))
  have HI5 := Lib.hid (HI4.out.below' hb rfl)
  have HF5 := Lib.hid (HF4.out.past hb rfl)
  clear hb hl i0 i1 i2 i3 i4 i5 i6 f2
  go_wp2
  rw [rounds_succ]
  go_wp2
  refine bodyPost_ret (v := .tuple #[.int .u32 (putS (putS (putS 4162877440 16 5 m) 5 5 n) 0 5 d), .int .i64 0]) (by simp [results, Try.results166, go_sem]) rfl ⟨rfl, HB5.out⟩
set_option maxRecDepth 100000 in
set_option maxHeartbeats 4000000 in
theorem word_36 (d n m a c i : Int) (b : Nat) (w : World) (hok : ok_36 d n m a c i = true) (hm : w.ownsMap Try.prog 3 (plainElem (H := Unit) Try.prog 54) b 42 DD) : Calls Try.prog 166 #[.agg #[.map (some b)], .agg #[.int .i64 36, .int .i64 d, .int .i64 n, .int .i64 m, .int .i64 a, .int .i64 c, .int .i64 i]] w fun e w' => e = .returned (.tuple #[.int .u32 (putS (putS (putS 3355474944 16 5 d) 5 5 n) 0 5 m), .int .i64 0]) ∧ Below w.heap.size w w' := by
  have HCK := Lib.hid (fun w => (by have := check_36 d n m a c i w; rw [hok] at this; exact this) : ∀ w, Calls Try.prog 31 #[.agg #[.int .i64 36, .int .i64 d, .int .i64 n, .int .i64 m, .int .i64 a, .int .i64 c, .int .i64 i]] w fun e w' => e = .returned (.int .i64 0) ∧ Below w.heap.size w w')
  have hB0 : (0 : Int) ≤ 3355474944 ∧ (3355474944 : Int) < 4294967296 := by decide
  simp only [ok_36, wi, Bool.and_eq_true, decide_eq_true_eq, beq_iff_eq] at hok
  have HOK := Lib.hid hok
  clear hok
  go_enter Try.func166, Try.ntmps166
  go_wp2_with fail
  have HM0 := Lib.hid (map_past (map_past hm ((Below.refl _ _).alloc (Nat.le_refl _) (.cells #[.map (some b)] 238))) ((Below.refl _ _).alloc (Nat.le_refl _) (.cells #[.int .i64 36, .int .i64 d, .int .i64 n, .int .i64 m, .int .i64 a, .int .i64 c, .int .i64 i] 29)))
  have HI0 := Lib.hid (InsC.new (w.alloc (.cells #[.map (some b)] 238)) (.int .i64 36) (.int .i64 d) (.int .i64 n) (.int .i64 m) (.int .i64 a) (.int .i64 c) (.int .i64 i))
  have HE0 : Hid (((w.alloc (.cells #[.map (some b)] 238)).alloc (.cells #[.int .i64 36, .int .i64 d, .int .i64 n, .int .i64 m, .int .i64 a, .int .i64 c, .int .i64 i] 29)).cell? ⟨w.heap.size, 0, none⟩ = some (.map (some b))) := Lib.hid (by simp)
  refine (HCK.out _).mono ?_
  rintro e w1 ⟨rfl, hb⟩
  have HB1 : Hid (Below w.heap.size w w1) := Lib.hid ((((Below.refl _ _).alloc (Nat.le_refl _) _).alloc (by simp) _).trans (hb.mono (by simp; omega)))
  have HI1 := Lib.hid (HI0.out.below' hb rfl)
  rw [World.size_alloc] at HI1
  have HM1 := Lib.hid (map_past HM0.out hb)
  have e1 := (hb.cell (p := ⟨w.heap.size, 0, none⟩) (by simp; omega)).trans HE0.out
  have hs1 : w.heap.size + 1 < w1.heap.size := HI1.out.1
  obtain ⟨hl, i0, i1, i2, i3, i4, i5, i6⟩ := HI1.out
  clear hb HI0 HM0 HE0 hm
  go_wp2_with (at_lookup; refine wpList_lookup_own_int _ rfl _ _ 235 rfl 3 54 .u32 law3 Try.underlying235 Try.underlying54 (zero25 _) b 42 _ rfl HM1.out _ _ rfl (keyOf_int_mk Try.underlying3 (by decide)) ?_; intro c' hat hwc; obtain rfl : c' = 3355474944 := (look_c _ _ hat).trans (by decide))
  clear hat hwc e1 HM1
  refine (flds_36 _).mono ?_
  rintro e w2 ⟨rfl, hf, hb⟩
  have HB2 := Lib.hid (HB1.out.trans (hb.mono HB1.out.size))
  have HI2 := Lib.hid (HI1.out.below' hb rfl)
  have HF2 := Lib.hid hf
  clear hl i0 i1 i2 i3 i4 i5 i6
  obtain ⟨g, hg⟩ : ∃ g, g = w1.heap.size := ⟨_, rfl⟩
  rw [← hg] at HF2
  rw [← hg]
  clear hb hf HI1 HB1 hg hs1
  go_wp2_with fail
  refine wp_loop_rounds 4 ?_
  rw [rounds_succ]
  obtain ⟨hl, i0, i1, i2, i3, i4, i5, i6⟩ := HI2.out
  have f0 := HF2.out.2 0 _ rfl
  go_wp2_with fail
  refine (lay_status 36 d n m a c i 3355474944 _ hB0.1 hB0.2 (by have := HOK.out; omega) (by have := HOK.out; omega)).mono ?_
  rintro e w3 ⟨rfl, hb⟩
  have HB3 := Lib.hid (HB2.out.trans (hb.mono HB2.out.size))
  have HI3 := Lib.hid (HI2.out.below' hb rfl)
  have HF3 := Lib.hid (HF2.out.past hb rfl)
  clear hb hl i0 i1 i2 i3 i4 i5 i6 f0
  go_wp2
  rw [rounds_succ]
  obtain ⟨hl, i0, i1, i2, i3, i4, i5, i6⟩ := HI3.out
  have f1 := HF3.out.2 1 _ rfl
  go_wp2_with fail
  refine (lay_n 36 d n m a c i (putS 3355474944 16 5 d) _ (putS_lt 3355474944 16 5 d hB0.1 hB0.2).1 (putS_lt 3355474944 16 5 d hB0.1 hB0.2).2 (by have := HOK.out; omega) (by have := HOK.out; omega)).mono ?_
  rintro e w4 ⟨rfl, hb⟩
  have HB4 := Lib.hid (HB3.out.trans (hb.mono HB3.out.size))
  have HI4 := Lib.hid (HI3.out.below' hb rfl)
  have HF4 := Lib.hid (HF3.out.past hb rfl)
  clear hb hl i0 i1 i2 i3 i4 i5 i6 f1
  go_wp2
  rw [rounds_succ]
  obtain ⟨hl, i0, i1, i2, i3, i4, i5, i6⟩ := HI4.out
  have f2 := HF4.out.2 2 _ rfl
  go_wp2_with fail
  refine (lay_stored 36 d n m a c i (putS (putS 3355474944 16 5 d) 5 5 n) _ (putS_lt (putS 3355474944 16 5 d) 5 5 n (putS_lt 3355474944 16 5 d hB0.1 hB0.2).1 (putS_lt 3355474944 16 5 d hB0.1 hB0.2).2).1 (putS_lt (putS 3355474944 16 5 d) 5 5 n (putS_lt 3355474944 16 5 d hB0.1 hB0.2).1 (putS_lt 3355474944 16 5 d hB0.1 hB0.2).2).2 (by have := HOK.out; omega) (by have := HOK.out; omega)).mono ?_
  rintro e w5 ⟨rfl, hb⟩
  have HB5 := Lib.hid (HB4.out.trans (hb.mono HB4.out.size))
  have HI5 := Lib.hid (HI4.out.below' hb rfl)
  have HF5 := Lib.hid (HF4.out.past hb rfl)
  clear hb hl i0 i1 i2 i3 i4 i5 i6 f2
  go_wp2
  rw [rounds_succ]
  go_wp2
  refine bodyPost_ret (v := .tuple #[.int .u32 (putS (putS (putS 3355474944 16 5 d) 5 5 n) 0 5 m), .int .i64 0]) (by simp [results, Try.results166, go_sem]) rfl ⟨rfl, HB5.out⟩
set_option maxRecDepth 100000 in
set_option maxHeartbeats 4000000 in
theorem word_40 (d n m a c i : Int) (b : Nat) (w : World) (hok : ok_40 d n m a c i = true) (hm : w.ownsMap Try.prog 3 (plainElem (H := Unit) Try.prog 54) b 42 DD) : Calls Try.prog 166 #[.agg #[.map (some b)], .agg #[.int .i64 40, .int .i64 d, .int .i64 n, .int .i64 m, .int .i64 a, .int .i64 c, .int .i64 i]] w fun e w' => e = .returned (.tuple #[.int .u32 (putS 3574299424 0 5 n), .int .i64 0]) ∧ Below w.heap.size w w' := by
  have HCK := Lib.hid (fun w => (by have := check_40 d n m a c i w; rw [hok] at this; exact this) : ∀ w, Calls Try.prog 31 #[.agg #[.int .i64 40, .int .i64 d, .int .i64 n, .int .i64 m, .int .i64 a, .int .i64 c, .int .i64 i]] w fun e w' => e = .returned (.int .i64 0) ∧ Below w.heap.size w w')
  have hB0 : (0 : Int) ≤ 3574299424 ∧ (3574299424 : Int) < 4294967296 := by decide
  simp only [ok_40, wi, Bool.and_eq_true, decide_eq_true_eq, beq_iff_eq] at hok
  have HOK := Lib.hid hok
  clear hok
  go_enter Try.func166, Try.ntmps166
  go_wp2_with fail
  have HM0 := Lib.hid (map_past (map_past hm ((Below.refl _ _).alloc (Nat.le_refl _) (.cells #[.map (some b)] 238))) ((Below.refl _ _).alloc (Nat.le_refl _) (.cells #[.int .i64 40, .int .i64 d, .int .i64 n, .int .i64 m, .int .i64 a, .int .i64 c, .int .i64 i] 29)))
  have HI0 := Lib.hid (InsC.new (w.alloc (.cells #[.map (some b)] 238)) (.int .i64 40) (.int .i64 d) (.int .i64 n) (.int .i64 m) (.int .i64 a) (.int .i64 c) (.int .i64 i))
  have HE0 : Hid (((w.alloc (.cells #[.map (some b)] 238)).alloc (.cells #[.int .i64 40, .int .i64 d, .int .i64 n, .int .i64 m, .int .i64 a, .int .i64 c, .int .i64 i] 29)).cell? ⟨w.heap.size, 0, none⟩ = some (.map (some b))) := Lib.hid (by simp)
  refine (HCK.out _).mono ?_
  rintro e w1 ⟨rfl, hb⟩
  have HB1 : Hid (Below w.heap.size w w1) := Lib.hid ((((Below.refl _ _).alloc (Nat.le_refl _) _).alloc (by simp) _).trans (hb.mono (by simp; omega)))
  have HI1 := Lib.hid (HI0.out.below' hb rfl)
  rw [World.size_alloc] at HI1
  have HM1 := Lib.hid (map_past HM0.out hb)
  have e1 := (hb.cell (p := ⟨w.heap.size, 0, none⟩) (by simp; omega)).trans HE0.out
  have hs1 : w.heap.size + 1 < w1.heap.size := HI1.out.1
  obtain ⟨hl, i0, i1, i2, i3, i4, i5, i6⟩ := HI1.out
  clear hb HI0 HM0 HE0 hm
  go_wp2_with (at_lookup; refine wpList_lookup_own_int _ rfl _ _ 235 rfl 3 54 .u32 law3 Try.underlying235 Try.underlying54 (zero25 _) b 42 _ rfl HM1.out _ _ rfl (keyOf_int_mk Try.underlying3 (by decide)) ?_; intro c' hat hwc; obtain rfl : c' = 3574299424 := (look_c _ _ hat).trans (by decide))
  clear hat hwc e1 HM1
  refine (flds_40 _).mono ?_
  rintro e w2 ⟨rfl, hf, hb⟩
  have HB2 := Lib.hid (HB1.out.trans (hb.mono HB1.out.size))
  have HI2 := Lib.hid (HI1.out.below' hb rfl)
  have HF2 := Lib.hid hf
  clear hl i0 i1 i2 i3 i4 i5 i6
  obtain ⟨g, hg⟩ : ∃ g, g = w1.heap.size := ⟨_, rfl⟩
  rw [← hg] at HF2
  rw [← hg]
  clear hb hf HI1 HB1 hg hs1
  go_wp2_with fail
  refine wp_loop_rounds 2 ?_
  rw [rounds_succ]
  obtain ⟨hl, i0, i1, i2, i3, i4, i5, i6⟩ := HI2.out
  have f0 := HF2.out.2 0 _ rfl
  go_wp2_with fail
  refine (lay_line 40 d n m a c i 3574299424 _ hB0.1 hB0.2 (by have := HOK.out; omega) (by have := HOK.out; omega)).mono ?_
  rintro e w3 ⟨rfl, hb⟩
  have HB3 := Lib.hid (HB2.out.trans (hb.mono HB2.out.size))
  have HI3 := Lib.hid (HI2.out.below' hb rfl)
  have HF3 := Lib.hid (HF2.out.past hb rfl)
  clear hb hl i0 i1 i2 i3 i4 i5 i6 f0
  go_wp2
  rw [rounds_succ]
  go_wp2
  refine bodyPost_ret (v := .tuple #[.int .u32 (putS 3574299424 0 5 n), .int .i64 0]) (by simp [results, Try.results166, go_sem]) rfl ⟨rfl, HB3.out⟩
end Go.Proofs.Ytnbpgoacooddjaa.En
