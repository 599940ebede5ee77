import Derived.Test.YthgpolddbadfmaaGs
import Derived.Deep.RegionHeld3
namespace Go.Proofs.Ythgpolddbadfmaa
open Go.ChangeShapes Go.WideShapes Go.ChangeAt Go.RowKit
set_option linter.unusedVariables false
theorem and_low (x : Int) (hx : 0 ≤ x) (hx' : x < 4294967296) : bits .and .u32 x 65535 = fd x 0 16 := by
  rw [u32_and x 65535 hx hx' (by decide) (by decide), fd_nat x 0 16 hx, show (65535 : Int).toNat = 2 ^ 16 - 1 from rfl, Nat.and_two_pow_sub_one_eq_mod]
  simp
set_option maxRecDepth 100000 in
set_option maxHeartbeats 4000000 in
theorem back_nz (op d n m a c i kd kn km ka kc ki x y : Int) (w : World) (h16 : (∀ w, Calls Try.prog 16 #[I7 op d n m a c i] w fun e w' => e = .returned (.int .i64 1) ∧ Below w.heap.size w w')) (k18 : (∀ w, Calls Try.prog 18 #[.int .u32 x] w fun e w' => e = .returned (I7 0 kd kn km ka kc ki) ∧ Below w.heap.size w w')) (k16 : (∀ w, Calls Try.prog 16 #[I7 0 kd kn km ka kc ki] w fun e w' => e = .returned (.int .i64 0) ∧ Below w.heap.size w w')) (k20 : (∀ w, Calls Try.prog 20 #[.int .u32 x] w fun e w' => e = .returned (.bool false) ∧ Below w.heap.size w w')) (k10 : (∀ w, Calls Try.prog 10 #[I7 0 kd kn km ka kc ki] w fun e w' => e = .returned (.tuple #[.int .u32 y, .int .i64 0]) ∧ Below w.heap.size w w')) (hu : bits .and .u32 x 65535 = ki) (hu0 : 0 ≤ ki ∧ ki < 65536) :
    Calls Try.prog 8 #[I7 op d n m a c i, .int .u32 x] w fun e w' => e = .returned (.bool true) ∧ Below w.heap.size w w' := by
  have H16 := Lib.hid h16
  have K18 := Lib.hid k18
  have K16 := Lib.hid k16
  have K20 := Lib.hid k20
  have K10 := Lib.hid k10
  clear h16 k18 k16 k20 k10
  go_enter Try.func8, Try.ntmps8
  go_wp2_with fail
  have HI0 := Lib.hid (InsC.new w (.int .i64 op) (.int .i64 d) (.int .i64 n) (.int .i64 m) (.int .i64 a) (.int .i64 c) (.int .i64 i))
  refine (known17_c _).mono ?_
  rintro e w0 ⟨rfl, hb⟩
  have HI := Lib.hid (HI0.out.below' hb rfl)
  have HB0 : Hid (Below w.heap.size w w0) := Lib.hid (((Below.refl _ _).alloc (Nat.le_refl _) _).trans (hb.mono (by simp)))
  clear hb HI0
  obtain ⟨hl, i0, i1, i2', i3, i4, i5, i6⟩ := HI.out
  go_wp2_with fail
  refine (H16.out _).mono ?_
  rintro e w1 ⟨rfl, hb⟩
  have HI1 := Lib.hid (HI.out.below' hb rfl)
  have HB1 := Lib.hid (HB0.out.trans (hb.mono HB0.out.size))
  clear hb hl i0 i1 i2' i3 i4 i5 i6 HI HB0
  obtain ⟨hl, i0, i1, i2', i3, i4, i5, i6⟩ := HI1.out
  go_wp2_with fail
  clear hl i0 i1 i2' i3 i4 i5 i6 HI1
  refine (K18.out _).mono ?_
  rintro e w4 ⟨rfl, hb⟩
  have HB4 := Lib.hid (HB1.out.trans (hb.mono HB1.out.size))
  clear hb HB1
  go_wp2_with fail
  obtain ⟨y, x0, x1, x2, x3, x4, x5, x6⟩ := InsC.new w4 (.int .i64 0) (.int .i64 kd) (.int .i64 kn) (.int .i64 km) (.int .i64 ka) (.int .i64 kc) (.int .i64 ki)
  have HB5 : Hid (Below w.heap.size w (w4.alloc (.cells #[.int .i64 0, .int .i64 kd, .int .i64 kn, .int .i64 km, .int .i64 ka, .int .i64 kc, .int .i64 ki] 23))) := Lib.hid (HB4.out.alloc HB4.out.size _)
  clear HB4
  obtain ⟨b2, hb2⟩ : ∃ b2, b2 = w4.heap.size := ⟨_, rfl⟩
  have HN2 : Hid (w4.heap.size = b2) := Lib.hid hb2.symm
  rw [← hb2] at y x0 x1 x2 x3 x4 x5 x6
  rw [← hb2]
  clear hb2
  generalize w4.alloc (.cells #[.int .i64 0, .int .i64 kd, .int .i64 kn, .int .i64 km, .int .i64 ka, .int .i64 kc, .int .i64 ki] 23) = w5 at *
  have HQ : Hid (Below w5.heap.size w5 w5.drew) := Lib.hid (Below.refl _ _).drew
  go_region_held3 (fun w' => w'.cell? ⟨b2, 0, none⟩ = some (.int .i64 0) ∧ w'.cell? ⟨b2, 1, none⟩ = some (.int .i64 kd) ∧ w'.cell? ⟨b2, 2, none⟩ = some (.int .i64 kn) ∧ w'.cell? ⟨b2, 3, none⟩ = some (.int .i64 km) ∧ w'.cell? ⟨b2, 4, none⟩ = some (.int .i64 ka) ∧ w'.cell? ⟨b2, 5, none⟩ = some (.int .i64 kc) ∧ w'.cell? ⟨b2, 6, none⟩ = some (.int .i64 ki) ∧ Hid (Below w5.heap.size w5 w')) (first | exact ⟨x0, x1, x2, x3, x4, x5, x6, HQ⟩ | exact keepC y (by assumption) (by assumption)) (first | (go_at_call 16; refine (K16.out _).mono ?_; rintro r w9 ⟨rfl, hb9⟩) | (go_at_call 20; refine (K20.out _).mono ?_; rintro r w9 ⟨rfl, hb9⟩))
  rename_i hH
  obtain ⟨z0, z1, z2, z3, z4, z5, z6, hk⟩ := hH
  have HB6 := Lib.hid (HB5.out.trans (hk.out.mono HB5.out.size))
  clear x0 x1 x2 x3 x4 x5 x6 HQ HB5
  go_wp2_with fail
  refine (K10.out _).mono ?_
  rintro e w7 ⟨rfl, hb⟩
  have HB7 := Lib.hid (HB6.out.trans (hb.mono HB6.out.size))
  obtain ⟨x0, x1, x2, x3, x4, x5, x6, _⟩ := keepC y ⟨z0, z1, z2, z3, z4, z5, z6, hk⟩ hb
  clear hb HB6 hk z0 z1 z2 z3 z4 z5 z6
  go_wp2
  all_goals (go_ret; exact ⟨rfl, HB7.out⟩)
set_option maxRecDepth 100000 in
set_option maxHeartbeats 4000000 in
theorem back_np (ko op d n m a c i kd kn km ka kc ki x y : Int) (w : World) (hko : (ko == 0) = false) (hko2 : (ko != 0) = true) (h16 : (∀ w, Calls Try.prog 16 #[I7 op d n m a c i] w fun e w' => e = .returned (.int .i64 1) ∧ Below w.heap.size w w')) (k18 : (∀ w, Calls Try.prog 18 #[.int .u32 x] w fun e w' => e = .returned (I7 ko kd kn km ka kc ki) ∧ Below w.heap.size w w')) (k16 : (∀ w, Calls Try.prog 16 #[I7 ko kd kn km ka kc ki] w fun e w' => e = .returned (.int .i64 0) ∧ Below w.heap.size w w')) (k20 : (∀ w, Calls Try.prog 20 #[.int .u32 x] w fun e w' => e = .returned (.bool true) ∧ Below w.heap.size w w')) (k10 : (∀ w, Calls Try.prog 10 #[I7 ko kd kn km ka kc ki] w fun e w' => e = .returned (.tuple #[.int .u32 y, .int .i64 0]) ∧ Below w.heap.size w w')) (hy : (y == x) = true) :
    Calls Try.prog 8 #[I7 op d n m a c i, .int .u32 x] w fun e w' => e = .returned (.bool true) ∧ Below w.heap.size w w' := by
  have H16 := Lib.hid h16
  have K18 := Lib.hid k18
  have K16 := Lib.hid k16
  have K20 := Lib.hid k20
  have K10 := Lib.hid k10
  clear h16 k18 k16 k20 k10
  go_enter Try.func8, Try.ntmps8
  go_wp2_with fail
  have HI0 := Lib.hid (InsC.new w (.int .i64 op) (.int .i64 d) (.int .i64 n) (.int .i64 m) (.int .i64 a) (.int .i64 c) (.int .i64 i))
  refine (known17_c _).mono ?_
  rintro e w0 ⟨rfl, hb⟩
  have HI := Lib.hid (HI0.out.below' hb rfl)
  have HB0 : Hid (Below w.heap.size w w0) := Lib.hid (((Below.refl _ _).alloc (Nat.le_refl _) _).trans (hb.mono (by simp)))
  clear hb HI0
  obtain ⟨hl, i0, i1, i2', i3, i4, i5, i6⟩ := HI.out
  go_wp2_with fail
  refine (H16.out _).mono ?_
  rintro e w1 ⟨rfl, hb⟩
  have HI1 := Lib.hid (HI.out.below' hb rfl)
  have HB1 := Lib.hid (HB0.out.trans (hb.mono HB0.out.size))
  clear hb hl i0 i1 i2' i3 i4 i5 i6 HI HB0
  obtain ⟨hl, i0, i1, i2', i3, i4, i5, i6⟩ := HI1.out
  go_wp2_with fail
  clear hl i0 i1 i2' i3 i4 i5 i6 HI1
  refine (K18.out _).mono ?_
  rintro e w4 ⟨rfl, hb⟩
  have HB4 := Lib.hid (HB1.out.trans (hb.mono HB1.out.size))
  clear hb HB1
  go_wp2_with fail
  obtain ⟨y, x0, x1, x2, x3, x4, x5, x6⟩ := InsC.new w4 (.int .i64 ko) (.int .i64 kd) (.int .i64 kn) (.int .i64 km) (.int .i64 ka) (.int .i64 kc) (.int .i64 ki)
  have HB5 : Hid (Below w.heap.size w (w4.alloc (.cells #[.int .i64 ko, .int .i64 kd, .int .i64 kn, .int .i64 km, .int .i64 ka, .int .i64 kc, .int .i64 ki] 23))) := Lib.hid (HB4.out.alloc HB4.out.size _)
  clear HB4
  obtain ⟨b2, hb2⟩ : ∃ b2, b2 = w4.heap.size := ⟨_, rfl⟩
  have HN2 : Hid (w4.heap.size = b2) := Lib.hid hb2.symm
  rw [← hb2] at y x0 x1 x2 x3 x4 x5 x6
  rw [← hb2]
  clear hb2
  generalize w4.alloc (.cells #[.int .i64 ko, .int .i64 kd, .int .i64 kn, .int .i64 km, .int .i64 ka, .int .i64 kc, .int .i64 ki] 23) = w5 at *
  have HQ : Hid (Below w5.heap.size w5 w5.drew) := Lib.hid (Below.refl _ _).drew
  go_region_held3 (fun w' => w'.cell? ⟨b2, 0, none⟩ = some (.int .i64 ko) ∧ w'.cell? ⟨b2, 1, none⟩ = some (.int .i64 kd) ∧ w'.cell? ⟨b2, 2, none⟩ = some (.int .i64 kn) ∧ w'.cell? ⟨b2, 3, none⟩ = some (.int .i64 km) ∧ w'.cell? ⟨b2, 4, none⟩ = some (.int .i64 ka) ∧ w'.cell? ⟨b2, 5, none⟩ = some (.int .i64 kc) ∧ w'.cell? ⟨b2, 6, none⟩ = some (.int .i64 ki) ∧ Hid (Below w5.heap.size w5 w')) (first | exact ⟨x0, x1, x2, x3, x4, x5, x6, HQ⟩ | exact keepC y (by assumption) (by assumption)) (first | (go_at_call 16; refine (K16.out _).mono ?_; rintro r w9 ⟨rfl, hb9⟩) | (go_at_call 20; refine (K20.out _).mono ?_; rintro r w9 ⟨rfl, hb9⟩))
  rename_i hH
  obtain ⟨z0, z1, z2, z3, z4, z5, z6, hk⟩ := hH
  have HB6 := Lib.hid (HB5.out.trans (hk.out.mono HB5.out.size))
  clear x0 x1 x2 x3 x4 x5 x6 HQ HB5
  go_wp2_with fail
  refine (K10.out _).mono ?_
  rintro e w7 ⟨rfl, hb⟩
  have HB7 := Lib.hid (HB6.out.trans (hb.mono HB6.out.size))
  obtain ⟨x0, x1, x2, x3, x4, x5, x6, _⟩ := keepC y ⟨z0, z1, z2, z3, z4, z5, z6, hk⟩ hb
  clear hb HB6 hk z0 z1 z2 z3 z4 z5 z6
  go_wp2
  go_ret
  exact ⟨rfl, HB7.out⟩
set_option maxRecDepth 100000 in
set_option maxHeartbeats 4000000 in
theorem back_zz (d n m a c i kd kn km ka kc ki x y v : Int) (w : World) (h16 : (∀ w, Calls Try.prog 16 #[I7 0 d n m a c i] w fun e w' => e = .returned (.int .i64 0) ∧ Below w.heap.size w w')) (h10 : (∀ w, Calls Try.prog 10 #[I7 0 d n m a c i] w fun e w' => e = .returned (.tuple #[.int .u32 v, .int .i64 0]) ∧ Below w.heap.size w w')) (h18 : (∀ w, Calls Try.prog 18 #[.int .u32 v] w fun e w' => e = .returned (I7 0 d n m a c i) ∧ Below w.heap.size w w')) (h20 : (∀ w, Calls Try.prog 20 #[.int .u32 v] w fun e w' => e = .returned (.bool false) ∧ Below w.heap.size w w')) (k18 : (∀ w, Calls Try.prog 18 #[.int .u32 x] w fun e w' => e = .returned (I7 0 kd kn km ka kc ki) ∧ Below w.heap.size w w')) (k16 : (∀ w, Calls Try.prog 16 #[I7 0 kd kn km ka kc ki] w fun e w' => e = .returned (.int .i64 0) ∧ Below w.heap.size w w')) (k20 : (∀ w, Calls Try.prog 20 #[.int .u32 x] w fun e w' => e = .returned (.bool false) ∧ Below w.heap.size w w')) (k10 : (∀ w, Calls Try.prog 10 #[I7 0 kd kn km ka kc ki] w fun e w' => e = .returned (.tuple #[.int .u32 y, .int .i64 0]) ∧ Below w.heap.size w w')) (hu : bits .and .u32 x 65535 = ki) (hu0 : 0 ≤ ki ∧ ki < 65536) :
    Calls Try.prog 8 #[I7 0 d n m a c i, .int .u32 x] w fun e w' => e = .returned (.bool true) ∧ Below w.heap.size w w' := by
  have H16 := Lib.hid h16
  have H10 := Lib.hid h10
  have H18 := Lib.hid h18
  have H20 := Lib.hid h20
  have K18 := Lib.hid k18
  have K16 := Lib.hid k16
  have K20 := Lib.hid k20
  have K10 := Lib.hid k10
  clear h16 h10 h18 h20 k18 k16 k20 k10
  go_enter Try.func8, Try.ntmps8
  go_wp2_with fail
  have HI0 := Lib.hid (InsC.new w (.int .i64 0) (.int .i64 d) (.int .i64 n) (.int .i64 m) (.int .i64 a) (.int .i64 c) (.int .i64 i))
  refine (known17_c _).mono ?_
  rintro e w0 ⟨rfl, hb⟩
  have HI := Lib.hid (HI0.out.below' hb rfl)
  have HB0 : Hid (Below w.heap.size w w0) := Lib.hid (((Below.refl _ _).alloc (Nat.le_refl _) _).trans (hb.mono (by simp)))
  clear hb HI0
  obtain ⟨hl, i0, i1, i2', i3, i4, i5, i6⟩ := HI.out
  go_wp2_with fail
  refine (H16.out _).mono ?_
  rintro e w1 ⟨rfl, hb⟩
  have HI1 := Lib.hid (HI.out.below' hb rfl)
  have HB1 := Lib.hid (HB0.out.trans (hb.mono HB0.out.size))
  clear hb hl i0 i1 i2' i3 i4 i5 i6 HI HB0
  obtain ⟨hl, i0, i1, i2', i3, i4, i5, i6⟩ := HI1.out
  go_wp2_with fail
  refine (H10.out _).mono ?_
  rintro e w2 ⟨rfl, hb⟩
  have HI2 := Lib.hid (HI1.out.below' hb rfl)
  have HB2 := Lib.hid (HB1.out.trans (hb.mono HB1.out.size))
  clear hb hl i0 i1 i2' i3 i4 i5 i6 HI1 HB1
  obtain ⟨y, x0, x1, x2, x3, x4, x5, x6⟩ := HI2.out
  obtain ⟨b, hb⟩ : ∃ b, b = w.heap.size := ⟨_, rfl⟩
  have HN : Hid (w.heap.size = b) := Lib.hid hb.symm
  rw [← hb] at y x0 x1 x2 x3 x4 x5 x6
  go_wp2_with fail
  rw [← hb]
  clear hb HI2
  have HQ : Hid (Below w2.heap.size w2 w2.drew) := Lib.hid (Below.refl _ _).drew
  go_region_held3 (fun w' => w'.cell? ⟨b, 0, none⟩ = some (.int .i64 0) ∧ w'.cell? ⟨b, 1, none⟩ = some (.int .i64 d) ∧ w'.cell? ⟨b, 2, none⟩ = some (.int .i64 n) ∧ w'.cell? ⟨b, 3, none⟩ = some (.int .i64 m) ∧ w'.cell? ⟨b, 4, none⟩ = some (.int .i64 a) ∧ w'.cell? ⟨b, 5, none⟩ = some (.int .i64 c) ∧ w'.cell? ⟨b, 6, none⟩ = some (.int .i64 i) ∧ Hid (Below w2.heap.size w2 w')) (first | exact ⟨x0, x1, x2, x3, x4, x5, x6, HQ⟩ | exact keepC y (by assumption) (by assumption)) (first | (go_at_call 18; refine (H18.out _).mono ?_; rintro r w9 ⟨rfl, hb9⟩) | (go_at_call 20; refine (H20.out _).mono ?_; rintro r w9 ⟨rfl, hb9⟩))
  rename_i hH
  obtain ⟨_, _, _, _, _, _, _, hk⟩ := hH
  have HB3 := Lib.hid (HB2.out.trans (hk.out.mono HB2.out.size))
  clear hk x0 x1 x2 x3 x4 x5 x6 HQ HB2 y
  go_wp2_with fail
  refine (K18.out _).mono ?_
  rintro e w4 ⟨rfl, hb⟩
  have HB4 := Lib.hid (HB3.out.trans (hb.mono HB3.out.size))
  clear hb HB3
  go_wp2_with fail
  obtain ⟨y, x0, x1, x2, x3, x4, x5, x6⟩ := InsC.new w4 (.int .i64 0) (.int .i64 kd) (.int .i64 kn) (.int .i64 km) (.int .i64 ka) (.int .i64 kc) (.int .i64 ki)
  have HB5 : Hid (Below w.heap.size w (w4.alloc (.cells #[.int .i64 0, .int .i64 kd, .int .i64 kn, .int .i64 km, .int .i64 ka, .int .i64 kc, .int .i64 ki] 23))) := Lib.hid (HB4.out.alloc HB4.out.size _)
  clear HB4
  obtain ⟨b2, hb2⟩ : ∃ b2, b2 = w4.heap.size := ⟨_, rfl⟩
  have HN2 : Hid (w4.heap.size = b2) := Lib.hid hb2.symm
  rw [← hb2] at y x0 x1 x2 x3 x4 x5 x6
  rw [← hb2]
  clear hb2
  generalize w4.alloc (.cells #[.int .i64 0, .int .i64 kd, .int .i64 kn, .int .i64 km, .int .i64 ka, .int .i64 kc, .int .i64 ki] 23) = w5 at *
  have HQ : Hid (Below w5.heap.size w5 w5.drew) := Lib.hid (Below.refl _ _).drew
  go_region_held3 (fun w' => w'.cell? ⟨b2, 0, none⟩ = some (.int .i64 0) ∧ w'.cell? ⟨b2, 1, none⟩ = some (.int .i64 kd) ∧ w'.cell? ⟨b2, 2, none⟩ = some (.int .i64 kn) ∧ w'.cell? ⟨b2, 3, none⟩ = some (.int .i64 km) ∧ w'.cell? ⟨b2, 4, none⟩ = some (.int .i64 ka) ∧ w'.cell? ⟨b2, 5, none⟩ = some (.int .i64 kc) ∧ w'.cell? ⟨b2, 6, none⟩ = some (.int .i64 ki) ∧ Hid (Below w5.heap.size w5 w')) (first | exact ⟨x0, x1, x2, x3, x4, x5, x6, HQ⟩ | exact keepC y (by assumption) (by assumption)) (first | (go_at_call 16; refine (K16.out _).mono ?_; rintro r w9 ⟨rfl, hb9⟩) | (go_at_call 20; refine (K20.out _).mono ?_; rintro r w9 ⟨rfl, hb9⟩))
  rename_i hH
  obtain ⟨z0, z1, z2, z3, z4, z5, z6, hk⟩ := hH
  have HB6 := Lib.hid (HB5.out.trans (hk.out.mono HB5.out.size))
  clear x0 x1 x2 x3 x4 x5 x6 HQ HB5
  go_wp2_with fail
  refine (K10.out _).mono ?_
  rintro e w7 ⟨rfl, hb⟩
  have HB7 := Lib.hid (HB6.out.trans (hb.mono HB6.out.size))
  obtain ⟨x0, x1, x2, x3, x4, x5, x6, _⟩ := keepC y ⟨z0, z1, z2, z3, z4, z5, z6, hk⟩ hb
  clear hb HB6 hk z0 z1 z2 z3 z4 z5 z6
  go_wp2
  all_goals (go_ret; exact ⟨rfl, HB7.out⟩)
set_option maxRecDepth 100000 in
set_option maxHeartbeats 4000000 in
theorem back_zp (ko d n m a c i kd kn km ka kc ki x y v : Int) (w : World) (hko : (ko == 0) = false) (hko2 : (ko != 0) = true) (h16 : (∀ w, Calls Try.prog 16 #[I7 0 d n m a c i] w fun e w' => e = .returned (.int .i64 0) ∧ Below w.heap.size w w')) (h10 : (∀ w, Calls Try.prog 10 #[I7 0 d n m a c i] w fun e w' => e = .returned (.tuple #[.int .u32 v, .int .i64 0]) ∧ Below w.heap.size w w')) (h18 : (∀ w, Calls Try.prog 18 #[.int .u32 v] w fun e w' => e = .returned (I7 0 d n m a c i) ∧ Below w.heap.size w w')) (h20 : (∀ w, Calls Try.prog 20 #[.int .u32 v] w fun e w' => e = .returned (.bool false) ∧ Below w.heap.size w w')) (k18 : (∀ w, Calls Try.prog 18 #[.int .u32 x] w fun e w' => e = .returned (I7 ko kd kn km ka kc ki) ∧ Below w.heap.size w w')) (k16 : (∀ w, Calls Try.prog 16 #[I7 ko kd kn km ka kc ki] w fun e w' => e = .returned (.int .i64 0) ∧ Below w.heap.size w w')) (k20 : (∀ w, Calls Try.prog 20 #[.int .u32 x] w fun e w' => e = .returned (.bool true) ∧ Below w.heap.size w w')) (k10 : (∀ w, Calls Try.prog 10 #[I7 ko kd kn km ka kc ki] w fun e w' => e = .returned (.tuple #[.int .u32 y, .int .i64 0]) ∧ Below w.heap.size w w')) (hy : (y == x) = true) :
    Calls Try.prog 8 #[I7 0 d n m a c i, .int .u32 x] w fun e w' => e = .returned (.bool true) ∧ Below w.heap.size w w' := by
  have H16 := Lib.hid h16
  have H10 := Lib.hid h10
  have H18 := Lib.hid h18
  have H20 := Lib.hid h20
  have K18 := Lib.hid k18
  have K16 := Lib.hid k16
  have K20 := Lib.hid k20
  have K10 := Lib.hid k10
  clear h16 h10 h18 h20 k18 k16 k20 k10
  go_enter Try.func8, Try.ntmps8
  go_wp2_with fail
  have HI0 := Lib.hid (InsC.new w (.int .i64 0) (.int .i64 d) (.int .i64 n) (.int .i64 m) (.int .i64 a) (.int .i64 c) (.int .i64 i))
  refine (known17_c _).mono ?_
  rintro e w0 ⟨rfl, hb⟩
  have HI := Lib.hid (HI0.out.below' hb rfl)
  have HB0 : Hid (Below w.heap.size w w0) := Lib.hid (((Below.refl _ _).alloc (Nat.le_refl _) _).trans (hb.mono (by simp)))
  clear hb HI0
  obtain ⟨hl, i0, i1, i2', i3, i4, i5, i6⟩ := HI.out
  go_wp2_with fail
  refine (H16.out _).mono ?_
  rintro e w1 ⟨rfl, hb⟩
  have HI1 := Lib.hid (HI.out.below' hb rfl)
  have HB1 := Lib.hid (HB0.out.trans (hb.mono HB0.out.size))
  clear hb hl i0 i1 i2' i3 i4 i5 i6 HI HB0
  obtain ⟨hl, i0, i1, i2', i3, i4, i5, i6⟩ := HI1.out
  go_wp2_with fail
  refine (H10.out _).mono ?_
  rintro e w2 ⟨rfl, hb⟩
  have HI2 := Lib.hid (HI1.out.below' hb rfl)
  have HB2 := Lib.hid (HB1.out.trans (hb.mono HB1.out.size))
  clear hb hl i0 i1 i2' i3 i4 i5 i6 HI1 HB1
  obtain ⟨y, x0, x1, x2, x3, x4, x5, x6⟩ := HI2.out
  obtain ⟨b, hb⟩ : ∃ b, b = w.heap.size := ⟨_, rfl⟩
  have HN : Hid (w.heap.size = b) := Lib.hid hb.symm
  rw [← hb] at y x0 x1 x2 x3 x4 x5 x6
  go_wp2_with fail
  rw [← hb]
  clear hb HI2
  have HQ : Hid (Below w2.heap.size w2 w2.drew) := Lib.hid (Below.refl _ _).drew
  go_region_held3 (fun w' => w'.cell? ⟨b, 0, none⟩ = some (.int .i64 0) ∧ w'.cell? ⟨b, 1, none⟩ = some (.int .i64 d) ∧ w'.cell? ⟨b, 2, none⟩ = some (.int .i64 n) ∧ w'.cell? ⟨b, 3, none⟩ = some (.int .i64 m) ∧ w'.cell? ⟨b, 4, none⟩ = some (.int .i64 a) ∧ w'.cell? ⟨b, 5, none⟩ = some (.int .i64 c) ∧ w'.cell? ⟨b, 6, none⟩ = some (.int .i64 i) ∧ Hid (Below w2.heap.size w2 w')) (first | exact ⟨x0, x1, x2, x3, x4, x5, x6, HQ⟩ | exact keepC y (by assumption) (by assumption)) (first | (go_at_call 18; refine (H18.out _).mono ?_; rintro r w9 ⟨rfl, hb9⟩) | (go_at_call 20; refine (H20.out _).mono ?_; rintro r w9 ⟨rfl, hb9⟩))
  rename_i hH
  obtain ⟨_, _, _, _, _, _, _, hk⟩ := hH
  have HB3 := Lib.hid (HB2.out.trans (hk.out.mono HB2.out.size))
  clear hk x0 x1 x2 x3 x4 x5 x6 HQ HB2 y
  go_wp2_with fail
  refine (K18.out _).mono ?_
  rintro e w4 ⟨rfl, hb⟩
  have HB4 := Lib.hid (HB3.out.trans (hb.mono HB3.out.size))
  clear hb HB3
  go_wp2_with fail
  obtain ⟨y, x0, x1, x2, x3, x4, x5, x6⟩ := InsC.new w4 (.int .i64 ko) (.int .i64 kd) (.int .i64 kn) (.int .i64 km) (.int .i64 ka) (.int .i64 kc) (.int .i64 ki)
  have HB5 : Hid (Below w.heap.size w (w4.alloc (.cells #[.int .i64 ko, .int .i64 kd, .int .i64 kn, .int .i64 km, .int .i64 ka, .int .i64 kc, .int .i64 ki] 23))) := Lib.hid (HB4.out.alloc HB4.out.size _)
  clear HB4
  obtain ⟨b2, hb2⟩ : ∃ b2, b2 = w4.heap.size := ⟨_, rfl⟩
  have HN2 : Hid (w4.heap.size = b2) := Lib.hid hb2.symm
  rw [← hb2] at y x0 x1 x2 x3 x4 x5 x6
  rw [← hb2]
  clear hb2
  generalize w4.alloc (.cells #[.int .i64 ko, .int .i64 kd, .int .i64 kn, .int .i64 km, .int .i64 ka, .int .i64 kc, .int .i64 ki] 23) = w5 at *
  have HQ : Hid (Below w5.heap.size w5 w5.drew) := Lib.hid (Below.refl _ _).drew
  go_region_held3 (fun w' => w'.cell? ⟨b2, 0, none⟩ = some (.int .i64 ko) ∧ w'.cell? ⟨b2, 1, none⟩ = some (.int .i64 kd) ∧ w'.cell? ⟨b2, 2, none⟩ = some (.int .i64 kn) ∧ w'.cell? ⟨b2, 3, none⟩ = some (.int .i64 km) ∧ w'.cell? ⟨b2, 4, none⟩ = some (.int .i64 ka) ∧ w'.cell? ⟨b2, 5, none⟩ = some (.int .i64 kc) ∧ w'.cell? ⟨b2, 6, none⟩ = some (.int .i64 ki) ∧ Hid (Below w5.heap.size w5 w')) (first | exact ⟨x0, x1, x2, x3, x4, x5, x6, HQ⟩ | exact keepC y (by assumption) (by assumption)) (first | (go_at_call 16; refine (K16.out _).mono ?_; rintro r w9 ⟨rfl, hb9⟩) | (go_at_call 20; refine (K20.out _).mono ?_; rintro r w9 ⟨rfl, hb9⟩))
  rename_i hH
  obtain ⟨z0, z1, z2, z3, z4, z5, z6, hk⟩ := hH
  have HB6 := Lib.hid (HB5.out.trans (hk.out.mono HB5.out.size))
  clear x0 x1 x2 x3 x4 x5 x6 HQ HB5
  go_wp2_with fail
  refine (K10.out _).mono ?_
  rintro e w7 ⟨rfl, hb⟩
  have HB7 := Lib.hid (HB6.out.trans (hb.mono HB6.out.size))
  obtain ⟨x0, x1, x2, x3, x4, x5, x6, _⟩ := keepC y ⟨z0, z1, z2, z3, z4, z5, z6, hk⟩ hb
  clear hb HB6 hk z0 z1 z2 z3 z4 z5 z6
  go_wp2
  go_ret
  exact ⟨rfl, HB7.out⟩
set_option maxRecDepth 100000 in
set_option maxHeartbeats 4000000 in
theorem back_pz (op d n m a c i kd kn km ka kc ki x y v : Int) (w : World) (hop : (op == 0) = false) (hop2 : (op != 0) = true) (h16 : (∀ w, Calls Try.prog 16 #[I7 op d n m a c i] w fun e w' => e = .returned (.int .i64 0) ∧ Below w.heap.size w w')) (h10 : (∀ w, Calls Try.prog 10 #[I7 op d n m a c i] w fun e w' => e = .returned (.tuple #[.int .u32 v, .int .i64 0]) ∧ Below w.heap.size w w')) (h18 : (∀ w, Calls Try.prog 18 #[.int .u32 v] w fun e w' => e = .returned (I7 op d n m a c i) ∧ Below w.heap.size w w')) (h20 : (∀ w, Calls Try.prog 20 #[.int .u32 v] w fun e w' => e = .returned (.bool true) ∧ Below w.heap.size w w')) (k18 : (∀ w, Calls Try.prog 18 #[.int .u32 x] w fun e w' => e = .returned (I7 0 kd kn km ka kc ki) ∧ Below w.heap.size w w')) (k16 : (∀ w, Calls Try.prog 16 #[I7 0 kd kn km ka kc ki] w fun e w' => e = .returned (.int .i64 0) ∧ Below w.heap.size w w')) (k20 : (∀ w, Calls Try.prog 20 #[.int .u32 x] w fun e w' => e = .returned (.bool false) ∧ Below w.heap.size w w')) (k10 : (∀ w, Calls Try.prog 10 #[I7 0 kd kn km ka kc ki] w fun e w' => e = .returned (.tuple #[.int .u32 y, .int .i64 0]) ∧ Below w.heap.size w w')) (hu : bits .and .u32 x 65535 = ki) (hu0 : 0 ≤ ki ∧ ki < 65536) :
    Calls Try.prog 8 #[I7 op d n m a c i, .int .u32 x] w fun e w' => e = .returned (.bool true) ∧ Below w.heap.size w w' := by
  have H16 := Lib.hid h16
  have H10 := Lib.hid h10
  have H18 := Lib.hid h18
  have H20 := Lib.hid h20
  have K18 := Lib.hid k18
  have K16 := Lib.hid k16
  have K20 := Lib.hid k20
  have K10 := Lib.hid k10
  clear h16 h10 h18 h20 k18 k16 k20 k10
  go_enter Try.func8, Try.ntmps8
  go_wp2_with fail
  have HI0 := Lib.hid (InsC.new w (.int .i64 op) (.int .i64 d) (.int .i64 n) (.int .i64 m) (.int .i64 a) (.int .i64 c) (.int .i64 i))
  refine (known17_c _).mono ?_
  rintro e w0 ⟨rfl, hb⟩
  have HI := Lib.hid (HI0.out.below' hb rfl)
  have HB0 : Hid (Below w.heap.size w w0) := Lib.hid (((Below.refl _ _).alloc (Nat.le_refl _) _).trans (hb.mono (by simp)))
  clear hb HI0
  obtain ⟨hl, i0, i1, i2', i3, i4, i5, i6⟩ := HI.out
  go_wp2_with fail
  refine (H16.out _).mono ?_
  rintro e w1 ⟨rfl, hb⟩
  have HI1 := Lib.hid (HI.out.below' hb rfl)
  have HB1 := Lib.hid (HB0.out.trans (hb.mono HB0.out.size))
  clear hb hl i0 i1 i2' i3 i4 i5 i6 HI HB0
  obtain ⟨hl, i0, i1, i2', i3, i4, i5, i6⟩ := HI1.out
  go_wp2_with fail
  refine (H10.out _).mono ?_
  rintro e w2 ⟨rfl, hb⟩
  have HI2 := Lib.hid (HI1.out.below' hb rfl)
  have HB2 := Lib.hid (HB1.out.trans (hb.mono HB1.out.size))
  clear hb hl i0 i1 i2' i3 i4 i5 i6 HI1 HB1
  obtain ⟨y, x0, x1, x2, x3, x4, x5, x6⟩ := HI2.out
  obtain ⟨b, hb⟩ : ∃ b, b = w.heap.size := ⟨_, rfl⟩
  have HN : Hid (w.heap.size = b) := Lib.hid hb.symm
  rw [← hb] at y x0 x1 x2 x3 x4 x5 x6
  go_wp2_with fail
  rw [← hb]
  clear hb HI2
  have HQ : Hid (Below w2.heap.size w2 w2.drew) := Lib.hid (Below.refl _ _).drew
  go_region_held3 (fun w' => w'.cell? ⟨b, 0, none⟩ = some (.int .i64 op) ∧ w'.cell? ⟨b, 1, none⟩ = some (.int .i64 d) ∧ w'.cell? ⟨b, 2, none⟩ = some (.int .i64 n) ∧ w'.cell? ⟨b, 3, none⟩ = some (.int .i64 m) ∧ w'.cell? ⟨b, 4, none⟩ = some (.int .i64 a) ∧ w'.cell? ⟨b, 5, none⟩ = some (.int .i64 c) ∧ w'.cell? ⟨b, 6, none⟩ = some (.int .i64 i) ∧ Hid (Below w2.heap.size w2 w')) (first | exact ⟨x0, x1, x2, x3, x4, x5, x6, HQ⟩ | exact keepC y (by assumption) (by assumption)) (first | (go_at_call 18; refine (H18.out _).mono ?_; rintro r w9 ⟨rfl, hb9⟩) | (go_at_call 20; refine (H20.out _).mono ?_; rintro r w9 ⟨rfl, hb9⟩))
  rename_i hH
  obtain ⟨_, _, _, _, _, _, _, hk⟩ := hH
  have HB3 := Lib.hid (HB2.out.trans (hk.out.mono HB2.out.size))
  clear hk x0 x1 x2 x3 x4 x5 x6 HQ HB2 y
  go_wp2_with fail
  refine (K18.out _).mono ?_
  rintro e w4 ⟨rfl, hb⟩
  have HB4 := Lib.hid (HB3.out.trans (hb.mono HB3.out.size))
  clear hb HB3
  go_wp2_with fail
  obtain ⟨y, x0, x1, x2, x3, x4, x5, x6⟩ := InsC.new w4 (.int .i64 0) (.int .i64 kd) (.int .i64 kn) (.int .i64 km) (.int .i64 ka) (.int .i64 kc) (.int .i64 ki)
  have HB5 : Hid (Below w.heap.size w (w4.alloc (.cells #[.int .i64 0, .int .i64 kd, .int .i64 kn, .int .i64 km, .int .i64 ka, .int .i64 kc, .int .i64 ki] 23))) := Lib.hid (HB4.out.alloc HB4.out.size _)
  clear HB4
  obtain ⟨b2, hb2⟩ : ∃ b2, b2 = w4.heap.size := ⟨_, rfl⟩
  have HN2 : Hid (w4.heap.size = b2) := Lib.hid hb2.symm
  rw [← hb2] at y x0 x1 x2 x3 x4 x5 x6
  rw [← hb2]
  clear hb2
  generalize w4.alloc (.cells #[.int .i64 0, .int .i64 kd, .int .i64 kn, .int .i64 km, .int .i64 ka, .int .i64 kc, .int .i64 ki] 23) = w5 at *
  have HQ : Hid (Below w5.heap.size w5 w5.drew) := Lib.hid (Below.refl _ _).drew
  go_region_held3 (fun w' => w'.cell? ⟨b2, 0, none⟩ = some (.int .i64 0) ∧ w'.cell? ⟨b2, 1, none⟩ = some (.int .i64 kd) ∧ w'.cell? ⟨b2, 2, none⟩ = some (.int .i64 kn) ∧ w'.cell? ⟨b2, 3, none⟩ = some (.int .i64 km) ∧ w'.cell? ⟨b2, 4, none⟩ = some (.int .i64 ka) ∧ w'.cell? ⟨b2, 5, none⟩ = some (.int .i64 kc) ∧ w'.cell? ⟨b2, 6, none⟩ = some (.int .i64 ki) ∧ Hid (Below w5.heap.size w5 w')) (first | exact ⟨x0, x1, x2, x3, x4, x5, x6, HQ⟩ | exact keepC y (by assumption) (by assumption)) (first | (go_at_call 16; refine (K16.out _).mono ?_; rintro r w9 ⟨rfl, hb9⟩) | (go_at_call 20; refine (K20.out _).mono ?_; rintro r w9 ⟨rfl, hb9⟩))
  rename_i hH
  obtain ⟨z0, z1, z2, z3, z4, z5, z6, hk⟩ := hH
  have HB6 := Lib.hid (HB5.out.trans (hk.out.mono HB5.out.size))
  clear x0 x1 x2 x3 x4 x5 x6 HQ HB5
  go_wp2_with fail
  refine (K10.out _).mono ?_
  rintro e w7 ⟨rfl, hb⟩
  have HB7 := Lib.hid (HB6.out.trans (hb.mono HB6.out.size))
  obtain ⟨x0, x1, x2, x3, x4, x5, x6, _⟩ := keepC y ⟨z0, z1, z2, z3, z4, z5, z6, hk⟩ hb
  clear hb HB6 hk z0 z1 z2 z3 z4 z5 z6
  go_wp2
  all_goals (go_ret; exact ⟨rfl, HB7.out⟩)
set_option maxRecDepth 100000 in
set_option maxHeartbeats 4000000 in
theorem back_pp (ko op d n m a c i kd kn km ka kc ki x y v : Int) (w : World) (hop : (op == 0) = false) (hop2 : (op != 0) = true) (hko : (ko == 0) = false) (hko2 : (ko != 0) = true) (h16 : (∀ w, Calls Try.prog 16 #[I7 op d n m a c i] w fun e w' => e = .returned (.int .i64 0) ∧ Below w.heap.size w w')) (h10 : (∀ w, Calls Try.prog 10 #[I7 op d n m a c i] w fun e w' => e = .returned (.tuple #[.int .u32 v, .int .i64 0]) ∧ Below w.heap.size w w')) (h18 : (∀ w, Calls Try.prog 18 #[.int .u32 v] w fun e w' => e = .returned (I7 op d n m a c i) ∧ Below w.heap.size w w')) (h20 : (∀ w, Calls Try.prog 20 #[.int .u32 v] w fun e w' => e = .returned (.bool true) ∧ Below w.heap.size w w')) (k18 : (∀ w, Calls Try.prog 18 #[.int .u32 x] w fun e w' => e = .returned (I7 ko kd kn km ka kc ki) ∧ Below w.heap.size w w')) (k16 : (∀ w, Calls Try.prog 16 #[I7 ko kd kn km ka kc ki] w fun e w' => e = .returned (.int .i64 0) ∧ Below w.heap.size w w')) (k20 : (∀ w, Calls Try.prog 20 #[.int .u32 x] w fun e w' => e = .returned (.bool true) ∧ Below w.heap.size w w')) (k10 : (∀ w, Calls Try.prog 10 #[I7 ko kd kn km ka kc ki] w fun e w' => e = .returned (.tuple #[.int .u32 y, .int .i64 0]) ∧ Below w.heap.size w w')) (hy : (y == x) = true) :
    Calls Try.prog 8 #[I7 op d n m a c i, .int .u32 x] w fun e w' => e = .returned (.bool true) ∧ Below w.heap.size w w' := by
  have H16 := Lib.hid h16
  have H10 := Lib.hid h10
  have H18 := Lib.hid h18
  have H20 := Lib.hid h20
  have K18 := Lib.hid k18
  have K16 := Lib.hid k16
  have K20 := Lib.hid k20
  have K10 := Lib.hid k10
  clear h16 h10 h18 h20 k18 k16 k20 k10
  go_enter Try.func8, Try.ntmps8
  go_wp2_with fail
  have HI0 := Lib.hid (InsC.new w (.int .i64 op) (.int .i64 d) (.int .i64 n) (.int .i64 m) (.int .i64 a) (.int .i64 c) (.int .i64 i))
  refine (known17_c _).mono ?_
  rintro e w0 ⟨rfl, hb⟩
  have HI := Lib.hid (HI0.out.below' hb rfl)
  have HB0 : Hid (Below w.heap.size w w0) := Lib.hid (((Below.refl _ _).alloc (Nat.le_refl _) _).trans (hb.mono (by simp)))
  clear hb HI0
  obtain ⟨hl, i0, i1, i2', i3, i4, i5, i6⟩ := HI.out
  go_wp2_with fail
  refine (H16.out _).mono ?_
  rintro e w1 ⟨rfl, hb⟩
  have HI1 := Lib.hid (HI.out.below' hb rfl)
  have HB1 := Lib.hid (HB0.out.trans (hb.mono HB0.out.size))
  clear hb hl i0 i1 i2' i3 i4 i5 i6 HI HB0
  obtain ⟨hl, i0, i1, i2', i3, i4, i5, i6⟩ := HI1.out
  go_wp2_with fail
  refine (H10.out _).mono ?_
  rintro e w2 ⟨rfl, hb⟩
  have HI2 := Lib.hid (HI1.out.below' hb rfl)
  have HB2 := Lib.hid (HB1.out.trans (hb.mono HB1.out.size))
  clear hb hl i0 i1 i2' i3 i4 i5 i6 HI1 HB1
  obtain ⟨y, x0, x1, x2, x3, x4, x5, x6⟩ := HI2.out
  obtain ⟨b, hb⟩ : ∃ b, b = w.heap.size := ⟨_, rfl⟩
  have HN : Hid (w.heap.size = b) := Lib.hid hb.symm
  rw [← hb] at y x0 x1 x2 x3 x4 x5 x6
  go_wp2_with fail
  rw [← hb]
  clear hb HI2
  have HQ : Hid (Below w2.heap.size w2 w2.drew) := Lib.hid (Below.refl _ _).drew
  go_region_held3 (fun w' => w'.cell? ⟨b, 0, none⟩ = some (.int .i64 op) ∧ w'.cell? ⟨b, 1, none⟩ = some (.int .i64 d) ∧ w'.cell? ⟨b, 2, none⟩ = some (.int .i64 n) ∧ w'.cell? ⟨b, 3, none⟩ = some (.int .i64 m) ∧ w'.cell? ⟨b, 4, none⟩ = some (.int .i64 a) ∧ w'.cell? ⟨b, 5, none⟩ = some (.int .i64 c) ∧ w'.cell? ⟨b, 6, none⟩ = some (.int .i64 i) ∧ Hid (Below w2.heap.size w2 w')) (first | exact ⟨x0, x1, x2, x3, x4, x5, x6, HQ⟩ | exact keepC y (by assumption) (by assumption)) (first | (go_at_call 18; refine (H18.out _).mono ?_; rintro r w9 ⟨rfl, hb9⟩) | (go_at_call 20; refine (H20.out _).mono ?_; rintro r w9 ⟨rfl, hb9⟩))
  rename_i hH
  obtain ⟨_, _, _, _, _, _, _, hk⟩ := hH
  have HB3 := Lib.hid (HB2.out.trans (hk.out.mono HB2.out.size))
  clear hk x0 x1 x2 x3 x4 x5 x6 HQ HB2 y
  go_wp2_with fail
  refine (K18.out _).mono ?_
  rintro e w4 ⟨rfl, hb⟩
  have HB4 := Lib.hid (HB3.out.trans (hb.mono HB3.out.size))
  clear hb HB3
  go_wp2_with fail
  obtain ⟨y, x0, x1, x2, x3, x4, x5, x6⟩ := InsC.new w4 (.int .i64 ko) (.int .i64 kd) (.int .i64 kn) (.int .i64 km) (.int .i64 ka) (.int .i64 kc) (.int .i64 ki)
  have HB5 : Hid (Below w.heap.size w (w4.alloc (.cells #[.int .i64 ko, .int .i64 kd, .int .i64 kn, .int .i64 km, .int .i64 ka, .int .i64 kc, .int .i64 ki] 23))) := Lib.hid (HB4.out.alloc HB4.out.size _)
  clear HB4
  obtain ⟨b2, hb2⟩ : ∃ b2, b2 = w4.heap.size := ⟨_, rfl⟩
  have HN2 : Hid (w4.heap.size = b2) := Lib.hid hb2.symm
  rw [← hb2] at y x0 x1 x2 x3 x4 x5 x6
  rw [← hb2]
  clear hb2
  generalize w4.alloc (.cells #[.int .i64 ko, .int .i64 kd, .int .i64 kn, .int .i64 km, .int .i64 ka, .int .i64 kc, .int .i64 ki] 23) = w5 at *
  have HQ : Hid (Below w5.heap.size w5 w5.drew) := Lib.hid (Below.refl _ _).drew
  go_region_held3 (fun w' => w'.cell? ⟨b2, 0, none⟩ = some (.int .i64 ko) ∧ w'.cell? ⟨b2, 1, none⟩ = some (.int .i64 kd) ∧ w'.cell? ⟨b2, 2, none⟩ = some (.int .i64 kn) ∧ w'.cell? ⟨b2, 3, none⟩ = some (.int .i64 km) ∧ w'.cell? ⟨b2, 4, none⟩ = some (.int .i64 ka) ∧ w'.cell? ⟨b2, 5, none⟩ = some (.int .i64 kc) ∧ w'.cell? ⟨b2, 6, none⟩ = some (.int .i64 ki) ∧ Hid (Below w5.heap.size w5 w')) (first | exact ⟨x0, x1, x2, x3, x4, x5, x6, HQ⟩ | exact keepC y (by assumption) (by assumption)) (first | (go_at_call 16; refine (K16.out _).mono ?_; rintro r w9 ⟨rfl, hb9⟩) | (go_at_call 20; refine (K20.out _).mono ?_; rintro r w9 ⟨rfl, hb9⟩))
  rename_i hH
  obtain ⟨z0, z1, z2, z3, z4, z5, z6, hk⟩ := hH
  have HB6 := Lib.hid (HB5.out.trans (hk.out.mono HB5.out.size))
  clear x0 x1 x2 x3 x4 x5 x6 HQ HB5
  go_wp2_with fail
  refine (K10.out _).mono ?_
  rintro e w7 ⟨rfl, hb⟩
  have HB7 := Lib.hid (HB6.out.trans (hb.mono HB6.out.size))
  obtain ⟨x0, x1, x2, x3, x4, x5, x6, _⟩ := keepC y ⟨z0, z1, z2, z3, z4, z5, z6, hk⟩ hb
  clear hb HB6 hk z0 z1 z2 z3 z4 z5 z6
  go_wp2
  go_ret
  exact ⟨rfl, HB7.out⟩
theorem decback_any (op d n m a c i x : Int) (hr : (Lit.int .u32 x).wf = true) (w : World) : Calls Try.prog 8 #[I7 op d n m a c i, .int .u32 x] w fun e w' => e = .returned (.bool true) ∧ Below w.heap.size w w' := by
  obtain ⟨hx, hx'⟩ : 0 ≤ x ∧ x < 4294967296 := by
    simp [Lit.wf, IntKind.min, IntKind.max, IntKind.signed, IntKind.bits] at hr
    omega
  obtain ⟨ko, kd, kn, km, ka, kc, ki, _, hP⟩ := dec_or x hx hx'
  obtain ⟨j2, hj2, hko, hok2, hw2, hu2⟩ := decP_back hP
  have k18 := fun w => dec_u hx hx' hP w
  have k20 := fun w => right_c hx hx' hP w
  have k16 := fun w => check_y ko kd kn km ka kc ki j2 hj2 hko hok2 w
  have k10 := fun w => encw_y ko kd kn km ka kc ki j2 hj2 hko hok2 w
  rcases right_or op d n m a c i with h16 | ⟨o, ho, hop, hok, _, _⟩
  · by_cases hz : ko = 0
    · obtain rfl := hz
      have hf : 0 ≤ fd x 0 16 ∧ fd x 0 16 < 65536 := fd_range x 0 16
      exact back_nz op d n m a c i kd kn km ka kc ki x _ w h16 k18 k16 k20 k10 ((and_low x hx hx').trans (hu2 rfl).symm) (by rw [hu2 rfl]; exact hf)
    · have e1 : (ko == 0) = false := beq_no hz
      have e2 : (ko != 0) = true := by simpa using hz
      rw [e1] at k20
      exact back_np ko op d n m a c i kd kn km ka kc ki x _ w e1 e2 h16 k18 k16 k20 k10 (beq_yes (hw2 hz))
  · have hv := wordN_range o ho d n m a c i
    have hPi := decP_of o ho d n m a c i hok
    rw [← hop] at hPi
    have h18 := fun w => dec_u hv.1 hv.2 hPi w
    have h20 := fun w => right_c hv.1 hv.2 hPi w
    have h16 := fun w => check_y op d n m a c i o ho hop hok w
    have h10 := fun w => encw_y op d n m a c i o ho hop hok w
    by_cases hz : ko = 0
    · obtain rfl := hz
      have hf : 0 ≤ fd x 0 16 ∧ fd x 0 16 < 65536 := fd_range x 0 16
      by_cases hy : op = 0
      · obtain rfl := hy
        exact back_zz d n m a c i kd kn km ka kc ki x _ _ w h16 h10 h18 h20 k18 k16 k20 k10 ((and_low x hx hx').trans (hu2 rfl).symm) (by rw [hu2 rfl]; exact hf)
      · have f1 : (op == 0) = false := beq_no hy
        have f2 : (op != 0) = true := by simpa using hy
        rw [f1] at h20
        exact back_pz op d n m a c i kd kn km ka kc ki x _ _ w f1 f2 h16 h10 h18 h20 k18 k16 k20 k10 ((and_low x hx hx').trans (hu2 rfl).symm) (by rw [hu2 rfl]; exact hf)
    · have e1 : (ko == 0) = false := beq_no hz
      have e2 : (ko != 0) = true := by simpa using hz
      rw [e1] at k20
      by_cases hy : op = 0
      · obtain rfl := hy
        exact back_zp ko d n m a c i kd kn km ka kc ki x _ _ w e1 e2 h16 h10 h18 h20 k18 k16 k20 k10 (beq_yes (hw2 hz))
      · have f1 : (op == 0) = false := beq_no hy
        have f2 : (op != 0) = true := by simpa using hy
        rw [f1] at h20
        exact back_pp ko op d n m a c i kd kn km ka kc ki x _ _ w f1 f2 e1 e2 h16 h10 h18 h20 k18 k16 k20 k10 (beq_yes (hw2 hz))
end Go.Proofs.Ythgpolddbadfmaa
