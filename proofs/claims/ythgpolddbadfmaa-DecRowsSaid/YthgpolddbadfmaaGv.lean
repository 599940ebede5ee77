import Derived.Test.YthgpolddbadfmaaGu
namespace Go.Proofs.Ythgpolddbadfmaa
open Go.ChangeShapes Go.WideShapes Go.ChangeAt Go.RowKit
set_option linter.unusedVariables false
set_option maxRecDepth 4000
theorem guess_22 (x : Int) (w : World) (hx : 0 ≤ x) (hx' : x < 4294967296) :
    Calls Try.prog 45 #[.int .i64 22, .int .u32 x] w fun e w' => e = .returned (I7 22 (fd x 0 5) 0 0 0 0 (off x 5 19)) ∧ Below w.heap.size w w' := by
  have hr := off_range x 5 19 (by decide) (by decide)
  have hs := fun w => rsext_c (x / 32) 19 w (by omega) (by omega)
  rw [sext_fd19] at hs
  have HO := Lib.hid (show 4 * sextS (fd x 5 19) 19 = off x 5 19 by unfold off; omega)
  generalize off x 5 19 = o at HO ⊢
  generalize sextS (fd x 5 19) 19 = z at hr hs HO
  go_enter Try.func45, Try.ntmps45
  go_wp2_with (go_at_call 58; refine (hs _).mono ?_; rintro e w' ⟨rfl, rfl⟩)
  exact ret7b rfl w _ _ _ rfl rfl (by simp only [← HO.out, wa_0_5 x hx hx'])
theorem guess_23 (x : Int) (w : World) (hx : 0 ≤ x) (hx' : x < 4294967296) :
    Calls Try.prog 45 #[.int .i64 23, .int .u32 x] w fun e w' => e = .returned (I7 23 (fd x 0 5) 0 0 0 0 (off x 5 19)) ∧ Below w.heap.size w w' := by
  have hr := off_range x 5 19 (by decide) (by decide)
  have hs := fun w => rsext_c (x / 32) 19 w (by omega) (by omega)
  rw [sext_fd19] at hs
  have HO := Lib.hid (show 4 * sextS (fd x 5 19) 19 = off x 5 19 by unfold off; omega)
  generalize off x 5 19 = o at HO ⊢
  generalize sextS (fd x 5 19) 19 = z at hr hs HO
  go_enter Try.func45, Try.ntmps45
  go_wp2_with (go_at_call 58; refine (hs _).mono ?_; rintro e w' ⟨rfl, rfl⟩)
  exact ret7b rfl w _ _ _ rfl rfl (by simp only [← HO.out, wa_0_5 x hx hx'])
theorem guess_24 (x : Int) (w : World) (hx : 0 ≤ x) (hx' : x < 4294967296) :
    Calls Try.prog 45 #[.int .i64 24, .int .u32 x] w fun e w' => e = .returned (I7 24 0 0 0 0 0 (off x 0 26)) ∧ Below w.heap.size w w' := by
  have hr := off_range x 0 26 (by decide) (by decide)
  have hs := fun w => rsext_c x 26 w (by omega) (by omega)
  rw [sext_fd26] at hs
  have HO := Lib.hid (show 4 * sextS (fd x 0 26) 26 = off x 0 26 by unfold off; omega)
  generalize off x 0 26 = o at HO ⊢
  generalize sextS (fd x 0 26) 26 = z at hr hs HO
  go_enter Try.func45, Try.ntmps45
  go_wp2_with (go_at_call 58; refine (hs _).mono ?_; rintro e w' ⟨rfl, rfl⟩)
  exact ret7b rfl w _ _ _ rfl rfl (by simp only [← HO.out])
theorem guess_25 (x : Int) (w : World) (hx : 0 ≤ x) (hx' : x < 4294967296) :
    Calls Try.prog 45 #[.int .i64 25, .int .u32 x] w fun e w' => e = .returned (I7 25 0 (fd x 5 5) 0 0 0 0) ∧ Below w.heap.size w w' := by
  go_enter Try.func45, Try.ntmps45
  go_wp2
  exact ret7b rfl w _ _ _ rfl rfl (by simp only [wa_5_5 x hx hx'])
theorem guess_26 (x : Int) (w : World) (hx : 0 ≤ x) (hx' : x < 4294967296) :
    Calls Try.prog 45 #[.int .i64 26, .int .u32 x] w fun e w' => e = .returned (I7 26 0 (fd x 5 5) 0 0 0 0) ∧ Below w.heap.size w w' := by
  go_enter Try.func45, Try.ntmps45
  go_wp2
  exact ret7b rfl w _ _ _ rfl rfl (by simp only [wa_5_5 x hx hx'])
theorem guess_27 (x : Int) (w : World) (hx : 0 ≤ x) (hx' : x < 4294967296) :
    Calls Try.prog 45 #[.int .i64 27, .int .u32 x] w fun e w' => e = .returned (I7 27 0 (fd x 5 5) 0 0 0 0) ∧ Below w.heap.size w w' := by
  go_enter Try.func45, Try.ntmps45
  go_wp2
  exact ret7b rfl w _ _ _ rfl rfl (by simp only [wa_5_5 x hx hx'])
theorem guess_28 (x : Int) (w : World) (hx : 0 ≤ x) (hx' : x < 4294967296) :
    Calls Try.prog 45 #[.int .i64 28, .int .u32 x] w fun e w' => e = .returned (I7 28 (fd x 0 5) (fd x 5 5) 0 0 0 (fd x 10 12 * 8)) ∧ Below w.heap.size w w' := by
  go_enter Try.func45, Try.ntmps45
  go_wp2
  exact ret7b rfl w _ _ _ rfl rfl (by simp only [wa_0_5 x hx hx', wa_5_5 x hx hx', wa8 x hx hx'])
theorem guess_29 (x : Int) (w : World) (hx : 0 ≤ x) (hx' : x < 4294967296) :
    Calls Try.prog 45 #[.int .i64 29, .int .u32 x] w fun e w' => e = .returned (I7 29 (fd x 0 5) (fd x 5 5) 0 0 0 (fd x 10 12 * 8)) ∧ Below w.heap.size w w' := by
  go_enter Try.func45, Try.ntmps45
  go_wp2
  exact ret7b rfl w _ _ _ rfl rfl (by simp only [wa_0_5 x hx hx', wa_5_5 x hx hx', wa8 x hx hx'])
theorem guess_30 (x : Int) (w : World) (hx : 0 ≤ x) (hx' : x < 4294967296) :
    Calls Try.prog 45 #[.int .i64 30, .int .u32 x] w fun e w' => e = .returned (I7 30 (fd x 0 5) (fd x 5 5) 0 0 0 (fd x 10 12)) ∧ Below w.heap.size w w' := by
  go_enter Try.func45, Try.ntmps45
  go_wp2
  exact ret7b rfl w _ _ _ rfl rfl (by simp only [wa_0_5 x hx hx', wa_5_5 x hx hx', wa_10_12 x hx hx'])
theorem guess_31 (x : Int) (w : World) (hx : 0 ≤ x) (hx' : x < 4294967296) :
    Calls Try.prog 45 #[.int .i64 31, .int .u32 x] w fun e w' => e = .returned (I7 31 (fd x 0 5) (fd x 5 5) (fd x 16 5) 0 0 0) ∧ Below w.heap.size w w' := by
  go_enter Try.func45, Try.ntmps45
  go_wp2
  exact ret7b rfl w _ _ _ rfl rfl (by simp only [wa_0_5 x hx hx', wa_5_5 x hx hx', wa_16_5 x hx hx'])
theorem guess_32 (x : Int) (w : World) (hx : 0 ≤ x) (hx' : x < 4294967296) :
    Calls Try.prog 45 #[.int .i64 32, .int .u32 x] w fun e w' => e = .returned (I7 32 (fd x 0 5) (fd x 5 5) (fd x 16 5) 0 0 0) ∧ Below w.heap.size w w' := by
  go_enter Try.func45, Try.ntmps45
  go_wp2
  exact ret7b rfl w _ _ _ rfl rfl (by simp only [wa_0_5 x hx hx', wa_5_5 x hx hx', wa_16_5 x hx hx'])
theorem guess_33 (x : Int) (w : World) (hx : 0 ≤ x) (hx' : x < 4294967296) :
    Calls Try.prog 45 #[.int .i64 33, .int .u32 x] w fun e w' => e = .returned (I7 33 (fd x 0 5) (fd x 5 5) 0 0 0 0) ∧ Below w.heap.size w w' := by
  go_enter Try.func45, Try.ntmps45
  go_wp2
  exact ret7b rfl w _ _ _ rfl rfl (by simp only [wa_0_5 x hx hx', wa_5_5 x hx hx'])
theorem guess_34 (x : Int) (w : World) (hx : 0 ≤ x) (hx' : x < 4294967296) :
    Calls Try.prog 45 #[.int .i64 34, .int .u32 x] w fun e w' => e = .returned (I7 34 (fd x 0 5) (fd x 5 5) 0 0 0 0) ∧ Below w.heap.size w w' := by
  go_enter Try.func45, Try.ntmps45
  go_wp2
  exact ret7b rfl w _ _ _ rfl rfl (by simp only [wa_0_5 x hx hx', wa_5_5 x hx hx'])
theorem guess_35 (x : Int) (w : World) (hx : 0 ≤ x) (hx' : x < 4294967296) :
    Calls Try.prog 45 #[.int .i64 35, .int .u32 x] w fun e w' => e = .returned (I7 35 (fd x 0 5) (fd x 5 5) 0 0 0 0) ∧ Below w.heap.size w w' := by
  go_enter Try.func45, Try.ntmps45
  go_wp2
  exact ret7b rfl w _ _ _ rfl rfl (by simp only [wa_0_5 x hx hx', wa_5_5 x hx hx'])
theorem guess_36 (x : Int) (w : World) (hx : 0 ≤ x) (hx' : x < 4294967296) :
    Calls Try.prog 45 #[.int .i64 36, .int .u32 x] w fun e w' => e = .returned (I7 36 (fd x 16 5) (fd x 5 5) (fd x 0 5) 0 0 0) ∧ Below w.heap.size w w' := by
  go_enter Try.func45, Try.ntmps45
  go_wp2
  exact ret7b rfl w _ _ _ rfl rfl (by simp only [wa_16_5 x hx hx', wa_5_5 x hx hx', wa_0_5 x hx hx'])
theorem guess_37 (x : Int) (w : World) (hx : 0 ≤ x) (hx' : x < 4294967296) :
    Calls Try.prog 45 #[.int .i64 37, .int .u32 x] w fun e w' => e = .returned (I7 37 0 0 0 0 0 0) ∧ Below w.heap.size w w' := by
  go_enter Try.func45, Try.ntmps45
  go_wp2
  exact ret7b rfl w _ _ _ rfl rfl (rfl)
theorem guess_38 (x : Int) (w : World) (hx : 0 ≤ x) (hx' : x < 4294967296) :
    Calls Try.prog 45 #[.int .i64 38, .int .u32 x] w fun e w' => e = .returned (I7 38 0 0 0 0 0 0) ∧ Below w.heap.size w w' := by
  go_enter Try.func45, Try.ntmps45
  go_wp2
  exact ret7b rfl w _ _ _ rfl rfl (rfl)
theorem guess_39 (x : Int) (w : World) (hx : 0 ≤ x) (hx' : x < 4294967296) :
    Calls Try.prog 45 #[.int .i64 39, .int .u32 x] w fun e w' => e = .returned (I7 39 0 0 0 0 0 0) ∧ Below w.heap.size w w' := by
  go_enter Try.func45, Try.ntmps45
  go_wp2
  exact ret7b rfl w _ _ _ rfl rfl (rfl)
theorem guess_40 (x : Int) (w : World) (hx : 0 ≤ x) (hx' : x < 4294967296) :
    Calls Try.prog 45 #[.int .i64 40, .int .u32 x] w fun e w' => e = .returned (I7 40 0 (fd x 0 5) 0 0 0 0) ∧ Below w.heap.size w w' := by
  go_enter Try.func45, Try.ntmps45
  go_wp2
  exact ret7b rfl w _ _ _ rfl rfl (by simp only [wa_0_5 x hx hx'])
theorem guess_41 (x : Int) (w : World) (hx : 0 ≤ x) (hx' : x < 4294967296) :
    Calls Try.prog 45 #[.int .i64 41, .int .u32 x] w fun e w' => e = .returned (I7 41 0 (fd x 0 5) 0 0 0 0) ∧ Below w.heap.size w w' := by
  go_enter Try.func45, Try.ntmps45
  go_wp2
  exact ret7b rfl w _ _ _ rfl rfl (by simp only [wa_0_5 x hx hx'])
theorem guess_42 (x : Int) (w : World) (hx : 0 ≤ x) (hx' : x < 4294967296) :
    Calls Try.prog 45 #[.int .i64 42, .int .u32 x] w fun e w' => e = .returned (I7 42 0 0 0 0 0 (fd x 5 16)) ∧ Below w.heap.size w w' := by
  go_enter Try.func45, Try.ntmps45
  go_wp2
  exact ret7b rfl w _ _ _ rfl rfl (by simp only [wa_5_16 x hx hx'])
end Go.Proofs.Ythgpolddbadfmaa
