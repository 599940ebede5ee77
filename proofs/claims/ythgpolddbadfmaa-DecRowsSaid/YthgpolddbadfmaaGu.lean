import Derived.Test.YthgpolddbadfmaaDh
namespace Go.Proofs.Ythgpolddbadfmaa
open Go.ChangeShapes Go.WideShapes Go.ChangeAt Go.RowKit
set_option linter.unusedVariables false
set_option maxRecDepth 4000
theorem and_fd (x : Int) (lo n : Nat) (hx : 0 ≤ x) (hx' : x < 4294967296) (hn : n ≤ 31) : wrap64 (bits .and .u32 (x / 2 ^ lo) (2 ^ n - 1)) = fd x lo n := by
  have hr := fd_lt x lo n (by omega)
  have hp : (2 : Int) ^ n ≤ 4294967296 := pow_le32 n (by omega)
  have hp0 := pow_pos' n
  have hq0 : 0 ≤ x / 2 ^ lo := Int.ediv_nonneg hx (Int.le_of_lt (pow_pos' lo))
  have hq1 : x / 2 ^ lo ≤ x := Int.ediv_le_self _ hx
  have e : bits .and .u32 (x / 2 ^ lo) (2 ^ n - 1) = fd x lo n := by
    rw [u32_and _ _ hq0 (by omega) (by omega) (by omega)]
    unfold fd
    generalize x / 2 ^ lo = y at hq0
    obtain ⟨Y, rfl⟩ := Int.eq_ofNat_of_zero_le hq0
    have e1 : ((2 : Int) ^ n - 1).toNat = 2 ^ n - 1 := by
      have h0 : 0 < 2 ^ n := Nat.pow_pos (n := n) (show 0 < 2 by decide)
      have h1 : (2 : Int) ^ n = ((2 ^ n : Nat) : Int) := by simp
      rw [h1]; omega
    rw [e1, Int.toNat_natCast, Nat.and_two_pow_sub_one_eq_mod]
    simp
  rw [e]
  unfold wrap64
  omega
theorem wa_0_5 (x : Int) (hx : 0 ≤ x) (hx' : x < 4294967296) : wrap64 (bits .and .u32 x 31) = fd x 0 5 := by have := and_fd x 0 5 hx hx' (by decide); rw [show (2 : Int) ^ 0 = 1 from rfl, Int.ediv_one] at this; exact this
theorem wa_5_5 (x : Int) (hx : 0 ≤ x) (hx' : x < 4294967296) : wrap64 (bits .and .u32 (x / 32) 31) = fd x 5 5 := and_fd x 5 5 hx hx' (by decide)
theorem wa_16_5 (x : Int) (hx : 0 ≤ x) (hx' : x < 4294967296) : wrap64 (bits .and .u32 (x / 65536) 31) = fd x 16 5 := and_fd x 16 5 hx hx' (by decide)
theorem wa_10_12 (x : Int) (hx : 0 ≤ x) (hx' : x < 4294967296) : wrap64 (bits .and .u32 (x / 1024) 4095) = fd x 10 12 := and_fd x 10 12 hx hx' (by decide)
theorem wa_5_16 (x : Int) (hx : 0 ≤ x) (hx' : x < 4294967296) : wrap64 (bits .and .u32 (x / 32) 65535) = fd x 5 16 := and_fd x 5 16 hx hx' (by decide)
theorem wa_21_2 (x : Int) (hx : 0 ≤ x) (hx' : x < 4294967296) : wrap64 (bits .and .u32 (x / 2097152) 3) = fd x 21 2 := and_fd x 21 2 hx hx' (by decide)
theorem wa_10_5 (x : Int) (hx : 0 ≤ x) (hx' : x < 4294967296) : wrap64 (bits .and .u32 (x / 1024) 31) = fd x 10 5 := and_fd x 10 5 hx hx' (by decide)
theorem wa_12_4 (x : Int) (hx : 0 ≤ x) (hx' : x < 4294967296) : wrap64 (bits .and .u32 (x / 4096) 15) = fd x 12 4 := and_fd x 12 4 hx hx' (by decide)
theorem wa_0_4 (x : Int) (hx : 0 ≤ x) (hx' : x < 4294967296) : wrap64 (bits .and .u32 x 15) = fd x 0 4 := by have := and_fd x 0 4 hx hx' (by decide); rw [show (2 : Int) ^ 0 = 1 from rfl, Int.ediv_one] at this; exact this
theorem wa_0_16 (x : Int) (hx : 0 ≤ x) (hx' : x < 4294967296) : wrap64 (bits .and .u32 x 65535) = fd x 0 16 := by have := and_fd x 0 16 hx hx' (by decide); rw [show (2 : Int) ^ 0 = 1 from rfl, Int.ediv_one] at this; exact this
theorem wa8 (x : Int) (hx : 0 ≤ x) (hx' : x < 4294967296) : wrap64 (8 * wrap64 (bits .and .u32 (x / 1024) 4095)) = fd x 10 12 * 8 := by
  rw [wa_10_12 x hx hx']
  have : 0 ≤ fd x 10 12 ∧ fd x 10 12 < 4096 := fd_range x 10 12
  unfold wrap64
  omega
theorem sext_fd26 (x : Int) : sextG x 26 = sextS (fd x 0 26) 26 := by
  unfold sextG fd sextS
  rw [if_pos (by decide)]
  simp
theorem sext_fd19 (x : Int) : sextG (x / 32) 19 = sextS (fd x 5 19) 19 := by
  unfold sextG fd sextS
  rw [if_pos (by decide)]
  simp
theorem ret7b {fn : Func} (h : fn.results = #[.cell 4 23]) (w : World) (tmps cs cs2 : Array Value) (hp : tmps.getD 4 undef = .pointer (some ⟨w.heap.size, 0, none⟩)) (hs : cs.size = 7) {v : Value} (hv : v = .agg cs) :
    bodyPost Try.prog fn (fun e w' => e = .returned v ∧ Below w.heap.size w w') Exit.ret ⟨tmps, []⟩ ((w.alloc (.cells cs 23)).alloc (.cells cs2 23)) :=
  bodyPost_ret (results_cell_row h _ _ w.heap.size 23 cs (0, 0) _ hp ((heap_alloc_old _ _ (by simp)).trans (heap_alloc_new _ _)) Try.underlying23 rfl (by rw [hs]; exact info23)) rfl ⟨by rw [hv], ((Below.refl _ _).alloc (Nat.le_refl _) _).alloc (by simp) _⟩
theorem guess_0 (x : Int) (w : World) (hx : 0 ≤ x) (hx' : x < 4294967296) :
    Calls Try.prog 45 #[.int .i64 0, .int .u32 x] w fun e w' => e = .returned (I7 0 0 0 0 0 0 (fd x 0 16)) ∧ Below w.heap.size w w' := by
  go_enter Try.func45, Try.ntmps45
  go_wp2
  exact ret7b rfl w _ _ _ rfl rfl (by simp only [wa_0_16 x hx hx'])
theorem guess_1 (x : Int) (w : World) (hx : 0 ≤ x) (hx' : x < 4294967296) :
    Calls Try.prog 45 #[.int .i64 1, .int .u32 x] w fun e w' => e = .returned (I7 1 0 0 0 0 0 0) ∧ Below w.heap.size w w' := by
  go_enter Try.func45, Try.ntmps45
  go_wp2
  exact ret7b rfl w _ _ _ rfl rfl (rfl)
theorem guess_2 (x : Int) (w : World) (hx : 0 ≤ x) (hx' : x < 4294967296) :
    Calls Try.prog 45 #[.int .i64 2, .int .u32 x] w fun e w' => e = .returned (I7 2 (fd x 0 5) 0 (fd x 21 2) 0 0 (fd x 5 16)) ∧ Below w.heap.size w w' := by
  go_enter Try.func45, Try.ntmps45
  go_wp2
  exact ret7b rfl w _ _ _ rfl rfl (by simp only [wa_0_5 x hx hx', wa_21_2 x hx hx', wa_5_16 x hx hx'])
theorem guess_3 (x : Int) (w : World) (hx : 0 ≤ x) (hx' : x < 4294967296) :
    Calls Try.prog 45 #[.int .i64 3, .int .u32 x] w fun e w' => e = .returned (I7 3 (fd x 0 5) 0 (fd x 21 2) 0 0 (fd x 5 16)) ∧ Below w.heap.size w w' := by
  go_enter Try.func45, Try.ntmps45
  go_wp2
  exact ret7b rfl w _ _ _ rfl rfl (by simp only [wa_0_5 x hx hx', wa_21_2 x hx hx', wa_5_16 x hx hx'])
theorem guess_4 (x : Int) (w : World) (hx : 0 ≤ x) (hx' : x < 4294967296) :
    Calls Try.prog 45 #[.int .i64 4, .int .u32 x] w fun e w' => e = .returned (I7 4 (fd x 0 5) (fd x 5 5) 0 0 0 (fd x 10 12)) ∧ Below w.heap.size w w' := by
  go_enter Try.func45, Try.ntmps45
  go_wp2
  exact ret7b rfl w _ _ _ rfl rfl (by simp only [wa_0_5 x hx hx', wa_5_5 x hx hx', wa_10_12 x hx hx'])
theorem guess_5 (x : Int) (w : World) (hx : 0 ≤ x) (hx' : x < 4294967296) :
    Calls Try.prog 45 #[.int .i64 5, .int .u32 x] w fun e w' => e = .returned (I7 5 (fd x 0 5) (fd x 5 5) 0 0 0 (fd x 10 12)) ∧ Below w.heap.size w w' := by
  go_enter Try.func45, Try.ntmps45
  go_wp2
  exact ret7b rfl w _ _ _ rfl rfl (by simp only [wa_0_5 x hx hx', wa_5_5 x hx hx', wa_10_12 x hx hx'])
theorem guess_6 (x : Int) (w : World) (hx : 0 ≤ x) (hx' : x < 4294967296) :
    Calls Try.prog 45 #[.int .i64 6, .int .u32 x] w fun e w' => e = .returned (I7 6 (fd x 0 5) (fd x 5 5) 0 0 0 (fd x 10 12)) ∧ Below w.heap.size w w' := by
  go_enter Try.func45, Try.ntmps45
  go_wp2
  exact ret7b rfl w _ _ _ rfl rfl (by simp only [wa_0_5 x hx hx', wa_5_5 x hx hx', wa_10_12 x hx hx'])
theorem guess_7 (x : Int) (w : World) (hx : 0 ≤ x) (hx' : x < 4294967296) :
    Calls Try.prog 45 #[.int .i64 7, .int .u32 x] w fun e w' => e = .returned (I7 7 (fd x 0 5) (fd x 5 5) (fd x 16 5) 0 0 0) ∧ Below w.heap.size w w' := by
  go_enter Try.func45, Try.ntmps45
  go_wp2
  exact ret7b rfl w _ _ _ rfl rfl (by simp only [wa_0_5 x hx hx', wa_5_5 x hx hx', wa_16_5 x hx hx'])
theorem guess_8 (x : Int) (w : World) (hx : 0 ≤ x) (hx' : x < 4294967296) :
    Calls Try.prog 45 #[.int .i64 8, .int .u32 x] w fun e w' => e = .returned (I7 8 (fd x 0 5) (fd x 5 5) (fd x 16 5) 0 0 0) ∧ Below w.heap.size w w' := by
  go_enter Try.func45, Try.ntmps45
  go_wp2
  exact ret7b rfl w _ _ _ rfl rfl (by simp only [wa_0_5 x hx hx', wa_5_5 x hx hx', wa_16_5 x hx hx'])
theorem guess_9 (x : Int) (w : World) (hx : 0 ≤ x) (hx' : x < 4294967296) :
    Calls Try.prog 45 #[.int .i64 9, .int .u32 x] w fun e w' => e = .returned (I7 9 (fd x 0 5) (fd x 5 5) (fd x 16 5) 0 0 0) ∧ Below w.heap.size w w' := by
  go_enter Try.func45, Try.ntmps45
  go_wp2
  exact ret7b rfl w _ _ _ rfl rfl (by simp only [wa_0_5 x hx hx', wa_5_5 x hx hx', wa_16_5 x hx hx'])
theorem guess_10 (x : Int) (w : World) (hx : 0 ≤ x) (hx' : x < 4294967296) :
    Calls Try.prog 45 #[.int .i64 10, .int .u32 x] w fun e w' => e = .returned (I7 10 (fd x 0 5) (fd x 5 5) (fd x 16 5) 0 0 0) ∧ Below w.heap.size w w' := by
  go_enter Try.func45, Try.ntmps45
  go_wp2
  exact ret7b rfl w _ _ _ rfl rfl (by simp only [wa_0_5 x hx hx', wa_5_5 x hx hx', wa_16_5 x hx hx'])
theorem guess_11 (x : Int) (w : World) (hx : 0 ≤ x) (hx' : x < 4294967296) :
    Calls Try.prog 45 #[.int .i64 11, .int .u32 x] w fun e w' => e = .returned (I7 11 (fd x 0 5) (fd x 5 5) (fd x 16 5) 0 0 0) ∧ Below w.heap.size w w' := by
  go_enter Try.func45, Try.ntmps45
  go_wp2
  exact ret7b rfl w _ _ _ rfl rfl (by simp only [wa_0_5 x hx hx', wa_5_5 x hx hx', wa_16_5 x hx hx'])
theorem guess_12 (x : Int) (w : World) (hx : 0 ≤ x) (hx' : x < 4294967296) :
    Calls Try.prog 45 #[.int .i64 12, .int .u32 x] w fun e w' => e = .returned (I7 12 (fd x 0 5) (fd x 5 5) (fd x 16 5) 0 0 0) ∧ Below w.heap.size w w' := by
  go_enter Try.func45, Try.ntmps45
  go_wp2
  exact ret7b rfl w _ _ _ rfl rfl (by simp only [wa_0_5 x hx hx', wa_5_5 x hx hx', wa_16_5 x hx hx'])
theorem guess_13 (x : Int) (w : World) (hx : 0 ≤ x) (hx' : x < 4294967296) :
    Calls Try.prog 45 #[.int .i64 13, .int .u32 x] w fun e w' => e = .returned (I7 13 (fd x 0 5) (fd x 5 5) (fd x 16 5) (fd x 10 5) 0 0) ∧ Below w.heap.size w w' := by
  go_enter Try.func45, Try.ntmps45
  go_wp2
  exact ret7b rfl w _ _ _ rfl rfl (by simp only [wa_0_5 x hx hx', wa_5_5 x hx hx', wa_16_5 x hx hx', wa_10_5 x hx hx'])
theorem guess_14 (x : Int) (w : World) (hx : 0 ≤ x) (hx' : x < 4294967296) :
    Calls Try.prog 45 #[.int .i64 14, .int .u32 x] w fun e w' => e = .returned (I7 14 (fd x 0 5) (fd x 5 5) (fd x 16 5) (fd x 10 5) 0 0) ∧ Below w.heap.size w w' := by
  go_enter Try.func45, Try.ntmps45
  go_wp2
  exact ret7b rfl w _ _ _ rfl rfl (by simp only [wa_0_5 x hx hx', wa_5_5 x hx hx', wa_16_5 x hx hx', wa_10_5 x hx hx'])
theorem guess_15 (x : Int) (w : World) (hx : 0 ≤ x) (hx' : x < 4294967296) :
    Calls Try.prog 45 #[.int .i64 15, .int .u32 x] w fun e w' => e = .returned (I7 15 (fd x 0 5) (fd x 5 5) (fd x 16 5) 0 0 0) ∧ Below w.heap.size w w' := by
  go_enter Try.func45, Try.ntmps45
  go_wp2
  exact ret7b rfl w _ _ _ rfl rfl (by simp only [wa_0_5 x hx hx', wa_5_5 x hx hx', wa_16_5 x hx hx'])
theorem guess_16 (x : Int) (w : World) (hx : 0 ≤ x) (hx' : x < 4294967296) :
    Calls Try.prog 45 #[.int .i64 16, .int .u32 x] w fun e w' => e = .returned (I7 16 (fd x 0 5) (fd x 5 5) (fd x 16 5) 0 0 0) ∧ Below w.heap.size w w' := by
  go_enter Try.func45, Try.ntmps45
  go_wp2
  exact ret7b rfl w _ _ _ rfl rfl (by simp only [wa_0_5 x hx hx', wa_5_5 x hx hx', wa_16_5 x hx hx'])
theorem guess_17 (x : Int) (w : World) (hx : 0 ≤ x) (hx' : x < 4294967296) :
    Calls Try.prog 45 #[.int .i64 17, .int .u32 x] w fun e w' => e = .returned (I7 17 (fd x 0 5) (fd x 5 5) (fd x 16 5) 0 0 0) ∧ Below w.heap.size w w' := by
  go_enter Try.func45, Try.ntmps45
  go_wp2
  exact ret7b rfl w _ _ _ rfl rfl (by simp only [wa_0_5 x hx hx', wa_5_5 x hx hx', wa_16_5 x hx hx'])
theorem guess_18 (x : Int) (w : World) (hx : 0 ≤ x) (hx' : x < 4294967296) :
    Calls Try.prog 45 #[.int .i64 18, .int .u32 x] w fun e w' => e = .returned (I7 18 (fd x 0 5) (fd x 5 5) (fd x 16 5) 0 0 0) ∧ Below w.heap.size w w' := by
  go_enter Try.func45, Try.ntmps45
  go_wp2
  exact ret7b rfl w _ _ _ rfl rfl (by simp only [wa_0_5 x hx hx', wa_5_5 x hx hx', wa_16_5 x hx hx'])
theorem guess_19 (x : Int) (w : World) (hx : 0 ≤ x) (hx' : x < 4294967296) :
    Calls Try.prog 45 #[.int .i64 19, .int .u32 x] w fun e w' => e = .returned (I7 19 (fd x 0 5) (fd x 5 5) (fd x 16 5) 0 (fd x 12 4) 0) ∧ Below w.heap.size w w' := by
  go_enter Try.func45, Try.ntmps45
  go_wp2
  exact ret7b rfl w _ _ _ rfl rfl (by simp only [wa_0_5 x hx hx', wa_5_5 x hx hx', wa_16_5 x hx hx', wa_12_4 x hx hx'])
theorem guess_20 (x : Int) (w : World) (hx : 0 ≤ x) (hx' : x < 4294967296) :
    Calls Try.prog 45 #[.int .i64 20, .int .u32 x] w fun e w' => e = .returned (I7 20 0 0 0 0 0 (off x 0 26)) ∧ Below w.heap.size w w' := by
  have hr := off_range x 0 26 (by decide) (by decide)
  have hs := fun w => rsext_c x 26 w (by omega) (by omega)
  rw [sext_fd26] at hs
  have HO := Lib.hid (show 4 * sextS (fd x 0 26) 26 = off x 0 26 by unfold off; omega)
  generalize off x 0 26 = o at HO ⊢
  generalize sextS (fd x 0 26) 26 = z at hr hs HO
  go_enter Try.func45, Try.ntmps45
  go_wp2_with (go_at_call 58; refine (hs _).mono ?_; rintro e w' ⟨rfl, rfl⟩)
  exact ret7b rfl w _ _ _ rfl rfl (by simp only [← HO.out])
theorem guess_21 (x : Int) (w : World) (hx : 0 ≤ x) (hx' : x < 4294967296) :
    Calls Try.prog 45 #[.int .i64 21, .int .u32 x] w fun e w' => e = .returned (I7 21 0 0 0 0 (fd x 0 4) (off x 5 19)) ∧ Below w.heap.size w w' := by
  have hr := off_range x 5 19 (by decide) (by decide)
  have hs := fun w => rsext_c (x / 32) 19 w (by omega) (by omega)
  rw [sext_fd19] at hs
  have HO := Lib.hid (show 4 * sextS (fd x 5 19) 19 = off x 5 19 by unfold off; omega)
  generalize off x 5 19 = o at HO ⊢
  generalize sextS (fd x 5 19) 19 = z at hr hs HO
  go_enter Try.func45, Try.ntmps45
  go_wp2_with (go_at_call 58; refine (hs _).mono ?_; rintro e w' ⟨rfl, rfl⟩)
  exact ret7b rfl w _ _ _ rfl rfl (by simp only [← HO.out, wa_0_4 x hx hx'])
end Go.Proofs.Ythgpolddbadfmaa
