import Derived.Test.YtnbpgoacooddjaaEDg
namespace Go.Proofs.Ytnbpgoacooddjaa.Fr
end Go.Proofs.Ytnbpgoacooddjaa.Fr
namespace Go.Proofs.Ytnbpgoacooddjaa.En
open Go.Proofs.Ytnbpgoacooddjaa.Fr
open Go.ChangeShapes Go.WideShapes Go.ChangeAt Go.RowKit
set_option linter.unusedVariables false
theorem dins_2 (x v1 v2 : Int) (w : World) (hx : 0 ≤ x) (hx' : x < 4294967296) (h1 : bits .and .u32 x 4278190096 = v1) (e1 : (v1 == 1409286144) = false) (h2 : bits .and .u32 x 4261412864 = v2) (e2 : (v2 == 3019898880) = true) :
    Calls Try.prog 24 #[.int .u32 x] w fun e w' => e = .returned (I7 (22 + fd x 24 1) (fd x 0 5) 0 0 0 0 (off x 5 19)) ∧ Below w.heap.size w w' := by
  have h_p24 := fun w => part_c x 24 1 24 1 rfl rfl (by omega) (by omega) (by omega) w hx hx'
  have h_d := fun w => d_c x w hx hx'
  have h_o := fun w => near_c x w hx hx'
  have hr : 0 ≤ fd x 24 1 ∧ fd x 24 1 < 2 := fd_range x 24 1
  generalize fd x 24 1 = z_p24 at h_p24 hr ⊢
  generalize fd x 0 5 = z_d at h_d ⊢
  generalize off x 5 19 = z_o at h_o ⊢
  go_enter Try.func24, Try.ntmps24
  go_wp2_with (first | (go_at_call 95; refine (h_p24 _).mono ?_; rintro e w' ⟨rfl, m, rfl⟩) | (go_at_call 96; refine (h_d _).mono ?_; rintro e w' ⟨rfl, m, rfl⟩) | (go_at_call 94; refine (h_o _).mono ?_; rintro e w' ⟨rfl, m, rfl⟩))
  exact ret7 rfl w _ _ _ _ _ _ _ _ _ rfl (fr_n w _) (fb_n w _) rfl
theorem dins_5 (x v1 v2 v3 v4 v5 : Int) (w : World) (hx : 0 ≤ x) (hx' : x < 4294967296) (h1 : bits .and .u32 x 4278190096 = v1) (e1 : (v1 == 1409286144) = false) (h2 : bits .and .u32 x 4261412864 = v2) (e2 : (v2 == 3019898880) = false) (h3 : bits .and .u32 x 2080374784 = v3) (e3 : (v3 == 335544320) = false) (h4 : bits .and .u32 x 3749707776 = v4) (e4 : (v4 == 3531603968) = false) (h5 : bits .and .u32 x 4292873216 = v5) (e5 : (v5 == 2592080896) = true) :
    Calls Try.prog 24 #[.int .u32 x] w fun e w' => e = .returned (I7 19 (fd x 0 5) (fd x 5 5) (fd x 16 5) 0 (fd x 12 4) 0) ∧ Below w.heap.size w w' := by
  have h_d := fun w => d_c x w hx hx'
  have h_n := fun w => n_c x w hx hx'
  have h_m := fun w => m_c x w hx hx'
  have h_p12 := fun w => part_c x 12 4 12 4 rfl rfl (by omega) (by omega) (by omega) w hx hx'
  generalize fd x 0 5 = z_d at h_d ⊢
  generalize fd x 5 5 = z_n at h_n ⊢
  generalize fd x 16 5 = z_m at h_m ⊢
  generalize fd x 12 4 = z_p12 at h_p12 ⊢
  go_enter Try.func24, Try.ntmps24
  go_wp2_with (first | (go_at_call 96; refine (h_d _).mono ?_; rintro e w' ⟨rfl, m, rfl⟩) | (go_at_call 99; refine (h_n _).mono ?_; rintro e w' ⟨rfl, m, rfl⟩) | (go_at_call 100; refine (h_m _).mono ?_; rintro e w' ⟨rfl, m, rfl⟩) | (go_at_call 95; refine (h_p12 _).mono ?_; rintro e w' ⟨rfl, m, rfl⟩))
  exact ret7 rfl w _ _ _ _ _ _ _ _ _ rfl (fr_n w _) (fb_n w _) rfl
theorem dins_7 (x v1 v2 v3 v4 v5 v6 v7 : Int) (w : World) (hx : 0 ≤ x) (hx' : x < 4294967296) (h1 : bits .and .u32 x 4278190096 = v1) (e1 : (v1 == 1409286144) = false) (h2 : bits .and .u32 x 4261412864 = v2) (e2 : (v2 == 3019898880) = false) (h3 : bits .and .u32 x 2080374784 = v3) (e3 : (v3 == 335544320) = false) (h4 : bits .and .u32 x 3749707776 = v4) (e4 : (v4 == 3531603968) = false) (h5 : bits .and .u32 x 4292873216 = v5) (e5 : (v5 == 2592080896) = false) (h6 : bits .and .u32 x 4292870144 = v6) (e6 : (v6 == 2600468480) = false) (h7 : bits .and .u32 x 4292934656 = v7) (e7 : (v7 == 3355474944) = true) :
    Calls Try.prog 24 #[.int .u32 x] w fun e w' => e = .returned (I7 36 (fd x 16 5) (fd x 5 5) (fd x 0 5) 0 0 0) ∧ Below w.heap.size w w' := by
  have h_d := fun w => d_c x w hx hx'
  have h_n := fun w => n_c x w hx hx'
  have h_m := fun w => m_c x w hx hx'
  generalize fd x 0 5 = z_d at h_d ⊢
  generalize fd x 5 5 = z_n at h_n ⊢
  generalize fd x 16 5 = z_m at h_m ⊢
  go_enter Try.func24, Try.ntmps24
  go_wp2_with (first | (go_at_call 96; refine (h_d _).mono ?_; rintro e w' ⟨rfl, m, rfl⟩) | (go_at_call 99; refine (h_n _).mono ?_; rintro e w' ⟨rfl, m, rfl⟩) | (go_at_call 100; refine (h_m _).mono ?_; rintro e w' ⟨rfl, m, rfl⟩))
  exact ret7 rfl w _ _ _ _ _ _ _ _ _ rfl (fr_n w _) (fb_n w _) rfl
theorem dins_8 (x v1 v2 v3 v4 v5 v6 v7 v8 : Int) (w : World) (hx : 0 ≤ x) (hx' : x < 4294967296) (h1 : bits .and .u32 x 4278190096 = v1) (e1 : (v1 == 1409286144) = false) (h2 : bits .and .u32 x 4261412864 = v2) (e2 : (v2 == 3019898880) = false) (h3 : bits .and .u32 x 2080374784 = v3) (e3 : (v3 == 335544320) = false) (h4 : bits .and .u32 x 3749707776 = v4) (e4 : (v4 == 3531603968) = false) (h5 : bits .and .u32 x 4292873216 = v5) (e5 : (v5 == 2592080896) = false) (h6 : bits .and .u32 x 4292870144 = v6) (e6 : (v6 == 2600468480) = false) (h7 : bits .and .u32 x 4292934656 = v7) (e7 : (v7 == 3355474944) = false) (h8 : bits .and .u32 x 4292870175 = v8) (e8 : (v8 == 3556769793) = true) :
    Calls Try.prog 24 #[.int .u32 x] w fun e w' => e = .returned (I7 42 0 0 0 0 0 (fd x 5 16)) ∧ Below w.heap.size w w' := by
  have h_f5 := fun w => fieldv x 5 16 5 16 rfl rfl (by omega) (by omega) (by omega) w hx hx'
  have hr : 0 ≤ fd x 5 16 ∧ fd x 5 16 < 65536 := fd_range x 5 16
  generalize fd x 5 16 = z_f5 at h_f5 hr ⊢
  go_enter Try.func24, Try.ntmps24
  go_wp2_with (go_at_call 93; refine (h_f5 _).mono ?_; rintro e w' ⟨rfl, m, rfl⟩)
  exact ret7 rfl w _ _ _ _ _ _ _ _ _ rfl (fr_n w _) (fb_n w _) rfl
def pk (t : Bool) (a b : Int) : Int := if t then a else b
theorem pick_k (t : Bool) (a b : Int) (w : World) : Calls Try.prog 97 #[.bool t, .int .i64 a, .int .i64 b] w fun e w' => e = .returned (.int .i64 (pk t a b)) ∧ w = w' := pick_c t a b w
theorem dins_3 (x v1 v2 v3 : Int) (t : Bool) (w : World) (hx : 0 ≤ x) (hx' : x < 4294967296) (h1 : bits .and .u32 x 4278190096 = v1) (e1 : (v1 == 1409286144) = false) (h2 : bits .and .u32 x 4261412864 = v2) (e2 : (v2 == 3019898880) = false) (h3 : bits .and .u32 x 2080374784 = v3) (e3 : (v3 == 335544320) = true) (ht : (x / 2147483648 == 0) = t) :
    Calls Try.prog 24 #[.int .u32 x] w fun e w' => e = .returned (I7 (pk t 20 24) 0 0 0 0 0 (off x 0 26)) ∧ Below w.heap.size w w' := by
  have ho := fun w => offset_c x 0 26 0 26 rfl rfl (by omega) (by omega) (by omega) w hx hx'
  generalize off x 0 26 = o at ho ⊢
  go_enter Try.func24, Try.ntmps24
  go_wp2_with (first | (go_at_call 97; refine (pick_k t _ _ _).mono ?_; rintro e w' ⟨rfl, rfl⟩) | (go_at_call 98; refine (ho _).mono ?_; rintro e w' ⟨rfl, m, rfl⟩))
  exact ret7 rfl w _ _ _ _ _ _ _ _ _ rfl (fr_n w _) (fb_n w _) rfl
end Go.Proofs.Ytnbpgoacooddjaa.En
