import Derived.Test.YtnbpgoacooddjaaEDj
import Derived.BigGuardPart
namespace Go.Proofs.Ytnbpgoacooddjaa.Fr
end Go.Proofs.Ytnbpgoacooddjaa.Fr
namespace Go.Proofs.Ytnbpgoacooddjaa.En
open Go.Proofs.Ytnbpgoacooddjaa.Fr
open Go.ChangeShapes Go.WideShapes Go.ChangeAt Go.RowKit
set_option linter.unusedVariables false
theorem dins_4 (x v1 v2 v3 v4 : Int) (q : Int) (hq : bits .and .u32 (x / 536870912) 1 = q) (t : Bool) (w : World) (hx : 0 ≤ x) (hx' : x < 4294967296) (h1 : bits .and .u32 x 4278190096 = v1) (e1 : (v1 == 1409286144) = false) (h2 : bits .and .u32 x 4261412864 = v2) (e2 : (v2 == 3019898880) = false) (h3 : bits .and .u32 x 2080374784 = v3) (e3 : (v3 == 335544320) = false) (h4 : bits .and .u32 x 3749707776 = v4) (e4 : (v4 == 3531603968) = true) (ht : (q == 0) = t) :
    Calls Try.prog 24 #[.int .u32 x] w fun e w' => e = .returned (I7 (pk t 2 3) (fd x 0 5) 0 (fd x 21 2) 0 0 (fd x 5 16)) ∧ Below w.heap.size w w' := by
  have h_d := fun w => d_c x w hx hx'
  have h_f5 := fun w => fieldv x 5 16 5 16 rfl rfl (by omega) (by omega) (by omega) w hx hx'
  have h_p21 := fun w => part_c x 21 2 21 2 rfl rfl (by omega) (by omega) (by omega) w hx hx'
  have hr : 0 ≤ fd x 5 16 ∧ fd x 5 16 < 65536 := fd_range x 5 16
  generalize fd x 0 5 = z_d at h_d ⊢
  generalize fd x 5 16 = z_f5 at h_f5 hr ⊢
  generalize fd x 21 2 = z_p21 at h_p21 ⊢
  go_enter Try.func24, Try.ntmps24
  go_wp2_with (first | (go_at_call 97; refine (pick_k t _ _ _).mono ?_; rintro e w' ⟨rfl, rfl⟩) | (go_at_call 96; refine (h_d _).mono ?_; rintro e w' ⟨rfl, m, rfl⟩) | (go_at_call 93; refine (h_f5 _).mono ?_; rintro e w' ⟨rfl, m, rfl⟩) | (go_at_call 95; refine (h_p21 _).mono ?_; rintro e w' ⟨rfl, m, rfl⟩))
  exact ret7 rfl w _ _ _ _ _ _ _ _ _ rfl (fr_n w _) (fb_n w _) rfl
theorem dins_6 (x v1 v2 v3 v4 v5 v6 : Int) (q : Int) (hq : bits .and .u32 (x / 32768) 1 = q) (t : Bool) (w : World) (hx : 0 ≤ x) (hx' : x < 4294967296) (h1 : bits .and .u32 x 4278190096 = v1) (e1 : (v1 == 1409286144) = false) (h2 : bits .and .u32 x 4261412864 = v2) (e2 : (v2 == 3019898880) = false) (h3 : bits .and .u32 x 2080374784 = v3) (e3 : (v3 == 335544320) = false) (h4 : bits .and .u32 x 3749707776 = v4) (e4 : (v4 == 3531603968) = false) (h5 : bits .and .u32 x 4292873216 = v5) (e5 : (v5 == 2592080896) = false) (h6 : bits .and .u32 x 4292870144 = v6) (e6 : (v6 == 2600468480) = true) (ht : (q == 0) = t) :
    Calls Try.prog 24 #[.int .u32 x] w fun e w' => e = .returned (I7 (pk t 13 14) (fd x 0 5) (fd x 5 5) (fd x 16 5) (fd x 10 5) 0 0) ∧ Below w.heap.size w w' := by
  have h_d := fun w => d_c x w hx hx'
  have h_n := fun w => n_c x w hx hx'
  have h_m := fun w => m_c x w hx hx'
  have h_p10 := fun w => part_c x 10 5 10 5 rfl rfl (by omega) (by omega) (by omega) w hx hx'
  generalize fd x 0 5 = z_d at h_d ⊢
  generalize fd x 5 5 = z_n at h_n ⊢
  generalize fd x 16 5 = z_m at h_m ⊢
  generalize fd x 10 5 = z_p10 at h_p10 ⊢
  go_enter Try.func24, Try.ntmps24
  go_wp2_with (first | (go_at_call 97; refine (pick_k t _ _ _).mono ?_; rintro e w' ⟨rfl, rfl⟩) | (go_at_call 96; refine (h_d _).mono ?_; rintro e w' ⟨rfl, m, rfl⟩) | (go_at_call 99; refine (h_n _).mono ?_; rintro e w' ⟨rfl, m, rfl⟩) | (go_at_call 100; refine (h_m _).mono ?_; rintro e w' ⟨rfl, m, rfl⟩) | (go_at_call 95; refine (h_p10 _).mono ?_; rintro e w' ⟨rfl, m, rfl⟩))
  exact ret7 rfl w _ _ _ _ _ _ _ _ _ rfl (fr_n w _) (fb_n w _) rfl
theorem dins_1 (x v1 : Int) (w : World) (hx : 0 ≤ x) (hx' : x < 4294967296) (h1 : bits .and .u32 x 4278190096 = v1) (e1 : (v1 == 1409286144) = true) (hf : fd x 0 4 < 14) :
    Calls Try.prog 24 #[.int .u32 x] w fun e w' => e = .returned (I7 21 0 0 0 0 (fd x 0 4) (off x 5 19)) ∧ Below w.heap.size w w' := by
  have h_f := fun w => fieldv x 0 4 0 4 rfl rfl (by omega) (by omega) (by omega) w hx hx'
  have h_p := fun w => part_c x 0 4 0 4 rfl rfl (by omega) (by omega) (by omega) w hx hx'
  have h_o := fun w => near_c x w hx hx'
  generalize off x 5 19 = z_o at h_o ⊢
  have hr : 0 ≤ fd x 0 4 ∧ fd x 0 4 < 16 := fd_range x 0 4
  generalize fd x 0 4 = z_f at h_f h_p hr hf ⊢
  go_enter Try.func24, Try.ntmps24
  go_wp2_with (first | (go_at_call 93; refine (h_f _).mono ?_; rintro e w' ⟨rfl, m, rfl⟩) | (go_at_call 94; refine (h_o _).mono ?_; rintro e w' ⟨rfl, m, rfl⟩) | (go_at_call 95; refine (h_p _).mono ?_; rintro e w' ⟨rfl, m, rfl⟩))
  exact ret7 rfl w _ _ _ _ _ _ _ _ _ rfl (fr_n w _) (fb_n w _) rfl
end Go.Proofs.Ytnbpgoacooddjaa.En
