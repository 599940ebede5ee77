import Derived.Test.YtnbpgoacooddjaaEDj
import Derived.Test.YtnbpgoacooddjaaEDh
import Derived.BigGuardPart
namespace Go.Proofs.Ytnbpgoacooddjaa.Fr
end Go.Proofs.Ytnbpgoacooddjaa.Fr
namespace Go.Proofs.Ytnbpgoacooddjaa.En
open Go.Proofs.Ytnbpgoacooddjaa.Fr
open Go.ChangeShapes Go.WideShapes Go.ChangeAt Go.RowKit
set_option linter.unusedVariables false
theorem dins_n1 (x v1 v2 v3 v4 v5 v6 v7 v8 o : Int) (w : World) (hx : 0 ≤ x) (hx' : x < 4294967296) (h1 : bits .and .u32 x 4278190096 = v1) (e1 : (v1 == 1409286144) = false) (h2 : bits .and .u32 x 4261412864 = v2) (e2 : (v2 == 3019898880) = false) (h3 : bits .and .u32 x 2080374784 = v3) (e3 : (v3 == 335544320) = false) (h4 : bits .and .u32 x 3749707776 = v4) (e4 : (v4 == 3531603968) = false) (h5 : bits .and .u32 x 4292873216 = v5) (e5 : (v5 == 2592080896) = false) (h6 : bits .and .u32 x 4292870144 = v6) (e6 : (v6 == 2600468480) = false) (h7 : bits .and .u32 x 4292934656 = v7) (e7 : (v7 == 3355474944) = false) (h8 : bits .and .u32 x 4292870175 = v8) (e8 : (v8 == 3556769793) = false) (ho : wnS (bits .and .u32 x 4290772992) = o) (en : (o == 0) = false) (es : scS o = 1) :
    Calls Try.prog 24 #[.int .u32 x] w fun e w' => e = .returned (I7 o (fd x 0 5) (fd x 5 5) 0 0 0 (fd x 10 12)) ∧ Below w.heap.size w w' := by
  have h_w := fun w => wn_c x _ rfl w
  have h_s := fun w => scale_c o w
  rw [ho] at h_w
  rw [es] at h_s
  have h_d := fun w => d_c x w hx hx'
  have h_n := fun w => n_c x w hx hx'
  have h_f := fun w => fieldv x 10 12 10 12 rfl rfl (by omega) (by omega) (by omega) w hx hx'
  have hr : 0 ≤ fd x 10 12 ∧ fd x 10 12 < 4096 := fd_range x 10 12
  generalize fd x 0 5 = z_d at h_d ⊢
  generalize fd x 5 5 = z_n at h_n ⊢
  generalize fd x 10 12 = z_f at h_f hr ⊢
  clear ho es
  go_enter Try.func24, Try.ntmps24
  go_wp2_with (first | (go_at_call 101; refine (h_w _).mono ?_; rintro e w' ⟨rfl, rfl⟩) | (go_at_call 102; refine (h_s _).mono ?_; rintro e w' ⟨rfl, rfl⟩) | (go_at_call 96; refine (h_d _).mono ?_; rintro e w' ⟨rfl, m, rfl⟩) | (go_at_call 99; refine (h_n _).mono ?_; rintro e w' ⟨rfl, m, rfl⟩) | (go_at_call 93; refine (h_f _).mono ?_; rintro e w' ⟨rfl, m, rfl⟩))
  exact ret7 rfl w _ _ _ _ _ _ _ _ _ rfl (fr_n w _) (fb_n w _) rfl
theorem dins_n8 (x v1 v2 v3 v4 v5 v6 v7 v8 o : Int) (w : World) (hx : 0 ≤ x) (hx' : x < 4294967296) (h1 : bits .and .u32 x 4278190096 = v1) (e1 : (v1 == 1409286144) = false) (h2 : bits .and .u32 x 4261412864 = v2) (e2 : (v2 == 3019898880) = false) (h3 : bits .and .u32 x 2080374784 = v3) (e3 : (v3 == 335544320) = false) (h4 : bits .and .u32 x 3749707776 = v4) (e4 : (v4 == 3531603968) = false) (h5 : bits .and .u32 x 4292873216 = v5) (e5 : (v5 == 2592080896) = false) (h6 : bits .and .u32 x 4292870144 = v6) (e6 : (v6 == 2600468480) = false) (h7 : bits .and .u32 x 4292934656 = v7) (e7 : (v7 == 3355474944) = false) (h8 : bits .and .u32 x 4292870175 = v8) (e8 : (v8 == 3556769793) = false) (ho : wnS (bits .and .u32 x 4290772992) = o) (en : (o == 0) = false) (es : scS o = 8) :
    Calls Try.prog 24 #[.int .u32 x] w fun e w' => e = .returned (I7 o (fd x 0 5) (fd x 5 5) 0 0 0 (fd x 10 12 * 8)) ∧ Below w.heap.size w w' := by
  have h_w := fun w => wn_c x _ rfl w
  have h_s := fun w => scale_c o w
  rw [ho] at h_w
  rw [es] at h_s
  have h_d := fun w => d_c x w hx hx'
  have h_n := fun w => n_c x w hx hx'
  have h_f := fun w => fieldv x 10 12 10 12 rfl rfl (by omega) (by omega) (by omega) w hx hx'
  have hr : 0 ≤ fd x 10 12 ∧ fd x 10 12 < 4096 := fd_range x 10 12
  generalize fd x 0 5 = z_d at h_d ⊢
  generalize fd x 5 5 = z_n at h_n ⊢
  generalize fd x 10 12 = z_f at h_f hr ⊢
  clear ho es
  go_enter Try.func24, Try.ntmps24
  go_wp2_with (first | (go_at_call 101; refine (h_w _).mono ?_; rintro e w' ⟨rfl, rfl⟩) | (go_at_call 102; refine (h_s _).mono ?_; rintro e w' ⟨rfl, rfl⟩) | (go_at_call 96; refine (h_d _).mono ?_; rintro e w' ⟨rfl, m, rfl⟩) | (go_at_call 99; refine (h_n _).mono ?_; rintro e w' ⟨rfl, m, rfl⟩) | (go_at_call 93; refine (h_f _).mono ?_; rintro e w' ⟨rfl, m, rfl⟩))
  exact ret7 rfl w _ _ _ _ _ _ _ _ _ rfl (fr_n w _) (fb_n w _) rfl
theorem dins_t (x v1 v2 v3 v4 v5 v6 v7 v8 o : Int) (w : World) (hx : 0 ≤ x) (hx' : x < 4294967296) (h1 : bits .and .u32 x 4278190096 = v1) (e1 : (v1 == 1409286144) = false) (h2 : bits .and .u32 x 4261412864 = v2) (e2 : (v2 == 3019898880) = false) (h3 : bits .and .u32 x 2080374784 = v3) (e3 : (v3 == 335544320) = false) (h4 : bits .and .u32 x 3749707776 = v4) (e4 : (v4 == 3531603968) = false) (h5 : bits .and .u32 x 4292873216 = v5) (e5 : (v5 == 2592080896) = false) (h6 : bits .and .u32 x 4292870144 = v6) (e6 : (v6 == 2600468480) = false) (h7 : bits .and .u32 x 4292934656 = v7) (e7 : (v7 == 3355474944) = false) (h8 : bits .and .u32 x 4292870175 = v8) (e8 : (v8 == 3556769793) = false) (hn : wnS (bits .and .u32 x 4290772992) = 0) (ho : of3S (bits .and .u32 x 4292934656) = o) (en : (o == 0) = false) :
    Calls Try.prog 24 #[.int .u32 x] w fun e w' => e = .returned (I7 o (fd x 0 5) (fd x 5 5) (fd x 16 5) 0 0 0) ∧ Below w.heap.size w w' := by
  have h_w := fun w => wn_c x _ rfl w
  have h_t := fun w => of3_c x _ rfl w
  rw [hn] at h_w
  rw [ho] at h_t
  have h_d := fun w => d_c x w hx hx'
  have h_n := fun w => n_c x w hx hx'
  have h_m := fun w => m_c x w hx hx'
  generalize fd x 0 5 = z_d at h_d ⊢
  generalize fd x 5 5 = z_n at h_n ⊢
  generalize fd x 16 5 = z_m at h_m ⊢
  clear ho hn
  go_enter Try.func24, Try.ntmps24
  go_wp2_with (first | (go_at_call 101; refine (h_w _).mono ?_; rintro e w' ⟨rfl, rfl⟩) | (go_at_call 103; refine (h_t _).mono ?_; rintro e w' ⟨rfl, rfl⟩) | (go_at_call 96; refine (h_d _).mono ?_; rintro e w' ⟨rfl, m, rfl⟩) | (go_at_call 99; refine (h_n _).mono ?_; rintro e w' ⟨rfl, m, rfl⟩) | (go_at_call 100; refine (h_m _).mono ?_; rintro e w' ⟨rfl, m, rfl⟩))
  exact ret7 rfl w _ _ _ _ _ _ _ _ _ rfl (fr_n w _) (fb_n w _) rfl
theorem dins_f (x v1 v2 v3 v4 v5 v6 v7 v8 o0 o1 o2 o3 o4 o5 o6 : Int) (w : World) (hx : 0 ≤ x) (hx' : x < 4294967296) (h1 : bits .and .u32 x 4278190096 = v1) (e1 : (v1 == 1409286144) = false) (h2 : bits .and .u32 x 4261412864 = v2) (e2 : (v2 == 3019898880) = false) (h3 : bits .and .u32 x 2080374784 = v3) (e3 : (v3 == 335544320) = false) (h4 : bits .and .u32 x 3749707776 = v4) (e4 : (v4 == 3531603968) = false) (h5 : bits .and .u32 x 4292873216 = v5) (e5 : (v5 == 2592080896) = false) (h6 : bits .and .u32 x 4292870144 = v6) (e6 : (v6 == 2600468480) = false) (h7 : bits .and .u32 x 4292934656 = v7) (e7 : (v7 == 3355474944) = false) (h8 : bits .and .u32 x 4292870175 = v8) (e8 : (v8 == 3556769793) = false) (hn : wnS (bits .and .u32 x 4290772992) = 0) (ho : of3S (bits .and .u32 x 4292934656) = 0) (hq : fewS x (bits .and .u32 x 4294966303) (bits .and .u32 x 4294966272) (bits .and .u32 x 4294967264) = I7 o0 o1 o2 o3 o4 o5 o6) :
    Calls Try.prog 24 #[.int .u32 x] w fun e w' => e = .returned (I7 o0 o1 o2 o3 o4 o5 o6) ∧ Below w.heap.size w w' := by
  have h_w := fun w => wn_c x _ rfl w
  have h_t := fun w => of3_c x _ rfl w
  have h_q := fun w => few_c x w hx hx'
  rw [hn] at h_w
  rw [ho] at h_t
  rw [hq] at h_q
  clear ho hn hq
  go_enter Try.func24, Try.ntmps24
  go_wp2_with (first | (go_at_call 101; refine (h_w _).mono ?_; rintro e w' ⟨rfl, rfl⟩) | (go_at_call 103; refine (h_t _).mono ?_; rintro e w' ⟨rfl, rfl⟩) | (go_at_call 104; refine (h_q _).mono ?_; rintro e w1 ⟨rfl, hB0⟩; have hB := hB0; have HB := Lib.hid (fr_b w w1 hB); obtain ⟨c0, f0, c1, f1, c2, f2, c3, f3, c4, f4, c5, f5, c6, f6⟩ := fr_k w w1 hB; clear hB hB0))
  exact ret7 rfl w _ _ _ _ _ _ _ _ _ rfl HB.out.1 HB.out.2 rfl
theorem dins_g (x v1 v2 v3 v4 v5 v6 v7 v8 o0 o1 o2 o3 o4 o5 o6 : Int) (w : World) (hx : 0 ≤ x) (hx' : x < 4294967296) (h1 : bits .and .u32 x 4278190096 = v1) (e1 : (v1 == 1409286144) = true) (hf : 14 ≤ fd x 0 4) (h2 : bits .and .u32 x 4261412864 = v2) (e2 : (v2 == 3019898880) = false) (h3 : bits .and .u32 x 2080374784 = v3) (e3 : (v3 == 335544320) = false) (h4 : bits .and .u32 x 3749707776 = v4) (e4 : (v4 == 3531603968) = false) (h5 : bits .and .u32 x 4292873216 = v5) (e5 : (v5 == 2592080896) = false) (h6 : bits .and .u32 x 4292870144 = v6) (e6 : (v6 == 2600468480) = false) (h7 : bits .and .u32 x 4292934656 = v7) (e7 : (v7 == 3355474944) = false) (h8 : bits .and .u32 x 4292870175 = v8) (e8 : (v8 == 3556769793) = false) (hn : wnS (bits .and .u32 x 4290772992) = 0) (ho : of3S (bits .and .u32 x 4292934656) = 0) (hq : fewS x (bits .and .u32 x 4294966303) (bits .and .u32 x 4294966272) (bits .and .u32 x 4294967264) = I7 o0 o1 o2 o3 o4 o5 o6) :
    Calls Try.prog 24 #[.int .u32 x] w fun e w' => e = .returned (I7 o0 o1 o2 o3 o4 o5 o6) ∧ Below w.heap.size w w' := by
  have h_w := fun w => wn_c x _ rfl w
  have h_t := fun w => of3_c x _ rfl w
  have h_q := fun w => few_c x w hx hx'
  rw [hn] at h_w
  rw [ho] at h_t
  rw [hq] at h_q
  have h_f := fun w => fieldv x 0 4 0 4 rfl rfl (by omega) (by omega) (by omega) w hx hx'
  have hr : 0 ≤ fd x 0 4 ∧ fd x 0 4 < 16 := fd_range x 0 4
  generalize fd x 0 4 = z_f at h_f hr hf
  clear ho hn hq
  go_enter Try.func24, Try.ntmps24
  go_wp2_with (first | (go_at_call 93; refine (h_f _).mono ?_; rintro e w' ⟨rfl, m, rfl⟩) | (go_at_call 101; refine (h_w _).mono ?_; rintro e w' ⟨rfl, rfl⟩) | (go_at_call 103; refine (h_t _).mono ?_; rintro e w' ⟨rfl, rfl⟩) | (go_at_call 104; refine (h_q _).mono ?_; rintro e w1 ⟨rfl, hB0⟩; have hB := (below_drewN (Below.refl _ _) _).trans hB0; have HB := Lib.hid (fr_b w w1 hB); obtain ⟨c0, f0, c1, f1, c2, f2, c3, f3, c4, f4, c5, f5, c6, f6⟩ := fr_k w w1 hB; clear hB hB0))
  exact ret7 rfl w _ _ _ _ _ _ _ _ _ rfl HB.out.1 HB.out.2 rfl
end Go.Proofs.Ytnbpgoacooddjaa.En
