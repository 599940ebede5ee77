import Derived.Test.YtapcapcbndooiaaRows
import Derived.WalkKit
import Derived.ProofKit
import Derived.OpenShut
import Derived.Deep.QuietTactic
import Derived.BigQuiet
import Derived.Outline
import Derived.WalkSmall
import Derived.WalkLawsBesides
import Derived.WalkSpells
import Derived.BigGuardPart
import Derived.RegionTactic
import Derived.Deep.RegionHeld3
import Derived.Lib.Hide
import Derived.Deep.OwnRows
import Derived.Maps.AppendAt
import Derived.Deep.AppendLies
import Derived.Below
import Derived.Test.YtapcapcbndooiaaApartM
import Derived.Test.YtapcapcbndooiaaPlacesW
namespace Go.Proofs.Ytapcapcbndooiaa
open Go.ChangeShapes Go.WideShapes Go.ChangeAt Go.RowKit
set_option linter.unusedVariables false
def AtW (b : Bool) (w : World) (e : Ending) (w' : World) : Prop := ∃ (x0 x1 : Int) (x2 x3 : Bool), e = .returned (.tuple #[.agg #[.int .u64 x0, .int .u64 x1, .bool x2, .bool x3], .bool b]) ∧ Below w.heap.size w w'
theorem at_w (mb ab cap a : Nat) (c0 c1 c3 n : Int) (b : Bool) (B : Nat → Nat) (w : World) (ha : a < 18446744073709551616) (h0 : 1 ≤ c0) (h0' : c0 ≤ 4) (h1 : c1 ≤ 65536) (h3 : c3 ≤ 65536) (hn : whichF c0 c1 c3 a = n) (hb : b = !(n == 0)) (hmb : mb < w.heap.size) (hab : ab < w.heap.size) (HM : Hid (MemAt w mb ab 5 cap A5 (S5 c0 c1 c3) rwr rx B)) :
    Calls Try.prog 73 #[.pointer (some ⟨mb, 0, none⟩), .int .u64 a] w (AtW b w) := by
  have hw := whichF_is c0 c1 c3 a
  rw [hn] at hw
  rcases hw with ⟨k, hk, hr, rfl⟩ | ⟨hno, rfl⟩
  · refine (at_y mb ab 5 cap k a A5 (S5 c0 c1 c3) rwr rx B w hk ha (fun j hj hin => ?_) ((inA5 c0 c1 c3 k a h0 h0' h1 h3).2 hr) hmb hab HM).mono ?_
    · have := inR_one c0 c1 c3 a j k h0 h0' h1 h3 (by omega) hk ((inA5 c0 c1 c3 j a h0 h0' h1 h3).1 hin) hr
      omega
    · rintro e w' ⟨rfl, hB⟩
      have : ((k : Int) + 1 == 0) = false := by simp; omega
      obtain rfl : b = true := by rw [hb, this]; rfl
      exact ⟨_, _, _, _, rfl, hB⟩
  · refine (at_n mb ab 5 cap a A5 (S5 c0 c1 c3) rwr rx B w ha (fun j hj hin => hno j hj ((inA5 c0 c1 c3 j a h0 h0' h1 h3).1 hin)) hmb hab HM).mono ?_
    rintro e w' ⟨rfl, hB⟩
    obtain rfl : b = false := by rw [hb]; rfl
    exact ⟨_, _, _, _, rfl, hB⟩
set_option maxRecDepth 1000000 in
set_option maxHeartbeats 4000000 in
theorem apart_y (c0 c1 c2 c3 c4 o k : Int) (a : Nat) (w : World) (h : ok5 c0 c1 c2 c3 c4) (ha' : a < 18446744073709551616) :
    Calls Try.prog 12 #[.agg #[.int .i64 c0, .int .i64 c1, .int .i64 c2, .int .i64 c3, .int .i64 c4], .int .u64 a, .int .i64 o, .int .i64 k] w fun e w' => e = .returned (.bool true) ∧ Below w.heap.size w w' := by
  have H := Lib.hid h
  have HC : checkS c0 c1 c2 c3 c4 = 0 := if_pos h
  have h5 := h
  unfold ok5 at h5
  have H5 := Lib.hid h5
  clear h h5
  go_enter Try.func12, Try.ntmps12
  go_wp2_with (first | (go_at_call 51; refine (known_c _).mono ?_; rintro e w' ⟨rfl, rfl⟩) | (go_at_call 52; refine (reg_p _ _ _ _ _ _ H.out).mono ?_; rintro e w1 ⟨g, rfl, hg1, hg2, hR, hB⟩; have HK := Lib.hid ((BoxAt.made w c0 c1 c2 c3 c4).below hB (by simp)); obtain ⟨x0, x1, x2, x3, x4⟩ := HK.out; have HB := Lib.hid (((Below.refl _ _).alloc (Nat.le_refl _) _).trans (hB.mono (by simp))); have HR := Lib.hid hR; clear hR hB))
  refine (check_b _ _ _ _ _ _).mono ?_
  rintro e w2 ⟨rfl, hb2⟩
  have hs2 := hb2.size
  have HR2 := Lib.hid (HR.out.below hb2 hg2)
  have hw2 : w.heap.size < w2.heap.size := by simp at hg1; omega
  have HK2 := Lib.hid (HK.out.below hb2 (by simp at hg1; omega))
  have HB2 := Lib.hid (HB.out.trans (hb2.mono (by simp at hg1; omega)))
  simp at hg1
  clear hb2 x0 x1 x2 x3 x4 HK HB HR
  have HRR : Hid (RegsAt w2 g 5 A5 (S5 c0 c1 c3) rwr rx) := Lib.hid (HR2.out.regs H5.out.1.1 H5.out.1.2 H5.out.2.1.2 H5.out.2.2.2.1.2)
  go_wp2_with fail
  refine (new_y g 5 5 A5 (S5 c0 c1 c3) rwr rx _ (by omega) (by omega) (by omega) (sorted5 c0 c1 c3 H5.out.1.1 H5.out.1.2 H5.out.2.1.2 H5.out.2.2.2.1.2) (right5 c0 c1 c3 H5.out.1.1 H5.out.1.2 H5.out.2.1.2 H5.out.2.2.2.1.2 H5.out.2.2.2.2.1) HRR).mono ?_
  rintro e w3 ⟨mb, v, B, rfl, hm, hM, hB3⟩
  obtain ⟨ab, cap, rfl, hN, _⟩ := hM.mem (N := w2.heap.size) hm (by omega) ⟨by omega, fun j hj => by have := right5 c0 c1 c3 H5.out.1.1 H5.out.1.2 H5.out.2.1.2 H5.out.2.2.2.1.2 H5.out.2.2.2.2.1 j hj; omega⟩
  have hml : mb < w3.heap.size := hM.2.2.1
  have hal : ab < w3.heap.size := (World.ownsRow.lt hM.2.2.2.1 ab rfl).2
  have HM := Lib.hid hN.1
  have HK3 := Lib.hid (HK2.out.below hB3 (by omega))
  have HR3 := Lib.hid (HR2.out.below hB3 (by omega))
  have hs3 := hB3.size
  have HB3 := Lib.hid (HB2.out.trans (hB3.mono (by omega)))
  clear hM hN hB3 HB2 HK2 HR2 HRR
  obtain ⟨n, hn⟩ : ∃ n, whichF c0 c1 c3 a = n := ⟨_, rfl⟩
  have HN := Lib.hid hn
  have hok : 1 ≤ o → o ≤ 65536 → objS (addrS o) = o := obj_addr o
  have hkr := kindS_range k
  have HKC := Lib.hid (class_kind k)
  obtain ⟨kk, hkk⟩ : ∃ kk, kindS k = kk := ⟨_, rfl⟩
  rw [hkk] at hkr
  have HKK := Lib.hid hkk
  have HOK := Lib.hid hok
  clear hn hok hkk
  obtain ⟨k0, k1⟩ := hkr
  by_cases hz : n = 0
  · subst hz
    go_wp2_with fail
    refine (at_w mb ab cap a c0 c1 c3 0 false B _ ha' H5.out.1.1 H5.out.1.2 H5.out.2.1.2 H5.out.2.2.2.1.2 HN.out rfl hml hal HM).mono ?_
    rintro e w4 ⟨x0, x1, x2, x3, rfl, hB4⟩
    have HK4 := Lib.hid ((HK3.out.below hB4 (by omega)).below ((Below.refl _ _).alloc (Nat.le_refl _) (.cells #[.int .u64 x0, .int .u64 x1, .bool x2, .bool x3] 43)) (by have := hB4.size; omega))
    obtain ⟨y0, y1, y2, y3, y4⟩ := HK4.out
    have HR4 := Lib.hid (HR3.out.below hB4 (by omega))
    have HB4 := Lib.hid (HB3.out.trans (hB4.mono (by omega)))
    have hs4 := hB4.size
    clear hB4
    go_wp2_with fail
    have WB := which_b c0 c1 c2 c3 c4 a (w4.alloc (.cells #[.int .u64 x0, .int .u64 x1, .bool x2, .bool x3] 43)) H.out (by omega) (by omega)
    rw [HN.out] at WB
    refine WB.mono ?_
    rintro e w5 ⟨rfl, hB5⟩
    have HR5 := Lib.hid ((HR4.out.below ((Below.refl _ _).alloc (Nat.le_refl _) (.cells #[.int .u64 x0, .int .u64 x1, .bool x2, .bool x3] 43)) (by omega)).below hB5 (by simp; omega))
    have HB5 := Lib.hid ((HB4.out.alloc (by omega) (.cells #[.int .u64 x0, .int .u64 x1, .bool x2, .bool x3] 43)).trans (hB5.mono (by simp; omega)))
    clear hB5 y0 y1 y2 y3 y4 HK4 HK3 HR4 HB4 HB3 HR3 WB
    go_wp2
    go_loopw [14] (fun i wr => ∃ j : Nat, j + 1 ≤ 5 ∧ i = .int .i64 (j + 1 : Nat) ∧ Hid (RegAt wr g c0 c1 c3) ∧ Hid (Below w.heap.size w wr)) (fun i _ => 6 - (intOf i).toNat)
    case atStart => exact ⟨0, by omega, rfl, HR5, HB5⟩
    case round =>
      obtain ⟨j, hj, rfl, HRr, HBr⟩ := hrel
      by_cases hlt : j + 1 < 5
      · obtain ⟨f1, f2, f3, f4⟩ := HRr.out j (by omega)
        obtain ⟨e1, e2, e3, e4⟩ := HRr.out (j + 1) hlt
        clear f3 f4 e2 e3 e4
        have r1 := rb_range j
        have r2 := rs_range c0 c1 c3 j H5.out.1.1 H5.out.1.2 H5.out.2.1.2 H5.out.2.2.2.1.2
        have r3 := rs_next c0 c1 c3 j hlt H5.out.1.1 H5.out.1.2 H5.out.2.1.2 H5.out.2.2.2.1.2
        have i1 : (0 : Int) ≤ (j : Int) := by omega
        have i2 : (j : Int) + 1 < 5 := by omega
        have i3 : (j : Int) < 5 := by omega
        have i4 : (0 : Int) ≤ (j : Int) + 1 := by omega
        have i5 : IntKind.i64.wrap ((j : Int) + 1 - 1) = (j : Int) := by rw [IntKind.wrap_i64]; omega
        have i6 : IntKind.i64.wrap (j : Int) = (j : Int) := by rw [IntKind.wrap_i64]; omega
        obtain ⟨t, ht⟩ : ∃ t, IntKind.u64.wrap (rb j + rs c0 c1 c3 j) = t := ⟨_, rfl⟩
        have ht1 : t ≤ rb (j + 1) := by rw [← ht, IntKind.wrap_u64]; omega
        have d1 : decide (rb (j + 1) < t) = false := decide_eq_false (by omega)
        go_wp2
        go_quiet (fail)
        go_wp2
        exact ⟨⟨j + 1, by omega, by simp, Lib.hid (HRr.out.drewN _), Lib.hid (below_drewN HBr.out _)⟩, by simp [intOf]; omega⟩
      · obtain rfl : j = 4 := by omega
        by_cases o1 : 1 ≤ o
        · by_cases o2 : o ≤ 65536
          · have hob := HOK.out o1 o2
            have har := addrS_range o
            obtain ⟨ad, had⟩ : ∃ ad, addrS o = ad := ⟨_, rfl⟩
            rw [had] at hob har
            obtain ⟨ha0, ha1⟩ := har
            by_cases hk0 : (kk == 0) = true
            · go_wp2_with (first | (go_at_call 63; refine (addr_c o _).mono ?_; rw [had]; rintro e w' ⟨rfl, rfl⟩) | (go_at_call 61; refine (obj_c ad _ ha0 (by omega)).mono ?_; rw [hob]; rintro e w' ⟨rfl, rfl⟩) | (go_at_call 69; refine (kind_c k _).mono ?_; rw [HKK.out]; rintro e w' ⟨rfl, rfl⟩))
              refine bodyPost_ret (v := .bool true) (by simp [results, Try.results12, go_sem]) rfl ⟨rfl, HBr.out⟩
            · have hk1 : (kk == 0) = false := by simpa using hk0
              have HCL : Hid (classS kk = k) := Lib.hid (by have := HKC.out; rw [HKK.out] at this; rcases this with h | h; exact absurd h hk0; exact h)
              clear hk0
              go_wp2_with (first | (go_at_call 63; refine (addr_c o _).mono ?_; rw [had]; rintro e w' ⟨rfl, rfl⟩) | (go_at_call 61; refine (obj_c ad _ ha0 (by omega)).mono ?_; rw [hob]; rintro e w' ⟨rfl, rfl⟩) | (go_at_call 69; refine (kind_c k _).mono ?_; rw [HKK.out]; rintro e w' ⟨rfl, rfl⟩) | (go_at_call 71; refine (class_c kk _ k0 k1).mono ?_; rw [HCL.out]; rintro e w' ⟨rfl, rfl⟩))
              refine bodyPost_ret (v := .bool true) (by simp [results, Try.results12, go_sem]) rfl ⟨rfl, HBr.out⟩
          · have o3 : decide (o ≤ 65536) = false := decide_eq_false o2
            by_cases hk0 : (kk == 0) = true
            · go_wp2_with (first | (go_at_call 69; refine (kind_c k _).mono ?_; rw [HKK.out]; rintro e w' ⟨rfl, rfl⟩))
              refine bodyPost_ret (v := .bool true) (by simp [results, Try.results12, go_sem]) rfl ⟨rfl, HBr.out⟩
            · have hk1 : (kk == 0) = false := by simpa using hk0
              have HCL : Hid (classS kk = k) := Lib.hid (by have := HKC.out; rw [HKK.out] at this; rcases this with h | h; exact absurd h hk0; exact h)
              clear hk0
              go_wp2_with (first | (go_at_call 69; refine (kind_c k _).mono ?_; rw [HKK.out]; rintro e w' ⟨rfl, rfl⟩) | (go_at_call 71; refine (class_c kk _ k0 k1).mono ?_; rw [HCL.out]; rintro e w' ⟨rfl, rfl⟩))
              refine bodyPost_ret (v := .bool true) (by simp [results, Try.results12, go_sem]) rfl ⟨rfl, HBr.out⟩
        · have o3 : decide (1 ≤ o) = false := decide_eq_false o1
          by_cases hk0 : (kk == 0) = true
          · go_wp2_with (first | (go_at_call 69; refine (kind_c k _).mono ?_; rw [HKK.out]; rintro e w' ⟨rfl, rfl⟩))
            refine bodyPost_ret (v := .bool true) (by simp [results, Try.results12, go_sem]) rfl ⟨rfl, HBr.out⟩
          · have hk1 : (kk == 0) = false := by simpa using hk0
            have HCL : Hid (classS kk = k) := Lib.hid (by have := HKC.out; rw [HKK.out] at this; rcases this with h | h; exact absurd h hk0; exact h)
            clear hk0
            go_wp2_with (first | (go_at_call 69; refine (kind_c k _).mono ?_; rw [HKK.out]; rintro e w' ⟨rfl, rfl⟩) | (go_at_call 71; refine (class_c kk _ k0 k1).mono ?_; rw [HCL.out]; rintro e w' ⟨rfl, rfl⟩))
            refine bodyPost_ret (v := .bool true) (by simp [results, Try.results12, go_sem]) rfl ⟨rfl, HBr.out⟩
  · have hz1 : (n == 0) = false := by simpa using hz
    have hz2 : (n != 0) = true := by simpa using hz
    go_wp2_with fail
    refine (at_w mb ab cap a c0 c1 c3 n true B _ ha' H5.out.1.1 H5.out.1.2 H5.out.2.1.2 H5.out.2.2.2.1.2 HN.out (by rw [hz1]; rfl) hml hal HM).mono ?_
    rintro e w4 ⟨x0, x1, x2, x3, rfl, hB4⟩
    have HK4 := Lib.hid ((HK3.out.below hB4 (by omega)).below ((Below.refl _ _).alloc (Nat.le_refl _) (.cells #[.int .u64 x0, .int .u64 x1, .bool x2, .bool x3] 43)) (by have := hB4.size; omega))
    obtain ⟨y0, y1, y2, y3, y4⟩ := HK4.out
    have HR4 := Lib.hid (HR3.out.below hB4 (by omega))
    have HB4 := Lib.hid (HB3.out.trans (hB4.mono (by omega)))
    have hs4 := hB4.size
    clear hB4
    go_wp2_with fail
    have WB := which_b c0 c1 c2 c3 c4 a (w4.alloc (.cells #[.int .u64 x0, .int .u64 x1, .bool x2, .bool x3] 43)) H.out (by omega) (by omega)
    rw [HN.out] at WB
    refine WB.mono ?_
    rintro e w5 ⟨rfl, hB5⟩
    have HR5 := Lib.hid ((HR4.out.below ((Below.refl _ _).alloc (Nat.le_refl _) (.cells #[.int .u64 x0, .int .u64 x1, .bool x2, .bool x3] 43)) (by omega)).below hB5 (by simp; omega))
    have HB5 := Lib.hid ((HB4.out.alloc (by omega) (.cells #[.int .u64 x0, .int .u64 x1, .bool x2, .bool x3] 43)).trans (hB5.mono (by simp; omega)))
    clear hB5 y0 y1 y2 y3 y4 HK4 HK3 HR4 HB4 HB3 HR3 WB
    go_wp2
    go_loopw [14] (fun i wr => ∃ j : Nat, j + 1 ≤ 5 ∧ i = .int .i64 (j + 1 : Nat) ∧ Hid (RegAt wr g c0 c1 c3) ∧ Hid (Below w.heap.size w wr)) (fun i _ => 6 - (intOf i).toNat)
    case atStart => exact ⟨0, by omega, rfl, HR5, HB5⟩
    case round =>
      obtain ⟨j, hj, rfl, HRr, HBr⟩ := hrel
      by_cases hlt : j + 1 < 5
      · obtain ⟨f1, f2, f3, f4⟩ := HRr.out j (by omega)
        obtain ⟨e1, e2, e3, e4⟩ := HRr.out (j + 1) hlt
        clear f3 f4 e2 e3 e4
        have r1 := rb_range j
        have r2 := rs_range c0 c1 c3 j H5.out.1.1 H5.out.1.2 H5.out.2.1.2 H5.out.2.2.2.1.2
        have r3 := rs_next c0 c1 c3 j hlt H5.out.1.1 H5.out.1.2 H5.out.2.1.2 H5.out.2.2.2.1.2
        have i1 : (0 : Int) ≤ (j : Int) := by omega
        have i2 : (j : Int) + 1 < 5 := by omega
        have i3 : (j : Int) < 5 := by omega
        have i4 : (0 : Int) ≤ (j : Int) + 1 := by omega
        have i5 : IntKind.i64.wrap ((j : Int) + 1 - 1) = (j : Int) := by rw [IntKind.wrap_i64]; omega
        have i6 : IntKind.i64.wrap (j : Int) = (j : Int) := by rw [IntKind.wrap_i64]; omega
        obtain ⟨t, ht⟩ : ∃ t, IntKind.u64.wrap (rb j + rs c0 c1 c3 j) = t := ⟨_, rfl⟩
        have ht1 : t ≤ rb (j + 1) := by rw [← ht, IntKind.wrap_u64]; omega
        have d1 : decide (rb (j + 1) < t) = false := decide_eq_false (by omega)
        go_wp2
        go_quiet (fail)
        go_wp2
        exact ⟨⟨j + 1, by omega, by simp, Lib.hid (HRr.out.drewN _), Lib.hid (below_drewN HBr.out _)⟩, by simp [intOf]; omega⟩
      · obtain rfl : j = 4 := by omega
        by_cases o1 : 1 ≤ o
        · by_cases o2 : o ≤ 65536
          · have hob := HOK.out o1 o2
            have har := addrS_range o
            obtain ⟨ad, had⟩ : ∃ ad, addrS o = ad := ⟨_, rfl⟩
            rw [had] at hob har
            obtain ⟨ha0, ha1⟩ := har
            by_cases hk0 : (kk == 0) = true
            · go_wp2_with (first | (go_at_call 63; refine (addr_c o _).mono ?_; rw [had]; rintro e w' ⟨rfl, rfl⟩) | (go_at_call 61; refine (obj_c ad _ ha0 (by omega)).mono ?_; rw [hob]; rintro e w' ⟨rfl, rfl⟩) | (go_at_call 69; refine (kind_c k _).mono ?_; rw [HKK.out]; rintro e w' ⟨rfl, rfl⟩))
              refine bodyPost_ret (v := .bool true) (by simp [results, Try.results12, go_sem]) rfl ⟨rfl, HBr.out⟩
            · have hk1 : (kk == 0) = false := by simpa using hk0
              have HCL : Hid (classS kk = k) := Lib.hid (by have := HKC.out; rw [HKK.out] at this; rcases this with h | h; exact absurd h hk0; exact h)
              clear hk0
              go_wp2_with (first | (go_at_call 63; refine (addr_c o _).mono ?_; rw [had]; rintro e w' ⟨rfl, rfl⟩) | (go_at_call 61; refine (obj_c ad _ ha0 (by omega)).mono ?_; rw [hob]; rintro e w' ⟨rfl, rfl⟩) | (go_at_call 69; refine (kind_c k _).mono ?_; rw [HKK.out]; rintro e w' ⟨rfl, rfl⟩) | (go_at_call 71; refine (class_c kk _ k0 k1).mono ?_; rw [HCL.out]; rintro e w' ⟨rfl, rfl⟩))
              refine bodyPost_ret (v := .bool true) (by simp [results, Try.results12, go_sem]) rfl ⟨rfl, HBr.out⟩
          · have o3 : decide (o ≤ 65536) = false := decide_eq_false o2
            by_cases hk0 : (kk == 0) = true
            · go_wp2_with (first | (go_at_call 69; refine (kind_c k _).mono ?_; rw [HKK.out]; rintro e w' ⟨rfl, rfl⟩))
              refine bodyPost_ret (v := .bool true) (by simp [results, Try.results12, go_sem]) rfl ⟨rfl, HBr.out⟩
            · have hk1 : (kk == 0) = false := by simpa using hk0
              have HCL : Hid (classS kk = k) := Lib.hid (by have := HKC.out; rw [HKK.out] at this; rcases this with h | h; exact absurd h hk0; exact h)
              clear hk0
              go_wp2_with (first | (go_at_call 69; refine (kind_c k _).mono ?_; rw [HKK.out]; rintro e w' ⟨rfl, rfl⟩) | (go_at_call 71; refine (class_c kk _ k0 k1).mono ?_; rw [HCL.out]; rintro e w' ⟨rfl, rfl⟩))
              refine bodyPost_ret (v := .bool true) (by simp [results, Try.results12, go_sem]) rfl ⟨rfl, HBr.out⟩
        · have o3 : decide (1 ≤ o) = false := decide_eq_false o1
          by_cases hk0 : (kk == 0) = true
          · go_wp2_with (first | (go_at_call 69; refine (kind_c k _).mono ?_; rw [HKK.out]; rintro e w' ⟨rfl, rfl⟩))
            refine bodyPost_ret (v := .bool true) (by simp [results, Try.results12, go_sem]) rfl ⟨rfl, HBr.out⟩
          · have hk1 : (kk == 0) = false := by simpa using hk0
            have HCL : Hid (classS kk = k) := Lib.hid (by have := HKC.out; rw [HKK.out] at this; rcases this with h | h; exact absurd h hk0; exact h)
            clear hk0
            go_wp2_with (first | (go_at_call 69; refine (kind_c k _).mono ?_; rw [HKK.out]; rintro e w' ⟨rfl, rfl⟩) | (go_at_call 71; refine (class_c kk _ k0 k1).mono ?_; rw [HCL.out]; rintro e w' ⟨rfl, rfl⟩))
            refine bodyPost_ret (v := .bool true) (by simp [results, Try.results12, go_sem]) rfl ⟨rfl, HBr.out⟩
set_option maxRecDepth 1000000 in
set_option maxHeartbeats 4000000 in
theorem apart_n (c0 c1 c2 c3 c4 o k : Int) (a : Nat) (w : World) (h : ¬ ok5 c0 c1 c2 c3 c4) (ha' : a < 18446744073709551616) :
    Calls Try.prog 12 #[.agg #[.int .i64 c0, .int .i64 c1, .int .i64 c2, .int .i64 c3, .int .i64 c4], .int .u64 a, .int .i64 o, .int .i64 k] w fun e w' => e = .returned (.bool true) ∧ Below w.heap.size w w' := by
  have H := Lib.hid h
  have HC : checkS c0 c1 c2 c3 c4 = 1 := if_neg h
  clear h
  go_enter Try.func12, Try.ntmps12
  go_wp2_with (first | (go_at_call 51; refine (known_c _).mono ?_; rintro e w' ⟨rfl, rfl⟩) | (go_at_call 52; refine (reg_b _ _ _ _ _ _ H.out).mono ?_; rintro e w1 ⟨rfl, hB⟩; have HK := Lib.hid ((BoxAt.made w c0 c1 c2 c3 c4).below hB (by simp)); obtain ⟨x0, x1, x2, x3, x4⟩ := HK.out; have HB := Lib.hid (((Below.refl _ _).alloc (Nat.le_refl _) _).trans (hB.mono (by simp))); have hs1 : w.heap.size < w1.heap.size := (by have := hB.size; simp at this; omega); clear hB))
  refine (check_b _ _ _ _ _ _).mono ?_
  rintro e w2 ⟨rfl, hb2⟩
  have hs2 := hb2.size
  have HK2 := Lib.hid (HK.out.below hb2 (by omega))
  have HB2 := Lib.hid (HB.out.trans (hb2.mono (by omega)))
  clear hb2 x0 x1 x2 x3 x4 HK HB
  obtain ⟨x0, x1, x2, x3, x4⟩ := HK2.out
  go_wp2_with (go_at_call 57; refine (which_nb _ _ _ _ _ _ _ H.out).mono ?_; rintro e w3 ⟨rfl, hb3⟩; have HB3 := Lib.hid (HB2.out.trans (hb3.mono (by omega))); clear hb3)
  refine bodyPost_ret (v := .bool true) (by simp [results, Try.results12, go_sem]) rfl ⟨rfl, HB3.out⟩
end Go.Proofs.Ytapcapcbndooiaa
