import Derived.Test.YtapcapcbndooiaaRows
import Derived.WalkKit
import Derived.ProofKit
import Derived.OpenShut
import Derived.Deep.QuietTactic
import Derived.BigQuiet
import Derived.Outline
import Derived.WalkSmall
import Derived.WalkLawsBesides
import Derived.WalkSpells
import Derived.BigGuardPart
import Derived.RegionTactic
import Derived.Deep.RegionHeld3
import Derived.Lib.Hide
import Derived.Deep.OwnRows
import Derived.Test.YtapcapcbndooiaaKnownH
import Derived.Test.YtapcapcbndooiaaMonP
import Derived.Test.YtapcapcbndooiaaNewK
import Derived.Test.YtapcapcbndooiaaSlot2
import Derived.Test.YtapcapcbndooiaaObject
import Derived.StillTailTactics
import Derived.Test.YtapcapcbndooiaaHeap
import Derived.Test.YtapcapcbndooiaaMon
import Derived.Maps.AppendAt
import Derived.Deep.AppendLies
import Derived.Below
namespace Go.Proofs.Ytapcapcbndooiaa
open Go.ChangeShapes Go.WideShapes Go.ChangeAt Go.RowKit
set_option linter.unusedVariables false
theorem tmod3 (a : Int) : -3 < a.tmod 3 ∧ a.tmod 3 < 3 := by
  have h1 : (a.tmod 3).natAbs = a.natAbs % 3 := by simp [Int.natAbs_tmod]
  omega
set_option maxRecDepth 1000000 in
set_option maxHeartbeats 8000000 in
theorem monitors_c (b0 off len cap : Nat) (zs : List Int) (w : World) (h2 : len ≤ 300) (hz : len ≤ zs.length)
    (hb : b0 < w.heap.size) (hc : ∀ j, j < len → w.cell? ⟨b0, off + j, none⟩ = some (.int .i64 (zs.getD j 0))) :
    Calls Try.prog 10 #[.slice (some ⟨b0, off, none⟩) len cap] w fun e w' => e = .returned (.bool true) ∧ Below w.heap.size w w' := by
  have HC := Lib.hid hc
  have HB := Lib.hid hb
  have dl : decide ((300 : Int) < (len : Int)) = false := decide_eq_false (by omega)
  clear hc
  go_enter Try.func10, Try.ntmps10
  go_wp2_with (first | (go_at_call 42; refine (known_h _).mono ?_; rintro e w1 ⟨rfl, hb1⟩; have HB1 := Lib.hid hb1; clear hb1) | (go_at_call 43; refine (new_p 100 _ (by omega) (by omega)).mono ?_; rintro e w2 ⟨h, rfl, hw, hh, c0, c1, c2, z1, z2, hb2⟩; have HB2 := Lib.hid (HB1.out.trans (hb2.mono HB1.out.size)); have hwh : w.heap.size ≤ h := Nat.le_trans HB1.out.size hw; clear hb2))
  refine (object_m h _ hh c0 c1 c2 z1 z2).mono ?_
  rintro e w3 ⟨ob, x, cp, rfl, hb3, hm⟩
  have HB3 := Lib.hid (HB2.out.trans (hb3.mono hwh))
  have HM0 := Lib.hid hm
  clear hb3 hm HB2 c0 c1 c2 z1 z2 hh
  go_wp2
  go_loopw [2, 5, 6, 7] (fun r o n i wr => r = .bool false ∧ ∃ (th ct ow : Int) (j : Nat), o = .int .i64 ow ∧ n = .int .i64 ct ∧ i = .int .i64 j ∧ 0 ≤ ct ∧ ct ≤ j ∧ j ≤ len ∧ Hid ((ct = 0 ∧ ow = -1) ∨ (0 < ct ∧ ow = th)) ∧ Hid (Mon wr h h ob x cp th ct) ∧ Hid (Below w.heap.size w wr)) (fun _ _ _ i _ => len - (intOf i).toNat)
  case atStart => exact ⟨rfl, 0, 0, -1, 0, rfl, rfl, rfl, by omega, by omega, by omega, Lib.hid (Or.inl ⟨rfl, rfl⟩), HM0, HB3⟩
  case round =>
    obtain ⟨rfl, th, ct, ow, j, rfl, rfl, rfl, l0, l1, hj, HOW, HM, HBr⟩ := hrel
    by_cases hlt : j < len
    · obtain ⟨z, HZ⟩ : ∃ z : Int, Hid (z = zs.getD j 0) := ⟨_, Lib.hid rfl⟩
      have hc0 := HC.out j hlt
      rw [← HZ.out] at hc0
      have hcx : wr.cell? ⟨b0, off + j, none⟩ = some (.int .i64 z) := (HBr.out.cell (p := ⟨b0, _, none⟩) HB.out).trans hc0
      clear hc0
      obtain ⟨b, hbz⟩ : ∃ b : Bool, (z.tmod 2 == 0) = b := ⟨_, rfl⟩
      have htr := tmod3 z
      by_cases hneg : z.tmod 3 < 0
      · obtain ⟨t, ht3, ht0⟩ : ∃ t : Int, z.tmod 3 = -t ∧ 0 < t := ⟨-(z.tmod 3), by omega, by omega⟩
        rw [ht3] at htr hneg
        have hn2 : -t < 0 := by omega
        by_cases hc0 : ct = 0
        · obtain rfl : ow = -1 := by have := HOW.out; omega
          subst hc0
          cases b with
          | true =>
            go_wp2_with (first | (go_at_call 48; refine (menter_0 h h ob x cp th t _ HM).mono ?_; rintro e w3 ⟨rfl, hm3, hb3⟩; have HM3 := Lib.hid hm3; have HB3 := Lib.hid (HBr.out.trans (hb3.mono hwh)); clear hm3 hb3) | (go_at_call 50; refine (mowner_p h h ob x cp t 1 _ (by omega) HM3).mono ?_; rintro e w4 ⟨rfl, hm4, hb4⟩; have HM4 := Lib.hid hm4; have HB4 := Lib.hid (HB3.out.trans (hb4.mono hwh)); clear hm4 hb4))
            go_roundw
            case rel => exact ⟨rfl, t, 1, t, j + 1, rfl, rfl, by go_num, by omega, by omega, by omega, Lib.hid (by omega), HM4, HB4⟩
            case measure => simp [intOf]; omega
          | false =>
            go_wp2_with (first | (go_at_call 49; refine (mexit_0 h h ob x cp th t _ HM).mono ?_; rintro e w3 ⟨rfl, hm3, hb3⟩; have HM3 := Lib.hid hm3; have HB3 := Lib.hid (HBr.out.trans (hb3.mono hwh)); clear hm3 hb3) | (go_at_call 50; refine (mowner_0 h h ob x cp th _ HM3).mono ?_; rintro e w4 ⟨rfl, hm4, hb4⟩; have HM4 := Lib.hid hm4; have HB4 := Lib.hid (HB3.out.trans (hb4.mono hwh)); clear hm4 hb4))
            go_roundw
            case rel => exact ⟨rfl, th, 0, (-1), j + 1, rfl, rfl, by go_num, by omega, by omega, by omega, Lib.hid (by omega), HM4, HB4⟩
            case measure => simp [intOf]; omega
        · have hct : 0 < ct := by omega
          have hcz : (ct == 0) = false := by simp; omega
          obtain rfl : ow = th := by have := HOW.out; omega
          by_cases ht : ow = t
          · subst ht
            cases b with
            | true =>
              go_wp2_with (first | (go_at_call 48; refine (menter_s h h ob x cp ct ow _ hct (by omega) HM).mono ?_; rintro e w3 ⟨rfl, hm3, hb3⟩; have HM3 := Lib.hid hm3; have HB3 := Lib.hid (HBr.out.trans (hb3.mono hwh)); clear hm3 hb3) | (go_at_call 50; refine (mowner_p h h ob x cp ow (ct + 1) _ (by omega) HM3).mono ?_; rintro e w4 ⟨rfl, hm4, hb4⟩; have HM4 := Lib.hid hm4; have HB4 := Lib.hid (HB3.out.trans (hb4.mono hwh)); clear hm4 hb4))
              go_roundw
              case rel => exact ⟨rfl, ow, (ct + 1), ow, j + 1, rfl, rfl, by go_num, by omega, by omega, by omega, Lib.hid (by omega), HM4, HB4⟩
              case measure => simp [intOf]; omega
            | false =>
              by_cases h1 : ct = 1
              · subst h1
                go_wp2_with (first | (go_at_call 49; refine (mexit_y h h ob x cp 1 ow _ (by omega) (by omega) HM).mono ?_; rintro e w3 ⟨rfl, hm3, hb3⟩; have HM3 := Lib.hid hm3; have HB3 := Lib.hid (HBr.out.trans (hb3.mono hwh)); clear hm3 hb3) | (go_at_call 50; refine (mowner_0 h h ob x cp ow _ HM3).mono ?_; rintro e w4 ⟨rfl, hm4, hb4⟩; have HM4 := Lib.hid hm4; have HB4 := Lib.hid (HB3.out.trans (hb4.mono hwh)); clear hm4 hb4))
                go_roundw
                case rel => exact ⟨rfl, ow, 0, (-1), j + 1, rfl, rfl, by go_num, by omega, by omega, by omega, Lib.hid (by omega), HM4, HB4⟩
                case measure => simp [intOf]; omega
              · have hc1 : (ct - 1 == 0) = false := by simp; omega
                have hc2 : 0 < ct - 1 := by omega
                go_wp2_with (first | (go_at_call 49; refine (mexit_y h h ob x cp ct ow _ hct (by omega) HM).mono ?_; rintro e w3 ⟨rfl, hm3, hb3⟩; have HM3 := Lib.hid hm3; have HB3 := Lib.hid (HBr.out.trans (hb3.mono hwh)); clear hm3 hb3) | (go_at_call 50; refine (mowner_p h h ob x cp ow (ct - 1) _ (by omega) HM3).mono ?_; rintro e w4 ⟨rfl, hm4, hb4⟩; have HM4 := Lib.hid hm4; have HB4 := Lib.hid (HB3.out.trans (hb4.mono hwh)); clear hm4 hb4))
                go_roundw
                case rel => exact ⟨rfl, ow, (ct - 1), ow, j + 1, rfl, rfl, by go_num, by omega, by omega, by omega, Lib.hid (by omega), HM4, HB4⟩
                case measure => simp [intOf]; omega
          · have hne : (ow == t) = false := by simpa using ht
            cases b with
            | true =>
              go_wp2_with (first | (go_at_call 48; refine (menter_n h h ob x cp ow ct t _ hct hne HM).mono ?_; rintro e w3 ⟨rfl, hm3, hb3⟩; have HM3 := Lib.hid hm3; have HB3 := Lib.hid (HBr.out.trans (hb3.mono hwh)); clear hm3 hb3) | (go_at_call 50; refine (mowner_p h h ob x cp ow ct _ (by omega) HM3).mono ?_; rintro e w4 ⟨rfl, hm4, hb4⟩; have HM4 := Lib.hid hm4; have HB4 := Lib.hid (HB3.out.trans (hb4.mono hwh)); clear hm4 hb4))
              go_roundw
              case rel => exact ⟨rfl, ow, ct, ow, j + 1, rfl, rfl, by go_num, by omega, by omega, by omega, Lib.hid (by omega), HM4, HB4⟩
              case measure => simp [intOf]; omega
            | false =>
              go_wp2_with (first | (go_at_call 49; refine (mexit_n h h ob x cp ow ct t _ hct hne HM).mono ?_; rintro e w3 ⟨rfl, hm3, hb3⟩; have HM3 := Lib.hid hm3; have HB3 := Lib.hid (HBr.out.trans (hb3.mono hwh)); clear hm3 hb3) | (go_at_call 50; refine (mowner_p h h ob x cp ow ct _ (by omega) HM3).mono ?_; rintro e w4 ⟨rfl, hm4, hb4⟩; have HM4 := Lib.hid hm4; have HB4 := Lib.hid (HB3.out.trans (hb4.mono hwh)); clear hm4 hb4))
              go_roundw
              case rel => exact ⟨rfl, ow, ct, ow, j + 1, rfl, rfl, by go_num, by omega, by omega, by omega, Lib.hid (by omega), HM4, HB4⟩
              case measure => simp [intOf]; omega
      · obtain ⟨t, ht3, ht0⟩ : ∃ t : Int, z.tmod 3 = t ∧ 0 ≤ t := ⟨(z.tmod 3), by omega, by omega⟩
        rw [ht3] at htr hneg
        by_cases hc0 : ct = 0
        · obtain rfl : ow = -1 := by have := HOW.out; omega
          subst hc0
          cases b with
          | true =>
            go_wp2_with (first | (go_at_call 48; refine (menter_0 h h ob x cp th t _ HM).mono ?_; rintro e w3 ⟨rfl, hm3, hb3⟩; have HM3 := Lib.hid hm3; have HB3 := Lib.hid (HBr.out.trans (hb3.mono hwh)); clear hm3 hb3) | (go_at_call 50; refine (mowner_p h h ob x cp t 1 _ (by omega) HM3).mono ?_; rintro e w4 ⟨rfl, hm4, hb4⟩; have HM4 := Lib.hid hm4; have HB4 := Lib.hid (HB3.out.trans (hb4.mono hwh)); clear hm4 hb4))
            go_roundw
            case rel => exact ⟨rfl, t, 1, t, j + 1, rfl, rfl, by go_num, by omega, by omega, by omega, Lib.hid (by omega), HM4, HB4⟩
            case measure => simp [intOf]; omega
          | false =>
            go_wp2_with (first | (go_at_call 49; refine (mexit_0 h h ob x cp th t _ HM).mono ?_; rintro e w3 ⟨rfl, hm3, hb3⟩; have HM3 := Lib.hid hm3; have HB3 := Lib.hid (HBr.out.trans (hb3.mono hwh)); clear hm3 hb3) | (go_at_call 50; refine (mowner_0 h h ob x cp th _ HM3).mono ?_; rintro e w4 ⟨rfl, hm4, hb4⟩; have HM4 := Lib.hid hm4; have HB4 := Lib.hid (HB3.out.trans (hb4.mono hwh)); clear hm4 hb4))
            go_roundw
            case rel => exact ⟨rfl, th, 0, (-1), j + 1, rfl, rfl, by go_num, by omega, by omega, by omega, Lib.hid (by omega), HM4, HB4⟩
            case measure => simp [intOf]; omega
        · have hct : 0 < ct := by omega
          have hcz : (ct == 0) = false := by simp; omega
          obtain rfl : ow = th := by have := HOW.out; omega
          by_cases ht : ow = t
          · subst ht
            cases b with
            | true =>
              go_wp2_with (first | (go_at_call 48; refine (menter_s h h ob x cp ct ow _ hct (by omega) HM).mono ?_; rintro e w3 ⟨rfl, hm3, hb3⟩; have HM3 := Lib.hid hm3; have HB3 := Lib.hid (HBr.out.trans (hb3.mono hwh)); clear hm3 hb3) | (go_at_call 50; refine (mowner_p h h ob x cp ow (ct + 1) _ (by omega) HM3).mono ?_; rintro e w4 ⟨rfl, hm4, hb4⟩; have HM4 := Lib.hid hm4; have HB4 := Lib.hid (HB3.out.trans (hb4.mono hwh)); clear hm4 hb4))
              go_roundw
              case rel => exact ⟨rfl, ow, (ct + 1), ow, j + 1, rfl, rfl, by go_num, by omega, by omega, by omega, Lib.hid (by omega), HM4, HB4⟩
              case measure => simp [intOf]; omega
            | false =>
              by_cases h1 : ct = 1
              · subst h1
                go_wp2_with (first | (go_at_call 49; refine (mexit_y h h ob x cp 1 ow _ (by omega) (by omega) HM).mono ?_; rintro e w3 ⟨rfl, hm3, hb3⟩; have HM3 := Lib.hid hm3; have HB3 := Lib.hid (HBr.out.trans (hb3.mono hwh)); clear hm3 hb3) | (go_at_call 50; refine (mowner_0 h h ob x cp ow _ HM3).mono ?_; rintro e w4 ⟨rfl, hm4, hb4⟩; have HM4 := Lib.hid hm4; have HB4 := Lib.hid (HB3.out.trans (hb4.mono hwh)); clear hm4 hb4))
                go_roundw
                case rel => exact ⟨rfl, ow, 0, (-1), j + 1, rfl, rfl, by go_num, by omega, by omega, by omega, Lib.hid (by omega), HM4, HB4⟩
                case measure => simp [intOf]; omega
              · have hc1 : (ct - 1 == 0) = false := by simp; omega
                have hc2 : 0 < ct - 1 := by omega
                go_wp2_with (first | (go_at_call 49; refine (mexit_y h h ob x cp ct ow _ hct (by omega) HM).mono ?_; rintro e w3 ⟨rfl, hm3, hb3⟩; have HM3 := Lib.hid hm3; have HB3 := Lib.hid (HBr.out.trans (hb3.mono hwh)); clear hm3 hb3) | (go_at_call 50; refine (mowner_p h h ob x cp ow (ct - 1) _ (by omega) HM3).mono ?_; rintro e w4 ⟨rfl, hm4, hb4⟩; have HM4 := Lib.hid hm4; have HB4 := Lib.hid (HB3.out.trans (hb4.mono hwh)); clear hm4 hb4))
                go_roundw
                case rel => exact ⟨rfl, ow, (ct - 1), ow, j + 1, rfl, rfl, by go_num, by omega, by omega, by omega, Lib.hid (by omega), HM4, HB4⟩
                case measure => simp [intOf]; omega
          · have hne : (ow == t) = false := by simpa using ht
            cases b with
            | true =>
              go_wp2_with (first | (go_at_call 48; refine (menter_n h h ob x cp ow ct t _ hct hne HM).mono ?_; rintro e w3 ⟨rfl, hm3, hb3⟩; have HM3 := Lib.hid hm3; have HB3 := Lib.hid (HBr.out.trans (hb3.mono hwh)); clear hm3 hb3) | (go_at_call 50; refine (mowner_p h h ob x cp ow ct _ (by omega) HM3).mono ?_; rintro e w4 ⟨rfl, hm4, hb4⟩; have HM4 := Lib.hid hm4; have HB4 := Lib.hid (HB3.out.trans (hb4.mono hwh)); clear hm4 hb4))
              go_roundw
              case rel => exact ⟨rfl, ow, ct, ow, j + 1, rfl, rfl, by go_num, by omega, by omega, by omega, Lib.hid (by omega), HM4, HB4⟩
              case measure => simp [intOf]; omega
            | false =>
              go_wp2_with (first | (go_at_call 49; refine (mexit_n h h ob x cp ow ct t _ hct hne HM).mono ?_; rintro e w3 ⟨rfl, hm3, hb3⟩; have HM3 := Lib.hid hm3; have HB3 := Lib.hid (HBr.out.trans (hb3.mono hwh)); clear hm3 hb3) | (go_at_call 50; refine (mowner_p h h ob x cp ow ct _ (by omega) HM3).mono ?_; rintro e w4 ⟨rfl, hm4, hb4⟩; have HM4 := Lib.hid hm4; have HB4 := Lib.hid (HB3.out.trans (hb4.mono hwh)); clear hm4 hb4))
              go_roundw
              case rel => exact ⟨rfl, ow, ct, ow, j + 1, rfl, rfl, by go_num, by omega, by omega, by omega, Lib.hid (by omega), HM4, HB4⟩
              case measure => simp [intOf]; omega
    · obtain rfl : j = len := by omega
      obtain ⟨_, e1, _⟩ := HM.out
      go_wp2_with (first | (go_at_call 48; refine (enter_2 h ob cp 0 _ e1).mono ?_; rintro e w' ⟨rfl, rfl⟩) | (go_at_call 49; refine (exit_none h ob cp 0 _ e1).mono ?_; rintro e w' ⟨rfl, rfl⟩))
      refine bodyPost_ret (v := .bool true) (by simp [results, Try.results10, go_sem]) rfl ⟨rfl, HBr.out⟩
end Go.Proofs.Ytapcapcbndooiaa
