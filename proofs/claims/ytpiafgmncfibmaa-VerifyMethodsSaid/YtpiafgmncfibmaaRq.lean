import Derived.Test.YtpiafgmncfibmaaRc
import Derived.Test.YtpiafgmncfibmaaFw
import Derived.Test.YtpiafgmncfibmaaRows
import Derived.WalkKit
import Derived.ProofKit
import Derived.OpenShut
import Derived.Deep.QuietTactic
import Derived.BigQuiet
import Derived.Outline
import Derived.WalkSmall
import Derived.WalkLawsBesides
import Derived.WalkSpells
import Derived.BigGuardPart
import Derived.RegionTactic
import Derived.Deep.RegionHeld3
import Derived.Lib.Hide
import Derived.Deep.MidRow
import Derived.Below
import Derived.Deep.RegionWith
import Derived.Deep.OwnRows
import Derived.Deep.AppendLies
namespace Go.Proofs.Ytpiafgmncfibmaa
open Go.ChangeShapes Go.WideShapes Go.ChangeAt Go.RowKit
set_option linter.unusedVariables false

theorem bool_false_of_ne {b : Bool} (h : ¬ b = true) : b = false := by cases b with | true => exact absurd rfl h | false => rfl
set_option maxRecDepth 100000 in
set_option maxHeartbeats 4000000 in
theorem refcheck_c (P : Pg) (A : Ad) (w : World) (h : PgAt w P A) (hf : Fits P A) :
    Calls Try.prog 17 #[.agg (P.cells A)] w fun e w' => e = .returned (.int .i64 P.chk) ∧ Below w.heap.size w w' := by
  obtain ⟨X, hX⟩ : ∃ X, P.chk = X := ⟨_, rfl⟩
  rw [hX]
  have HX := Lib.hid (box_cells w P A)
  have HA : Hid (Below w.heap.size w (w.alloc (.cells (P.cells A) 26))) := Lib.hid ((Below.refl _ _).alloc (Nat.le_refl _) _)
  have HP := Lib.hid h
  have hnp := hf.np
  have hnc := hf.nc
  have hnm := hf.nm
  have HF := Lib.hid hf
  have HE := Lib.hid hX
  clear h hf hX
  obtain ⟨pa, pc, ca, cc, ma, mc, fa, fc, ppa, ppc, lla, llc, cda, cdc⟩ := A
  obtain ⟨np, po, nc, nf, ft, fv, nm, pn, pt, rt, ln, lt, sk, cn, cd⟩ := P
  unfold Big at hnp hnc hnm
  dsimp only at hnp hnc hnm
  show Calls Try.prog 17 #[.agg #[.slice pa np pc, .slice ca nc cc, .slice ma nm mc]] w _
  have B0 : Hid (Below (w.heap.size + 1) (w.alloc (.cells #[.slice pa np pc, .slice ca nc cc, .slice ma nm mc] 26)) (w.alloc (.cells #[.slice pa np pc, .slice ca nc cc, .slice ma nm mc] 26))) := Lib.hid (Below.refl _ _)
  by_cases q1 : 200 < np
  · obtain rfl : 2 = X := (chk_a _ q1).symm.trans HE.out
    have d1 : decide ((200 : Int) < (np : Int)) = true := decide_eq_true (by omega)
    go_enter Try.func17, Try.ntmps17
    go_wp2
    go_ret
    exact ⟨rfl, HA.out⟩
  have d1 : decide ((200 : Int) < (np : Int)) = false := decide_eq_false (by omega)
  by_cases q2 : 50 < nc
  · obtain rfl : 2 = X := (chk_b _ q1 q2).symm.trans HE.out
    have d2 : decide ((50 : Int) < (nc : Int)) = true := decide_eq_true (by omega)
    go_enter Try.func17, Try.ntmps17
    go_wp2
    go_ret
    exact ⟨rfl, HA.out⟩
  have d2 : decide ((50 : Int) < (nc : Int)) = false := decide_eq_false (by omega)
  go_enter Try.func17, Try.ntmps17
  go_wp2
  go_loop [3] (fun ix => ∃ i : Nat, i ≤ nc ∧ ix = .int .i64 i ∧ Hid (∀ k, k < i → decide (50 < nf k) = false)) (fun ix => nc - (intOf ix).toNat)
  case atStart => exact ⟨0, by omega, rfl, Lib.hid fun k hk => absurd hk (Nat.not_lt_zero k)⟩
  case round =>
    obtain ⟨i, hi, rfl, HL⟩ := hrel
    obtain ⟨e0, e1, e2⟩ := HX.out _ B0.out
    by_cases hin : i < nc
    · have gi : (i : Int) < nc := by omega
      rcases (show Row1 (w.alloc (.cells #[.slice pa np pc, .slice ca nc cc, .slice ma nm mc] 26)) ca nc (fun i => .slice (fa i) (nf i) (fc i)) from Row1.kept HP.out.k (Kept.of HA.out)) with h0 | ⟨b, o, rfl, hb, hc⟩
      · exact absurd h0 (by omega)
      have c0 : World.cell? _ ⟨b, o + i, none⟩ = some (.slice (fa i) (nf i) (fc i)) := hc i hin
      clear hc
      by_cases hm : 50 < nf i
      · obtain rfl : 2 = X := (chk_c _ q1 q2 (anyN_of i hin (decide_eq_true hm))).symm.trans HE.out
        have dm : decide ((50 : Int) < (nf i : Int)) = true := decide_eq_true (by omega)
        go_wp2
        go_ret
        exact ⟨rfl, HA.out⟩
      · have dm : decide ((50 : Int) < (nf i : Int)) = false := decide_eq_false (by omega)
        go_wp2
        go_round
        case rel => exact ⟨i + 1, by omega, by go_num, Lib.hid (forall_snoc HL.out (decide_eq_false hm))⟩
        case measure => simp [intOf]; omega
    · have hni : nc = i := by omega
      subst hni
      have q3 := Lib.hid (anyN_false HL.out)
      clear HL
      by_cases q4 : 100 < nm
      · obtain rfl : 2 = X := (chk_d _ q1 q2 q3.out q4).symm.trans HE.out
        have d4 : decide ((100 : Int) < (nm : Int)) = true := decide_eq_true (by omega)
        go_wp2
        go_ret
        exact ⟨rfl, HA.out⟩
      have d4 : decide ((100 : Int) < (nm : Int)) = false := decide_eq_false (by omega)
      by_cases q5 : nm = 0
      · obtain rfl : 3 = X := (chk_e _ q1 q2 q3.out q4 q5).symm.trans HE.out
        subst q5
        go_wp2
        go_ret
        exact ⟨rfl, HA.out⟩
      have d5 : ((nm : Int) == 0) = false := by simpa using q5
      have HCF := Lib.hid (chk_f ⟨np, po, nc, nf, ft, fv, nm, pn, pt, rt, ln, lt, sk, cn, cd⟩ q1 q2 q3.out q4 q5)
      have HCG := Lib.hid (chk_g ⟨np, po, nc, nf, ft, fv, nm, pn, pt, rt, ln, lt, sk, cn, cd⟩ q1 q2 q3.out q4 q5)
      have hnm0 : 0 < nm := by omega
      go_wp2
      clear e0 e1 e2 d1 d2 d4 d5 q3 q5
      go_loopw [4] (fun ix wr => ∃ i : Nat, i ≤ nm ∧ ix = .int .i64 i ∧ Hid (∀ k, k < i → Pg.err ⟨np, po, nc, nf, ft, fv, nm, pn, pt, rt, ln, lt, sk, cn, cd⟩ k = 0) ∧ Hid (Below (w.heap.size + 1) (w.alloc (.cells #[.slice pa np pc, .slice ca nc cc, .slice ma nm mc] 26)) wr)) (fun ix _ => nm - (intOf ix).toNat)
      case atStart => exact ⟨0, by omega, rfl, Lib.hid fun k hk => absurd hk (Nat.not_lt_zero k), B0⟩
      case round =>
        obtain ⟨j, hj, rfl, HL, HQ⟩ := hrel
        have hq : w.heap.size + 1 ≤ wr.heap.size := by (have := HQ.out.size; simpa using this)
        obtain ⟨e0, e1, e2⟩ := HX.out _ HQ.out
        by_cases hjn : j < nm
        · have gj : (j : Int) < nm := by omega
          rcases (show Row5 wr ma nm (fun i => .slice (ppa i) (pn i) (ppc i)) (fun i => .int .i64 (rt i)) (fun i => .slice (lla i) (ln i) (llc i)) (fun i => .int .i64 (sk i)) (fun i => .slice (cda i) (cn i) (cdc i)) from Row5.kept HP.out.m (Kept.of (HA.out.trans (HQ.out.mono (by omega))))) with h0 | ⟨b, o, rfl, hb, hc⟩
          · exact absurd h0 (by omega)
          obtain ⟨c0, c1, c2, c3, c4⟩ := hc j hjn
          clear hc
          dsimp only at c0 c1 c2 c3 c4
          obtain ⟨E, hE⟩ : ∃ E, chkM (pn j) (rt j) (ln j) (sk j) (cn j) = E := ⟨_, rfl⟩
          have HEr : Hid (Pg.err ⟨np, po, nc, nf, ft, fv, nm, pn, pt, rt, ln, lt, sk, cn, cd⟩ j = E) := Lib.hid hE
          have HE2 := Lib.hid hE
          clear hE
          by_cases hE0 : E = 0
          · subst hE0
            go_wp2_with (first | (go_at_call 42; refine (rmth_c _ _ _ _ _ _ _ _ _ _ _ _ (HF.out.pn j hjn) (HF.out.ln j hjn)).mono ?_; rintro e w2 ⟨rfl, hb2⟩; rw [HE2.out]; have HQ2 := Lib.hid (HQ.out.trans (hb2.mono (by omega))); have hq2 := hb2.size; clear hb2))
            exact ⟨⟨j + 1, by omega, by go_num, Lib.hid (forall_snoc HL.out HEr.out), HQ2⟩, by simp [intOf]; omega⟩
          · have dE : (E != 0) = true := by simpa using hE0
            have hz : firstE nm (Pg.err ⟨np, po, nc, nf, ft, fv, nm, pn, pt, rt, ln, lt, sk, cn, cd⟩) = E := (firstE_at j hjn HL.out (by rw [HEr.out]; exact hE0)).trans HEr.out
            obtain rfl : E = X := hz.symm.trans ((HCF.out (by show firstE nm (Pg.err ⟨np, po, nc, nf, ft, fv, nm, pn, pt, rt, ln, lt, sk, cn, cd⟩) ≠ 0; rw [hz]; exact hE0)).symm.trans HE.out)
            clear hz
            go_wp2_with (first | (go_at_call 42; refine (rmth_c _ _ _ _ _ _ _ _ _ _ _ _ (HF.out.pn j hjn) (HF.out.ln j hjn)).mono ?_; rintro e w2 ⟨rfl, hb2⟩; rw [HE2.out]; have HQ2 := Lib.hid (HQ.out.trans (hb2.mono (by omega))); have hq2 := hb2.size; clear hb2))
            go_ret
            exact ⟨rfl, HA.out.trans (HQ2.out.mono (by omega))⟩
        · have hnj : nm = j := by omega
          subst hnj
          have HC1 : Hid (X = if Pg.wrongF ⟨np, po, nc, nf, ft, fv, nm, pn, pt, rt, ln, lt, sk, cn, cd⟩ = true then 1 else if Pg.wrongT ⟨np, po, nc, nf, ft, fv, nm, pn, pt, rt, ln, lt, sk, cn, cd⟩ = true then 1 else if Pg.first ⟨np, po, nc, nf, ft, fv, nm, pn, pt, rt, ln, lt, sk, cn, cd⟩ = false then 1 else 0) := Lib.hid (HE.out.symm.trans (HCG.out (firstE_zero HL.out)))
          clear HL HCF HCG
          go_wp2
          clear e0 e1 e2
          go_loop [6] (fun ix => ∃ i : Nat, i ≤ nc ∧ ix = .int .i64 i ∧ Hid (∀ k, k < i → anyN (nf k) (fun j => !isTB (ft k j)) = false)) (fun ix => nc - (intOf ix).toNat)
          case atStart => exact ⟨0, by omega, rfl, Lib.hid fun k hk => absurd hk (Nat.not_lt_zero k)⟩
          case round =>
            obtain ⟨i, hi, rfl, HL⟩ := hrel
            obtain ⟨e0, e1, e2⟩ := HX.out _ HQ.out
            by_cases hin : i < nc
            · have gi : (i : Int) < nc := by omega
              rcases (show Row1 wr ca nc (fun i => .slice (fa i) (nf i) (fc i)) from Row1.kept HP.out.k (Kept.of (HA.out.trans (HQ.out.mono (by omega))))) with h0 | ⟨b, o, rfl, hb, hc⟩
              · exact absurd h0 (by omega)
              have c0 : wr.cell? ⟨b, o + i, none⟩ = some (.slice (fa i) (nf i) (fc i)) := hc i hin
              clear hc
              have hnf := HF.out.nf i hin
              unfold Big at hnf
              dsimp only at hnf
              go_wp2
              clear e0 e1 e2
              go_loop [7] (fun ix => ∃ j : Nat, j ≤ nf i ∧ ix = .int .i64 j ∧ Hid (∀ k, k < j → (!isTB (ft i k)) = false)) (fun ix => nf i - (intOf ix).toNat)
              case atStart => exact ⟨0, by omega, rfl, Lib.hid fun k hk => absurd hk (Nat.not_lt_zero k)⟩
              case round =>
                obtain ⟨j, hj, rfl, HM⟩ := hrel
                obtain ⟨e0, e1, e2⟩ := HX.out _ HQ.out
                by_cases hjn : j < nf i
                · have gj : (j : Int) < nf i := by omega
                  rcases (show Row2 wr (fa i) (nf i) (fun j => .int .i64 (ft i j)) (fun j => .bool (fv i j)) from Row2.kept (HP.out.f i hin) (Kept.of (HA.out.trans (HQ.out.mono (by omega))))) with h0 | ⟨b', o', hfa, hb', hc⟩
                  · exact absurd h0 (by omega)
                  obtain ⟨k0, k1⟩ := hc j hjn
                  clear hc
                  dsimp only at k0 k1
                  rw [hfa] at c0
                  cases ht : isTB (ft i j) with
                  | true =>
                    have HT := Lib.hid ht
                    clear ht hfa
                    go_wp2_with (first | (go_at_call 43; refine (rvalue_c _ _).mono ?_; rintro e w' ⟨rfl, rfl⟩; rw [HT.out]))
                    go_round
                    case rel => exact ⟨j + 1, by omega, by go_num, Lib.hid (forall_snoc HM.out (by rw [HT.out]; rfl))⟩
                    case measure => simp [intOf]; omega
                  | false =>
                    obtain rfl : 1 = X := by
                      rw [HC1.out, if_pos]
                      show anyN nc _ = true
                      exact anyN_of i hin (anyN_of j hjn (by dsimp only; rw [ht]; rfl))
                    have HT := Lib.hid ht
                    clear ht hfa
                    go_wp2_with (first | (go_at_call 43; refine (rvalue_c _ _).mono ?_; rintro e w' ⟨rfl, rfl⟩; rw [HT.out]))
                    go_ret
                    exact ⟨rfl, HA.out.trans (HQ.out.mono (by omega))⟩
                · have hj2 : j = nf i := by omega
                  subst hj2
                  have HL2 := Lib.hid (forall_snoc HL.out (anyN_false HM.out))
                  clear HM
                  go_wp2
                  go_round
                  case rel => exact ⟨i + 1, by omega, by go_num, HL2⟩
                  case measure => simp [intOf]; omega
            · have hni : nc = i := by omega
              subst hni
              have HC2 : Hid (X = if Pg.wrongT ⟨np, po, nc, nf, ft, fv, nm, pn, pt, rt, ln, lt, sk, cn, cd⟩ = true then 1 else if Pg.first ⟨np, po, nc, nf, ft, fv, nm, pn, pt, rt, ln, lt, sk, cn, cd⟩ = false then 1 else 0) := Lib.hid (by rw [HC1.out, if_neg]; show ¬ anyN nc _ = true; rw [anyN_false HL.out]; decide)
              clear HL HC1
              go_wp2
              clear e0 e1 e2
              go_loop [8] (fun ix => ∃ i : Nat, i ≤ nm ∧ ix = .int .i64 i ∧ Hid (∀ k, k < i → wrongM (pn k) (pt k) (ln k) (lt k) = false)) (fun ix => nm - (intOf ix).toNat)
              case atStart => exact ⟨0, by omega, rfl, Lib.hid fun k hk => absurd hk (Nat.not_lt_zero k)⟩
              case round =>
                obtain ⟨j, hj, rfl, HL⟩ := hrel
                obtain ⟨e0, e1, e2⟩ := HX.out _ HQ.out
                have HM5 : Hid (Row5 wr ma nm (fun i => .slice (ppa i) (pn i) (ppc i)) (fun i => .int .i64 (rt i)) (fun i => .slice (lla i) (ln i) (llc i)) (fun i => .int .i64 (sk i)) (fun i => .slice (cda i) (cn i) (cdc i))) := Lib.hid (Row5.kept HP.out.m (Kept.of (HA.out.trans (HQ.out.mono (by omega)))))
                by_cases hjn : j < nm
                · have gj : (j : Int) < nm := by omega
                  rcases HM5.out with h0 | ⟨b, o, rfl, hb, hc⟩
                  · exact absurd h0 (by omega)
                  obtain ⟨c0, c1, c2, c3, c4⟩ := hc j hjn
                  clear hc c1 c3 c4
                  dsimp only at c0 c2
                  have HRa : Hid (Row1 wr (ppa j) (pn j) (fun k => .int .i64 (pt j k))) := Lib.hid (Row1.kept (HP.out.a j hjn) (Kept.of (HA.out.trans (HQ.out.mono (by omega)))))
                  have HRl : Hid (Row1 wr (lla j) (ln j) (fun k => .int .i64 (lt j k))) := Lib.hid (Row1.kept (HP.out.l j hjn) (Kept.of (HA.out.trans (HQ.out.mono (by omega)))))
                  have HBa := Lib.hid (HF.out.pn j hjn)
                  have HBl := Lib.hid (HF.out.ln j hjn)
                  cases ha : anyN (pn j) (fun k => !isTB (pt j k)) with
                  | true =>
                    obtain rfl : 1 = X := by
                      rw [HC2.out, if_pos]
                      show anyN nm _ = true
                      exact anyN_of j hjn (by unfold wrongM; dsimp only; rw [ha]; rfl)
                    have HTa := Lib.hid ha
                    clear ha
                    go_wp2_with (first | (go_at_call 44; refine (rvalues_c _ _ _ (pt j) _ HBa.out HRa.out true HTa.out).mono ?_; rintro e w' ⟨rfl, rfl⟩))
                    go_ret
                    exact ⟨rfl, HA.out.trans (HQ.out.mono (by omega))⟩
                  | false =>
                    have HTa := Lib.hid ha
                    cases hl : anyN (ln j) (fun k => !isTB (lt j k)) with
                    | true =>
                      obtain rfl : 1 = X := by
                        rw [HC2.out, if_pos]
                        show anyN nm _ = true
                        exact anyN_of j hjn (by unfold wrongM; dsimp only; rw [hl, Bool.or_true])
                      have HTl := Lib.hid hl
                      clear ha hl
                      go_wp2_with fail
                      refine (rvalues_c _ _ _ (pt j) _ HBa.out HRa.out false HTa.out).mono ?_
                      rintro e w' ⟨rfl, rfl⟩
                      go_wp2_with (first | (go_at_call 44; refine (rvalues_c _ _ _ (lt j) _ HBl.out HRl.out true HTl.out).mono ?_; rintro e w' ⟨rfl, rfl⟩))
                      go_ret
                      exact ⟨rfl, HA.out.trans (HQ.out.mono (by omega))⟩
                    | false =>
                      have HTl := Lib.hid hl
                      have HL2 : Hid (∀ k, k < j + 1 → wrongM (pn k) (pt k) (ln k) (lt k) = false) := Lib.hid (forall_snoc HL.out (by unfold wrongM; rw [ha, hl]; rfl))
                      clear ha hl HL
                      go_wp2_with fail
                      refine (rvalues_c _ _ _ (pt j) _ HBa.out HRa.out false HTa.out).mono ?_
                      rintro e w' ⟨rfl, rfl⟩
                      go_wp2_with (first | (go_at_call 44; refine (rvalues_c _ _ _ (lt j) _ HBl.out HRl.out false HTl.out).mono ?_; rintro e w' ⟨rfl, rfl⟩))
                      go_round
                      case rel => exact ⟨j + 1, by omega, by go_num, HL2⟩
                      case measure => simp [intOf]; omega
                · have hnj : nm = j := by omega
                  subst hnj
                  have HC3 : Hid (X = if Pg.first ⟨np, po, nc, nf, ft, fv, nm, pn, pt, rt, ln, lt, sk, cn, cd⟩ = false then 1 else 0) := Lib.hid (by rw [HC2.out, if_neg]; show ¬ anyN nm _ = true; rw [anyN_false HL.out]; decide)
                  clear HL HC2
                  rcases HM5.out with h0 | ⟨b, o, rfl, hb, hc⟩
                  · exact absurd h0 (by omega)
                  obtain ⟨c0, c1, c2, c3, c4⟩ := hc 0 hnm0
                  clear hc c2 c3 c4
                  dsimp only at c0 c1
                  simp only [Nat.zero_mul, Nat.add_zero] at c0 c1
                  by_cases z1 : 0 < pn 0
                  · obtain rfl : 1 = X := by
                      rw [HC3.out, if_pos]
                      show decide _ = false
                      exact decide_eq_false (by dsimp only; omega)
                    have dz : decide ((0 : Int) < (pn 0 : Int)) = true := decide_eq_true (by omega)
                    go_wp2
                    go_ret
                    exact ⟨rfl, HA.out.trans (HQ.out.mono (by omega))⟩
                  have dz : decide ((0 : Int) < (pn 0 : Int)) = false := decide_eq_false (by omega)
                  by_cases z2 : rt 0 = 0
                  · obtain rfl : 0 = X := by
                      rw [HC3.out, if_neg]
                      show ¬ decide _ = false
                      rw [decide_eq_true (by dsimp only; omega)]
                      decide
                    have dy : (rt 0 != 0) = false := by simpa using z2
                    clear z2
                    go_wp2
                    go_ret
                    exact ⟨rfl, HA.out.trans (HQ.out.mono (by omega))⟩
                  · obtain rfl : 1 = X := by
                      rw [HC3.out, if_pos]
                      show decide _ = false
                      exact decide_eq_false (by dsimp only; omega)
                    have dy : (rt 0 != 0) = true := by simpa using z2
                    go_wp2
                    go_ret
                    exact ⟨rfl, HA.out.trans (HQ.out.mono (by omega))⟩
end Go.Proofs.Ytpiafgmncfibmaa
