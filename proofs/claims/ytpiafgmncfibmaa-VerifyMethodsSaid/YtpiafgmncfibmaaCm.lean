import Derived.Test.YtpiafgmncfibmaaCl
import Derived.Test.YtpiafgmncfibmaaRows
import Derived.WalkKit
import Derived.ProofKit
import Derived.OpenShut
import Derived.Deep.QuietTactic
import Derived.BigQuiet
import Derived.Outline
import Derived.WalkSmall
import Derived.WalkLawsBesides
import Derived.WalkSpells
import Derived.BigGuardPart
import Derived.RegionTactic
import Derived.Deep.RegionHeld3
import Derived.Lib.Hide
import Derived.Deep.MidRow
import Derived.Below
import Derived.Deep.RegionWith
import Derived.Deep.OwnRows
import Derived.Deep.AppendLies
namespace Go.Proofs.Ytpiafgmncfibmaa
open Go.ChangeShapes Go.WideShapes Go.ChangeAt Go.RowKit
set_option linter.unusedVariables false

/-- The first that is no 0. -/
def firstE (n : Nat) (E : Nat → Int) : Int := (((List.range n).map E).find? (fun x => x != 0)).getD 0
theorem firstE_succ (n : Nat) (E : Nat → Int) : firstE (n + 1) E = if firstE n E = 0 then E n else firstE n E := by
  unfold firstE
  rw [List.range_succ, List.map_append, List.find?_append]
  cases h : ((List.range n).map E).find? (fun x => x != 0) with
  | none =>
    by_cases h0 : E n = 0 <;> simp [h0]
  | some v =>
    have := List.find?_some h
    simp only [bne_iff_ne, ne_eq] at this
    simp [this]
theorem firstE_zero {n : Nat} {E : Nat → Int} (h : ∀ i, i < n → E i = 0) : firstE n E = 0 := by
  induction n with
  | zero => rfl
  | succ n ih => rw [firstE_succ, if_pos (ih fun i hi => h i (by omega)), h n (by omega)]
theorem firstE_at {n : Nat} {E : Nat → Int} (k : Nat) (hk : k < n) (h : ∀ i, i < k → E i = 0) (hE : E k ≠ 0) : firstE n E = E k := by
  induction n with
  | zero => omega
  | succ n ih =>
    rw [firstE_succ]
    by_cases hkn : k = n
    · subst hkn
      rw [if_pos (firstE_zero h)]
    · rw [ih (by omega), if_neg hE]
def Pg.err (P : Pg) (i : Nat) : Int := chkM (P.pn i) (P.rt i) (P.ln i) (P.sk i) (P.cn i)
def Pg.manyF (P : Pg) : Bool := anyN P.nc (fun i => decide (50 < P.nf i))
def Pg.wrongF (P : Pg) : Bool := anyN P.nc (fun i => (anyN (P.nf i) (fun j => (!isTB (P.ft i j)))))
def Pg.wrongT (P : Pg) : Bool := anyN P.nm (fun i => (wrongM (P.pn i) (P.pt i) (P.ln i) (P.lt i)))
def Pg.first (P : Pg) : Bool := decide (P.pn 0 = 0 ∧ P.rt 0 = 0)
def Pg.chk (P : Pg) : Int :=
  if 200 < P.np then 2 else if 50 < P.nc then 2 else if P.manyF = true then 2 else if 100 < P.nm then 2 else if P.nm = 0 then 3
  else if firstE P.nm P.err ≠ 0 then firstE P.nm P.err
  else if P.wrongF = true then 1 else if P.wrongT = true then 1 else if P.first = false then 1 else 0

theorem chkm_e (a0 : Option Addr) (n0 c0 : Nat) (r : Int) (a1 : Option Addr) (n1 c1 : Nat) (s : Int) (a2 : Option Addr) (n2 c2 : Nat) (E : Int) (w : World) (h0 : n0 ≤ Big) (h1 : n1 ≤ Big) (h : chkM n0 r n1 s n2 = E) :
    Calls Try.prog 37 #[.agg #[.slice a0 n0 c0, .int .i64 r, .slice a1 n1 c1, .int .i64 s, .slice a2 n2 c2]] w fun e w' => e = .returned (.int .i64 E) ∧ Below w.heap.size w w' := h ▸ chkm_c a0 n0 c0 r a1 n1 c1 s a2 n2 c2 w h0 h1
section
variable (P : Pg) (q1 : ¬ 200 < P.np) (q2 : ¬ 50 < P.nc) (q3 : anyN P.nc (fun i => decide (50 < P.nf i)) = false) (q4 : ¬ 100 < P.nm) (q5 : ¬ P.nm = 0)
theorem chk_a (h : 200 < P.np) : P.chk = 2 := by unfold Pg.chk; rw [if_pos h]
include q1
theorem chk_b (h : 50 < P.nc) : P.chk = 2 := by unfold Pg.chk; rw [if_neg q1, if_pos h]
include q2
theorem chk_c (h : anyN P.nc (fun i => decide (50 < P.nf i)) = true) : P.chk = 2 := by unfold Pg.chk; rw [if_neg q1, if_neg q2, if_pos (show P.manyF = true from h)]
include q3
theorem chk_d (h : 100 < P.nm) : P.chk = 2 := by unfold Pg.chk; rw [if_neg q1, if_neg q2, if_neg (show ¬ P.manyF = true by unfold Pg.manyF; rw [q3]; decide), if_pos h]
include q4
theorem chk_e (h : P.nm = 0) : P.chk = 3 := by unfold Pg.chk; rw [if_neg q1, if_neg q2, if_neg (show ¬ P.manyF = true by unfold Pg.manyF; rw [q3]; decide), if_neg q4, if_pos h]
include q5
theorem chk_f (h : firstE P.nm P.err ≠ 0) : P.chk = firstE P.nm P.err := by unfold Pg.chk; rw [if_neg q1, if_neg q2, if_neg (show ¬ P.manyF = true by unfold Pg.manyF; rw [q3]; decide), if_neg q4, if_neg q5, if_pos h]
theorem chk_g (h : firstE P.nm P.err = 0) : P.chk = if P.wrongF = true then 1 else if P.wrongT = true then 1 else if P.first = false then 1 else 0 := by unfold Pg.chk; rw [if_neg q1, if_neg q2, if_neg (show ¬ P.manyF = true by unfold Pg.manyF; rw [q3]; decide), if_neg q4, if_neg q5, if_neg (by rw [h]; exact fun e => e rfl)]
end

set_option maxRecDepth 100000 in
set_option maxHeartbeats 4000000 in
theorem check_c (P : Pg) (A : Ad) (w : World) (h : PgAt w P A) (hf : Fits P A) :
    Calls Try.prog 16 #[.agg (P.cells A)] w fun e w' => e = .returned (.int .i64 P.chk) ∧ Below w.heap.size w w' := by
  have hX : ∃ X, P.chk = X := ⟨_, rfl⟩
  obtain ⟨X, hX⟩ := hX
  rw [hX]
  obtain ⟨pa, pc, ca, cc, ma, mc, fa, fc, ppa, ppc, lla, llc, cda, cdc⟩ := A
  obtain ⟨np, po, nc, nf, ft, fv, nm, pn, pt, rt, ln, lt, sk, cn, cd⟩ := P
  have hnp : np ≤ Big := hf.np
  have hnc : nc ≤ Big := hf.nc
  have hnm : nm ≤ Big := hf.nm
  have HX := Lib.hid hX
  have HK : Hid (Row1 w ca nc (fun i => .slice (fa i) (nf i) (fc i))) := Lib.hid h.k
  have HN : Hid (∀ i, i < nc → nf i ≤ Big ∧ Row2 w (fa i) (nf i) (fun j => .int .i64 (ft i j)) (fun j => .bool (fv i j))) := Lib.hid fun i hi => ⟨hf.nf i hi, h.f i hi⟩
  have HM : Hid (Row5 w ma nm (fun i => .slice (ppa i) (pn i) (ppc i)) (fun i => .int .i64 (rt i)) (fun i => .slice (lla i) (ln i) (llc i)) (fun i => .int .i64 (sk i)) (fun i => .slice (cda i) (cn i) (cdc i))) := Lib.hid h.m
  have HT : Hid (∀ i, i < nm → (pn i ≤ Big ∧ ln i ≤ Big) ∧ Row1 w (ppa i) (pn i) (fun j => .int .i64 (pt i j)) ∧ Row1 w (lla i) (ln i) (fun j => .int .i64 (lt i j))) := Lib.hid fun i hi => ⟨⟨hf.pn i hi, hf.ln i hi⟩, h.a i hi, h.l i hi⟩
  have HA : Hid (Below w.heap.size w (w.alloc (.cells #[.slice pa np pc, .slice ca nc cc, .slice ma nm mc] 26))) := Lib.hid ((Below.refl _ _).alloc (Nat.le_refl _) _)
  clear hf h hX
  show Calls Try.prog 16 #[.agg #[.slice pa np pc, .slice ca nc cc, .slice ma nm mc]] w _
  unfold Big at hnp hnc hnm
  by_cases q1 : 200 < np
  · obtain rfl : 2 = X := (chk_a _ q1).symm.trans HX.out
    have d1 : decide ((200 : Int) < (np : Int)) = true := decide_eq_true (by omega)
    go_enter Try.func16, Try.ntmps16
    go_wp2
    go_ret
    exact ⟨rfl, HA.out⟩
  have d1 : decide ((200 : Int) < (np : Int)) = false := decide_eq_false (by omega)
  by_cases q2 : 50 < nc
  · obtain rfl : 2 = X := (chk_b _ q1 q2).symm.trans HX.out
    have d2 : decide ((50 : Int) < (nc : Int)) = true := decide_eq_true (by omega)
    go_enter Try.func16, Try.ntmps16
    go_wp2
    go_ret
    exact ⟨rfl, HA.out⟩
  have d2 : decide ((50 : Int) < (nc : Int)) = false := decide_eq_false (by omega)
  cases q3 : anyN nc (fun i => decide (50 < nf i)) with
  | true =>
    obtain rfl : 2 = X := (chk_c _ q1 q2 q3).symm.trans HX.out
    have H3 := Lib.hid q3
    clear q3
    go_enter Try.func16, Try.ntmps16
    go_wp2_with (first | (go_at_call 35; refine (cf_mn ca nc cc fa nf fc _ (by unfold Big; omega) (Row1.kept HK.out (Kept.of HA.out)) true H3.out).mono ?_; rintro e w1 ⟨rfl, hb⟩; have hz : w.heap.size < w1.heap.size := by (have := hb.size; simp at this; omega)))
    go_ret
    exact ⟨rfl, HA.out.trans (hb.mono (by simp))⟩
  | false =>
  have H3 := Lib.hid q3
  by_cases q4 : 100 < nm
  · obtain rfl : 2 = X := (chk_d _ q1 q2 q3 q4).symm.trans HX.out
    have d4 : decide ((100 : Int) < (nm : Int)) = true := decide_eq_true (by omega)
    clear q3
    go_enter Try.func16, Try.ntmps16
    go_wp2_with fail
    refine (cf_mn ca nc cc fa nf fc _ (by unfold Big; omega) (Row1.kept HK.out (Kept.of HA.out)) false H3.out).mono ?_
    rintro e w1 ⟨rfl, hb⟩
    have e2 : w1.cell? ⟨w.heap.size, 2, none⟩ = some (.slice ma nm mc) := by rw [hb.cell (p := ⟨w.heap.size, 2, none⟩) (by simp)]; simp [go_sem]
    have HB := Lib.hid (HA.out.trans (hb.mono (by simp)))
    clear hb
    go_wp2
    go_ret
    exact ⟨rfl, HB.out⟩
  have d4 : decide ((100 : Int) < (nm : Int)) = false := decide_eq_false (by omega)
  by_cases q5 : nm = 0
  · obtain rfl : 3 = X := (chk_e _ q1 q2 q3 q4 q5).symm.trans HX.out
    subst q5
    clear q3
    go_enter Try.func16, Try.ntmps16
    go_wp2_with fail
    refine (cf_mn ca nc cc fa nf fc _ (by unfold Big; omega) (Row1.kept HK.out (Kept.of HA.out)) false H3.out).mono ?_
    rintro e w1 ⟨rfl, hb⟩
    have e2 : w1.cell? ⟨w.heap.size, 2, none⟩ = some (.slice ma 0 mc) := by rw [hb.cell (p := ⟨w.heap.size, 2, none⟩) (by simp)]; simp [go_sem]
    have HB := Lib.hid (HA.out.trans (hb.mono (by simp)))
    clear hb
    go_wp2
    go_ret
    exact ⟨rfl, HB.out⟩
  have d5 : ((nm : Int) == 0) = false := by simpa using q5
  have HCH := Lib.hid (chk_f ⟨np, po, nc, nf, ft, fv, nm, pn, pt, rt, ln, lt, sk, cn, cd⟩ q1 q2 q3 q4 q5)
  have HCG := Lib.hid (chk_g ⟨np, po, nc, nf, ft, fv, nm, pn, pt, rt, ln, lt, sk, cn, cd⟩ q1 q2 q3 q4 q5)
  have hnm0 : 0 < nm := by omega
  clear q3 q5
  go_enter Try.func16, Try.ntmps16
  go_wp2_with fail
  refine (cf_mn ca nc cc fa nf fc _ (by unfold Big; omega) (Row1.kept HK.out (Kept.of HA.out)) false H3.out).mono ?_
  rintro e w1 ⟨rfl, hb⟩
  have HB0 : Hid (Below (w.heap.size + 1) (w.alloc (.cells #[.slice pa np pc, .slice ca nc cc, .slice ma nm mc] 26)) w1) := Lib.hid (hb.mono (by simp))
  have HB := Lib.hid (HA.out.trans (hb.mono (by simp)))
  have e2 : w1.cell? ⟨w.heap.size, 2, none⟩ = some (.slice ma nm mc) := by rw [hb.cell (p := ⟨w.heap.size, 2, none⟩) (by simp)]; simp [go_sem]
  clear hb
  go_wp2
  go_loopw [34, 4, 5] (fun i _ _ wr => ∃ j : Nat, j ≤ nm ∧ i = .int .i64 j ∧ Hid (∀ i, i < j → Pg.err ⟨np, po, nc, nf, ft, fv, nm, pn, pt, rt, ln, lt, sk, cn, cd⟩ i = 0) ∧ Hid (Below (w.heap.size + 1) (w.alloc (.cells #[.slice pa np pc, .slice ca nc cc, .slice ma nm mc] 26)) wr)) (fun i _ _ _ => nm - (intOf i).toNat)
  case atStart => exact ⟨0, by omega, rfl, Lib.hid (fun i hi => by omega), HB0⟩
  case round =>
    clear e2
    obtain ⟨j, hj, rfl, HZ, HQ⟩ := hrel
    have HY := Lib.hid (HA.out.trans (HQ.out.mono (by omega)))
    have hzs : w.heap.size < wr.heap.size := by have := HQ.out.size; simp at this; omega
    have g1 : wr.cell? ⟨w.heap.size, 1, none⟩ = some (.slice ca nc cc) := by rw [HQ.out.cell (p := ⟨w.heap.size, 1, none⟩) (by simp)]; simp [go_sem]
    have g2 : wr.cell? ⟨w.heap.size, 2, none⟩ = some (.slice ma nm mc) := by rw [HQ.out.cell (p := ⟨w.heap.size, 2, none⟩) (by simp)]; simp [go_sem]
    by_cases hjn : j < nm
    · have gj : (j : Int) < nm := by omega
      rcases Row5.kept HM.out (Kept.of HY.out) with h0 | ⟨b, o, rfl, hb, hc⟩
      · exact absurd h0 (by omega)
      obtain ⟨c0, c1, c2, c3, c4⟩ := hc j hjn
      clear hc
      obtain ⟨E, hE⟩ : ∃ E, chkM (pn j) (rt j) (ln j) (sk j) (cn j) = E := ⟨_, rfl⟩
      have HE := Lib.hid hE
      clear hE
      by_cases hE0 : E = 0
      · subst hE0
        go_wp2_with (first | (go_at_call 37; refine (chkm_e _ _ _ _ _ _ _ _ _ _ _ 0 _ (HT.out j hjn).1.1 (HT.out j hjn).1.2 HE.out).mono ?_; rintro e w2 ⟨rfl, hb2⟩; have HB2 := Lib.hid (HQ.out.trans ((((Below.refl _ _).alloc (Nat.le_refl _) _).trans (hb2.mono (by simp))).mono (by omega))); clear hb2))
        exact ⟨⟨j + 1, by omega, by go_num, Lib.hid (fun i hi => (Nat.lt_or_ge i j).elim (fun h => HZ.out i h) (fun h => (show i = j by omega) ▸ HE.out)), HB2⟩, by simp [intOf]; omega⟩
      · have dE : (E != 0) = true := by simpa using hE0
        obtain rfl : E = X := by
          have h1 := firstE_at (n := nm) (E := Pg.err ⟨np, po, nc, nf, ft, fv, nm, pn, pt, rt, ln, lt, sk, cn, cd⟩) j hjn HZ.out (by show chkM _ _ _ _ _ ≠ 0; rw [HE.out]; exact hE0)
          have h2 := HCH.out (by show firstE nm _ ≠ 0; rw [h1]; show chkM _ _ _ _ _ ≠ 0; rw [HE.out]; exact hE0)
          rw [← HX.out, h2]
          exact HE.out.symm.trans h1.symm
        go_wp2_with (first | (go_at_call 37; refine (chkm_e _ _ _ _ _ _ _ _ _ _ _ E _ (HT.out j hjn).1.1 (HT.out j hjn).1.2 HE.out).mono ?_; rintro e w2 ⟨rfl, hb2⟩; have HB2 := Lib.hid (HQ.out.trans ((((Below.refl _ _).alloc (Nat.le_refl _) _).trans (hb2.mono (by simp))).mono (by omega))); clear hb2))
        go_ret
        exact ⟨rfl, HA.out.trans (HB2.out.mono (by omega))⟩
    · have hjn' : nm = j := by omega
      subst hjn'
      have hv := (HCG.out (firstE_zero HZ.out)).symm.trans HX.out
      clear HZ hjn
      cases q6 : Pg.wrongF ⟨np, po, nc, nf, ft, fv, nm, pn, pt, rt, ln, lt, sk, cn, cd⟩ with
      | true =>
        rw [q6, if_pos rfl] at hv
        subst hv
        have H6 := Lib.hid q6
        clear q6
        go_wp2_with (first | (go_at_call 35; refine (cf_wf ca nc cc fa nf fc ft fv _ (by unfold Big; omega) ⟨Row1.kept HK.out (Kept.of HY.out), fun i hi => ⟨(HN.out i hi).1, Row2.kept (HN.out i hi).2 (Kept.of HY.out)⟩⟩ true H6.out).mono ?_; rintro e w2 ⟨rfl, hb2⟩; have HB2 := Lib.hid (HY.out.trans (hb2.mono HY.out.size)); clear hb2))
        go_ret
        exact ⟨rfl, HB2.out⟩
      | false =>
      rw [q6, if_neg (by decide)] at hv
      have H6 := Lib.hid q6
      clear q6
      cases q7 : Pg.wrongT ⟨np, po, nc, nf, ft, fv, nm, pn, pt, rt, ln, lt, sk, cn, cd⟩ with
      | true =>
        rw [q7, if_pos rfl] at hv
        subst hv
        have H7 := Lib.hid q7
        clear q7
        go_wp2_with fail
        refine (cf_wf ca nc cc fa nf fc ft fv _ (by unfold Big; omega) ⟨Row1.kept HK.out (Kept.of HY.out), fun i hi => ⟨(HN.out i hi).1, Row2.kept (HN.out i hi).2 (Kept.of HY.out)⟩⟩ false H6.out).mono ?_
        rintro e w2 ⟨rfl, hb2⟩
        have HB2 := Lib.hid (HY.out.trans (hb2.mono HY.out.size))
        have k2 : w2.cell? ⟨w.heap.size, 2, none⟩ = some (.slice ma nm mc) := (hb2.cell (p := ⟨w.heap.size, 2, none⟩) hzs).trans g2
        have hz2 : w.heap.size < w2.heap.size := Nat.lt_of_lt_of_le hzs hb2.size
        clear hb2
        go_wp2_with fail
        refine (cf_wm ma nm mc ppa pn ppc rt lla ln llc sk cda cn cdc pt lt _ (by unfold Big; omega) ⟨Row5.kept HM.out (Kept.of HB2.out), fun i hi => ⟨(HT.out i hi).1, Row1.kept (HT.out i hi).2.1 (Kept.of HB2.out), Row1.kept (HT.out i hi).2.2 (Kept.of HB2.out)⟩⟩ true H7.out).mono ?_
        rintro e w3 ⟨rfl, hb3⟩
        have HB3 := Lib.hid (HB2.out.trans (hb3.mono HB2.out.size))
        clear hb3
        go_wp2
        go_ret
        exact ⟨rfl, HB3.out⟩
      | false =>
      rw [q7, if_neg (by decide)] at hv
      have H7 := Lib.hid q7
      clear q7
      rcases HM.out with h0 | ⟨b, o, rfl, hb, hc⟩
      · subst h0
        simp at d5
      have HC0 := Lib.hid (hc 0 (by have : nm ≠ 0 := by rintro rfl; simp at d5
                                    omega))
      clear hc
      cases q8 : Pg.first ⟨np, po, nc, nf, ft, fv, nm, pn, pt, rt, ln, lt, sk, cn, cd⟩ with
      | true =>
        rw [q8, if_neg (by decide)] at hv
        subst hv
        have H8 : Hid (decide (pn 0 = 0 ∧ rt 0 = 0) = _) := Lib.hid q8
        clear q8
        go_wp2_with fail
        refine (cf_wf ca nc cc fa nf fc ft fv _ (by unfold Big; omega) ⟨Row1.kept HK.out (Kept.of HY.out), fun i hi => ⟨(HN.out i hi).1, Row2.kept (HN.out i hi).2 (Kept.of HY.out)⟩⟩ false H6.out).mono ?_
        rintro e w2 ⟨rfl, hb2⟩
        have HB2 := Lib.hid (HY.out.trans (hb2.mono HY.out.size))
        have k2 : w2.cell? ⟨w.heap.size, 2, none⟩ = some (.slice (some ⟨b, o, none⟩) nm mc) := (hb2.cell (p := ⟨w.heap.size, 2, none⟩) hzs).trans g2
        have hz2 : w.heap.size < w2.heap.size := Nat.lt_of_lt_of_le hzs hb2.size
        clear hb2
        go_wp2_with fail
        refine (cf_wm (some ⟨b, o, none⟩) nm mc ppa pn ppc rt lla ln llc sk cda cn cdc pt lt _ (by unfold Big; omega) ⟨Row5.kept HM.out (Kept.of HB2.out), fun i hi => ⟨(HT.out i hi).1, Row1.kept (HT.out i hi).2.1 (Kept.of HB2.out), Row1.kept (HT.out i hi).2.2 (Kept.of HB2.out)⟩⟩ false H7.out).mono ?_
        rintro e w3 ⟨rfl, hb3⟩
        have HB3 := Lib.hid (HB2.out.trans (hb3.mono HB2.out.size))
        have k3 : w3.cell? ⟨w.heap.size, 2, none⟩ = some (.slice (some ⟨b, o, none⟩) nm mc) := (hb3.cell (p := ⟨w.heap.size, 2, none⟩) hz2).trans k2
        clear hb3
        obtain ⟨c0, c1, c2, c3, c4⟩ := HC0.out
        rw [← (Kept.of HB3.out).2 b hb] at c0 c1 c2 c3 c4
        simp only [Nat.zero_mul, Nat.add_zero] at c0 c1 c2 c3 c4
        go_wp2_with fail
        refine (first_c _ _ _ _ _ _ _ _ _ _ _ true _ H8.out).mono ?_
        rintro e w4 ⟨rfl, hb4⟩
        have HB4 := Lib.hid (HB3.out.trans (hb4.mono HB3.out.size))
        clear hb4
        go_wp2
        go_ret
        exact ⟨rfl, HB4.out⟩
      | false =>
        rw [q8, if_pos rfl] at hv
        subst hv
        have H8 : Hid (decide (pn 0 = 0 ∧ rt 0 = 0) = _) := Lib.hid q8
        clear q8
        go_wp2_with fail
        refine (cf_wf ca nc cc fa nf fc ft fv _ (by unfold Big; omega) ⟨Row1.kept HK.out (Kept.of HY.out), fun i hi => ⟨(HN.out i hi).1, Row2.kept (HN.out i hi).2 (Kept.of HY.out)⟩⟩ false H6.out).mono ?_
        rintro e w2 ⟨rfl, hb2⟩
        have HB2 := Lib.hid (HY.out.trans (hb2.mono HY.out.size))
        have k2 : w2.cell? ⟨w.heap.size, 2, none⟩ = some (.slice (some ⟨b, o, none⟩) nm mc) := (hb2.cell (p := ⟨w.heap.size, 2, none⟩) hzs).trans g2
        have hz2 : w.heap.size < w2.heap.size := Nat.lt_of_lt_of_le hzs hb2.size
        clear hb2
        go_wp2_with fail
        refine (cf_wm (some ⟨b, o, none⟩) nm mc ppa pn ppc rt lla ln llc sk cda cn cdc pt lt _ (by unfold Big; omega) ⟨Row5.kept HM.out (Kept.of HB2.out), fun i hi => ⟨(HT.out i hi).1, Row1.kept (HT.out i hi).2.1 (Kept.of HB2.out), Row1.kept (HT.out i hi).2.2 (Kept.of HB2.out)⟩⟩ false H7.out).mono ?_
        rintro e w3 ⟨rfl, hb3⟩
        have HB3 := Lib.hid (HB2.out.trans (hb3.mono HB2.out.size))
        have k3 : w3.cell? ⟨w.heap.size, 2, none⟩ = some (.slice (some ⟨b, o, none⟩) nm mc) := (hb3.cell (p := ⟨w.heap.size, 2, none⟩) hz2).trans k2
        clear hb3
        obtain ⟨c0, c1, c2, c3, c4⟩ := HC0.out
        rw [← (Kept.of HB3.out).2 b hb] at c0 c1 c2 c3 c4
        simp only [Nat.zero_mul, Nat.add_zero] at c0 c1 c2 c3 c4
        go_wp2_with fail
        refine (first_c _ _ _ _ _ _ _ _ _ _ _ false _ H8.out).mono ?_
        rintro e w4 ⟨rfl, hb4⟩
        have HB4 := Lib.hid (HB3.out.trans (hb4.mono HB3.out.size))
        clear hb4
        go_wp2
        go_ret
        exact ⟨rfl, HB4.out⟩
end Go.Proofs.Ytpiafgmncfibmaa
