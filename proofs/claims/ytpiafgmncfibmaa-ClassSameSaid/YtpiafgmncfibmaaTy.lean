import Derived.Deep.CutBlock
import Derived.Deep.DeepCutAuto
import Derived.Deep.DrawnRows
import Derived.Test.YtpiafgmncfibmaaTz
import Derived.Test.YtpiafgmncfibmaaCc
import Derived.Test.YtpiafgmncfibmaaRows
import Derived.WalkKit
import Derived.ProofKit
import Derived.OpenShut
import Derived.Deep.QuietTactic
import Derived.BigQuiet
import Derived.Outline
import Derived.WalkSmall
import Derived.WalkLawsBesides
import Derived.WalkSpells
import Derived.BigGuardPart
import Derived.RegionTactic
import Derived.Deep.RegionHeld3
import Derived.Lib.Hide
import Derived.Deep.MidRow
import Derived.Below
import Derived.Deep.RegionWith
import Derived.Deep.OwnRows
import Derived.Deep.AppendLies
import Derived.Deep.RegionLaw
namespace Go.Proofs.Ytpiafgmncfibmaa
open Go.ChangeShapes Go.WideShapes Go.ChangeAt Go.RowKit
set_option linter.unusedVariables false

attribute [local go_sem ↓] Go.wp_at_zero Go.wp_at_succ
set_option maxRecDepth 100000 in
set_option maxHeartbeats 4000000 in
theorem twin_c (P : Pg) (A : Ad) (w : World) (h : PgAt w P A) (hf : FitsB P) :
    Calls Try.prog 21 #[.agg (P.cells A)] w fun e w' => ∃ A', e = .returned (.agg (P.cells A')) ∧ PgOwn w.heap.size w' P A' ∧ Below w.heap.size w w' := by
  have HX := Lib.hid (box_cells w P A)
  have HA : Hid (Below w.heap.size w (w.alloc (.cells (P.cells A) 26))) := Lib.hid ((Below.refl _ _).alloc (Nat.le_refl _) _)
  have HP : Hid (∀ V, Below (w.heap.size + 1) (w.alloc (.cells (P.cells A) 26)) V → PgAt V P A ∧ Below w.heap.size w V) := Lib.hid fun V hb => (have hB := HA.out.trans (hb.mono (by omega)); ⟨h.kept (Kept.of hB), hB⟩)
  have HF := Lib.hid hf
  have hnc := hf.nc
  have hnm := hf.nm
  clear h hf
  obtain ⟨pa, pc, ca, cc, ma, mc, fa, fc, ppa, ppc, lla, llc, cda, cdc⟩ := A
  obtain ⟨np, po, nc, nf, ft, fv, nm, pn, pt, rt, ln, lt, sk, cn, cd⟩ := P
  unfold Big at hnc hnm
  dsimp only at hnc hnm
  show Calls Try.prog 21 #[.agg #[.slice pa np pc, .slice ca nc cc, .slice ma nm mc]] w _
  obtain ⟨W0, hW0⟩ : ∃ W, W = w.alloc (.cells #[.slice pa np pc, .slice ca nc cc, .slice ma nm mc] 26) := ⟨_, rfl⟩
  have hsz : W0.heap.size = w.heap.size + 1 := by rw [hW0]; simp
  replace HX : Hid (∀ w', Below (w.heap.size + 1) W0 w' → w'.cell? ⟨w.heap.size, 0, none⟩ = some (.slice pa np pc) ∧ w'.cell? ⟨w.heap.size, 1, none⟩ = some (.slice ca nc cc) ∧ w'.cell? ⟨w.heap.size, 2, none⟩ = some (.slice ma nm mc)) := by rw [hW0]; exact HX
  replace HP : Hid (∀ V, Below (w.heap.size + 1) W0 V → PgAt V ⟨np, po, nc, nf, ft, fv, nm, pn, pt, rt, ln, lt, sk, cn, cd⟩ ⟨pa, pc, ca, cc, ma, mc, fa, fc, ppa, ppc, lla, llc, cda, cdc⟩ ∧ Below w.heap.size w V) := by rw [hW0]; exact HP
  obtain ⟨W1, hW1⟩ : ∃ W, W = W0.alloc (.cells #[.slice none 0 0, .slice none 0 0, .slice none 0 0] 26) := ⟨_, rfl⟩
  have hsz1 : W1.heap.size = w.heap.size + 1 + 1 := by rw [hW1]; simp [hsz]
  have HB1 : Hid (Below (w.heap.size + 1) W0 W1) := Lib.hid (by rw [hW1, ← hsz]; exact (Below.refl _ _).alloc (Nat.le_refl _) _)
  have HR1 : Hid (BoxT W1 (w.heap.size + 1) #[.slice none 0 0, .slice none 0 0, .slice none 0 0] 26) := Lib.hid (by rw [hW1, ← hsz]; exact heap_alloc_new _ _)
  have HW : Hid (W1 = (w.alloc (.cells #[.slice pa np pc, .slice ca nc cc, .slice ma nm mc] 26)).alloc (.cells #[.slice none 0 0, .slice none 0 0, .slice none 0 0] 26)) := Lib.hid (by rw [hW1, hW0])
  have HS1 := Lib.hid hsz1
  have HS0 : Hid (w.heap.size + 1 ≤ W0.heap.size) := Lib.hid (by omega)
  clear hW0 hW1 hsz hsz1
  go_enter Try.func21, Try.ntmps21
  go_wp2_with fail
  rw [← HW.out]
  refine (clone51_c pa np pc po W1 HF.out.np (HP.out W1 HB1.out).1.p).mono ?_
  rintro e w2 ⟨pa', pc', rfl, hown, hb⟩
  have HB2 : Hid (Below (w.heap.size + 1) W0 w2) := Lib.hid (HB1.out.trans (hb.mono (by have := HS1.out; omega)))
  have HR2 : Hid (BoxT w2 (w.heap.size + 1) #[.slice none 0 0, .slice none 0 0, .slice none 0 0] 26) := Lib.hid (HR1.out.keep (.below hb))
  have hz2 : w.heap.size + 2 ≤ w2.heap.size := by have := hb.size; have := HS1.out; omega
  have HO2 := Lib.hid (own_mono hown (show w.heap.size + 2 ≤ W1.heap.size by have := HS1.out; omega))
  clear hb hown
  obtain ⟨QB, hQB⟩ : ∃ b, b = w2.heap.size := ⟨_, rfl⟩
  obtain ⟨W3, hW3⟩ : ∃ W, W = w2.alloc (.cells #[.slice pa' np pc', .slice none 0 0, .slice none 0 0] 26) := ⟨_, rfl⟩
  have HB3 : Hid (Below (w.heap.size + 1) W0 W3) := Lib.hid (by rw [hW3]; exact HB2.out.alloc (by omega) _)
  have HR3 : Hid (BoxT W3 (w.heap.size + 1) #[.slice none 0 0, .slice none 0 0, .slice none 0 0] 26) := Lib.hid (HR2.out.keep (by rw [hW3]; exact .alloc _ _))
  have HQ3 : Hid (TwC (w.heap.size + 2) W3 QB ⟨np, po, nc, nf, ft, fv, nm, pn, pt, rt, ln, lt, sk, cn, cd⟩ pa' pc' 0 (.slice none 0 0) (fun _ => none) (fun _ => 0)) := Lib.hid (by
    rw [hW3, hQB]
    exact ⟨own_keep HO2.out (.alloc _ _), heap_alloc_new _ _, ⟨rfl, .inl ⟨rfl, rfl⟩⟩, fun k hk => absurd hk (Nat.not_lt_zero k)⟩)
  obtain ⟨e0, e1, e2⟩ := HX.out W3 HB3.out
  have HW3 : Hid (W3 = w2.alloc (.cells #[.slice pa' np pc', .slice none 0 0, .slice none 0 0] 26)) := Lib.hid hW3
  have HQB := Lib.hid hQB
  have hqb : w.heap.size + 2 ≤ QB := by omega
  clear hW3 hQB
  clear e0 e1 e2
  obtain ⟨_, m1, _⟩ := HX.out (w2.alloc (.cells #[.slice pa' np pc', .slice none 0 0, .slice none 0 0] 26)) (by rw [← HW3.out]; exact HB3.out)
  go_wp2
  rw [← HW3.out, ← HQB.out]
  clear m1
  have HLo : Hid (∀ V : World, QB < V.heap.size → w.heap.size + 2 ≤ V.heap.size) := Lib.hid fun V hV => by omega
  go_loopw [15, 5] (fun ix _ wr => ∃ (i : Nat) (V : Value) (fa' : Nat → Option Addr) (fc' : Nat → Nat), i ≤ nc ∧ ix = .int .i64 i ∧ Hid (TwC (w.heap.size + 2) wr QB ⟨np, po, nc, nf, ft, fv, nm, pn, pt, rt, ln, lt, sk, cn, cd⟩ pa' pc' i V fa' fc' ∧ BoxT wr (w.heap.size + 1) #[.slice none 0 0, .slice none 0 0, .slice none 0 0] 26 ∧ Below (w.heap.size + 1) W0 wr)) (fun ix _ _ => nc - (intOf ix).toNat)
  case atStart => exact ⟨0, _, _, _, by omega, rfl, Lib.hid ⟨HQ3.out, HR3.out, HB3.out⟩⟩
  case round =>
    obtain ⟨i, V, fa', fc', hi, rfl, HQ⟩ := hrel
    by_cases hin : i < nc
    · have gi : (i : Int) < nc := by omega
      rcases (show Row1 wr ca nc (fun i => .slice (fa i) (nf i) (fc i)) from (HP.out _ HQ.out.2.2).1.k) with h0 | ⟨b, o, rfl, hb, hc⟩
      · exact absurd h0 (by omega)
      have c0 : wr.cell? ⟨b, o + i, none⟩ = some (.slice (fa i) (nf i) (fc i)) := hc i hin
      clear hc
      have q1 : wr.cell? ⟨QB, 1, none⟩ = some V := HQ.out.1.2.1.cell 1
      have q1f : wr.frozen? ⟨QB, 1, none⟩ = false := rowAt_frz HQ.out.1.2.1.row 1
      go_wp2
      obtain ⟨i0, ii, iz0, iz1, iz2⟩ := info_parts info45x
      have HOV : Hid (∀ V', Below wr.drew.heap.size wr.drew V' → V'.ownsRow (w.heap.size + 2) 45 1 V i (els1 i fun k => .slice (fa' k) (nf k) (fc' k)) ∧ w.heap.size + 2 ≤ V'.heap.size) := Lib.hid fun V' hb => ⟨own_keep (own_keep HQ.out.1.2.2.1 (.drew _)) (.below hb), by have h1 := hb.size; have h2 := HQ.out.1.2.1.lt; have h3 : wr.drew.heap.size = wr.heap.size := rfl; omega⟩
      have HC52 : Hid (Calls Try.prog 52 #[.slice (fa i) (nf i) (fc i)] wr.drew (CloneR 47 2 (nf i) (els2 (nf i) (fun j => .int .i64 (ft i j)) (fun j => .bool (fv i j))) wr.drew)) := Lib.hid (clone52_c (fa i) (nf i) (fc i) (ft i) (fv i) wr.drew (HF.out.nf i hin) ((HP.out _ HQ.out.2.2.drew).1.f i hin))
      have HBQ : Hid (∀ V', Below wr.drew.heap.size wr.drew V' → V'.cell? ⟨QB, 1, none⟩ = some V ∧ V'.frozen? ⟨QB, 1, none⟩ = false) := Lib.hid fun V' hb => ⟨(BoxT.keep (BoxT.keep HQ.out.1.2.1 (.drew _)) (.below hb)).cell 1, rowAt_frz (BoxT.keep (BoxT.keep HQ.out.1.2.1 (.drew _)) (.below hb)).row 1⟩
      go_region_law (first | (go_simp; go_at_call 52; refine HC52.out.mono ?_; rintro e w4 ⟨ga, gc, rfl, hown, hb4⟩; obtain ⟨hq, hqf⟩ := HBQ.out w4 hb4; obtain ⟨hqa, _⟩ := HBQ.out (w4.alloc (.cells #[.slice ga (nf i) gc] 45)) (hb4.alloc hb4.size _); have HB4 := Lib.hid hb4; have HO4 := Lib.hid hown; have HV4 := Lib.hid (HOV.out w4 hb4); clear hown hb4) | (refine step_append_lies _ (by rfl) (.tmp 20) (.tmp 23) 23 (by rfl) (w.heap.size + 2) 45 i0 _ 1 24 Try.underlying23 ii iz0 iz1 iz2 rfl (by decide) V i (els1 i fun k => .slice (fa' k) (nf k) (fc' k)) (by rfl) (own_keep HV4.out.1 (.alloc _ _)) ⟨w4.heap.size, 0, none⟩ 1 1 [.slice ga (nf i) gc] (by rfl) (by rfl) (World.news_of_block (cs := #[.slice ga (nf i) gc]) (t := 45) (fr := (0, 0)) (heap_alloc_new w4 _)) (by simp [Value.oneCell']) (by omega) (by unfold maxLen; omega) (by omega) (by have := HV4.out.2; simp; omega) (w4.heap.size + 1) (by simp) ?_; intro gg cap5 w5 hown5 hgrow hat hlt5; have HG5 := Lib.hid hgrow; have HO5 := Lib.hid hown5; have h5c : w5.cell? ⟨QB, 1, none⟩ = some V := (tw_box5 HQ.out.1.2.1 HB4.out HV4.out.1 hgrow).cell 1; have h5f : w5.frozen? ⟨QB, 1, none⟩ = false := rowAt_frz (tw_box5 HQ.out.1.2.1 HB4.out HV4.out.1 hgrow).row 1; clear hown5 hgrow hat hlt5))
      all_goals
        have hlo := HLo.out wr HQ.out.1.2.1.lt
        have HZ := Lib.hid (tw_step HQ.out HB4.out HO4.out HG5.out HO5.out (by omega) (by omega) (by omega) hlo HS0.out)
        clear HG5 HO5 HO4 HB4 HV4 h5c h5f hq hqf hqa HOV HC52 HBQ hlo c0 q1 q1f
        go_wp2
        obtain ⟨fa2, fc2, hz⟩ := HZ.out
        exact ⟨⟨i + 1, _, fa2, fc2, by omega, by go_num, Lib.hid hz⟩, by simp [intOf]; omega⟩
    · have hni : nc = i := by omega
      subst hni
      obtain ⟨ca', cc', rfl⟩ := own_slice HQ.out.1.2.2.1
      obtain ⟨A0, hA0⟩ : ∃ A0 : Ad, A0 = ⟨pa', pc', ca', cc', none, 0, fa', fc', fun _ => none, fun _ => 0, fun _ => none, fun _ => 0, fun _ => none, fun _ => 0⟩ := ⟨_, rfl⟩
      have HM0 : Hid (TwM (w.heap.size + 2) wr QB ⟨np, po, nc, nf, ft, fv, nm, pn, pt, rt, ln, lt, sk, cn, cd⟩ A0 0 (.slice none 0 0)) := Lib.hid (by
        subst hA0
        exact ⟨⟨HQ.out.1.1, HQ.out.1.2.1, HQ.out.1.2.2.1, HQ.out.1.2.2.2⟩, ⟨rfl, .inl ⟨rfl, rfl⟩⟩, fun k hk => absurd hk (Nat.not_lt_zero k)⟩)
      have HQr := Lib.hid HQ.out.2
      clear hA0 HQ HQ3 HR3 HB3 hi
      obtain ⟨_, _, e2⟩ := HX.out wr HQr.out.2
      go_wp2
      clear e2
      go_loopw [30, 7] (fun ix _ wr => ∃ (j : Nat) (V : Value) (A' : Ad), j ≤ nm ∧ ix = .int .i64 j ∧ Hid (TwM (w.heap.size + 2) wr QB ⟨np, po, nc, nf, ft, fv, nm, pn, pt, rt, ln, lt, sk, cn, cd⟩ A' j V ∧ BoxT wr (w.heap.size + 1) #[.slice none 0 0, .slice none 0 0, .slice none 0 0] 26 ∧ Below (w.heap.size + 1) W0 wr)) (fun ix _ _ => nm - (intOf ix).toNat)
      case atStart => exact ⟨0, _, A0, by omega, rfl, Lib.hid ⟨HM0.out, HQr.out⟩⟩
      case round =>
        clear HM0 HQr
        obtain ⟨j, V, A', hj, rfl, HQ⟩ := hrel
        by_cases hjn : j < nm
        · have gj : (j : Int) < nm := by omega
          rcases (show Row5 wr ma nm (fun i => .slice (ppa i) (pn i) (ppc i)) (fun i => .int .i64 (rt i)) (fun i => .slice (lla i) (ln i) (llc i)) (fun i => .int .i64 (sk i)) (fun i => .slice (cda i) (cn i) (cdc i)) from (HP.out _ HQ.out.2.2).1.m) with h0 | ⟨b, o, rfl, hb, hc⟩
          · exact absurd h0 (by omega)
          obtain ⟨c0, c1, c2, c3, c4⟩ := hc j hjn
          clear hc
          dsimp only at c0 c1 c2 c3 c4
          have hlo := HLo.out wr HQ.out.1.1.2.1.lt
          obtain ⟨Wd, hWd⟩ : ∃ W, W = (wr.alloc (.cells #[.slice (ppa j) (pn j) (ppc j), .int .i64 (rt j), .slice (lla j) (ln j) (llc j), .int .i64 (sk j), .slice (cda j) (cn j) (cdc j)] 50)).drew := ⟨_, rfl⟩
          have hBd : Below (w.heap.size + 1) W0 Wd := by rw [hWd]; exact (HQ.out.2.2.alloc (by omega) _).drew
          have hMd : BoxT Wd wr.heap.size #[.slice (ppa j) (pn j) (ppc j), .int .i64 (rt j), .slice (lla j) (ln j) (llc j), .int .i64 (sk j), .slice (cda j) (cn j) (cdc j)] 50 := by rw [hWd]; exact BoxT.keep (show BoxT (wr.alloc _) wr.heap.size _ 50 from heap_alloc_new _ _) (.drew _)
          have hsd : Wd.heap.size = wr.heap.size + 1 := by rw [hWd]; exact size_drew_alloc _ _
          have HC0 : Hid (∀ V, Below Wd.heap.size Wd V → Calls Try.prog 53 #[.slice (ppa j) (pn j) (ppc j)] V (CloneR 3 1 (pn j) (els1 (pn j) fun i => .int .i64 (pt j i)) V)) := Lib.hid fun V hV => clone53_c _ _ _ (pt j) V (HF.out.pn j hjn) ((HP.out _ (hBd.trans (hV.mono (by omega)))).1.a j hjn)
          have HC1 : Hid (∀ V, Below Wd.heap.size Wd V → Calls Try.prog 53 #[.slice (lla j) (ln j) (llc j)] V (CloneR 3 1 (ln j) (els1 (ln j) fun i => .int .i64 (lt j i)) V)) := Lib.hid fun V hV => clone53_c _ _ _ (lt j) V (HF.out.ln j hjn) ((HP.out _ (hBd.trans (hV.mono (by omega)))).1.l j hjn)
          have HC2 : Hid (∀ V, Below Wd.heap.size Wd V → Calls Try.prog 54 #[.slice (cda j) (cn j) (cdc j)] V (CloneR 5 1 (cn j) (els1 (cn j) fun i => .int .u8 (cd j i : Nat)) V)) := Lib.hid fun V hV => clone54_c _ _ _ (fun i => (cd j i : Nat)) V (HF.out.cn j hjn) ((HP.out _ (hBd.trans (hV.mono (by omega)))).1.d j hjn)
          have HMB : Hid (∀ V, Below Wd.heap.size Wd V → (V.cell? ⟨wr.heap.size, 0, none⟩ = some (.slice (ppa j) (pn j) (ppc j)) ∧ V.cell? ⟨wr.heap.size, 1, none⟩ = some (.int .i64 (rt j)) ∧ V.cell? ⟨wr.heap.size, 2, none⟩ = some (.slice (lla j) (ln j) (llc j)) ∧ V.cell? ⟨wr.heap.size, 3, none⟩ = some (.int .i64 (sk j)) ∧ V.cell? ⟨wr.heap.size, 4, none⟩ = some (.slice (cda j) (cn j) (cdc j))) ∧ ∀ k, V.frozen? ⟨wr.heap.size, k, none⟩ = false) := Lib.hid fun V hV => (have hm := hMd.keep (.below hV); ⟨⟨hm.cell 0, hm.cell 1, hm.cell 2, hm.cell 3, hm.cell 4⟩, fun k => rowAt_frz hm.row k⟩)
          have HWd : Hid (Wd = (wr.alloc (.cells #[.slice (ppa j) (pn j) (ppc j), .int .i64 (rt j), .slice (lla j) (ln j) (llc j), .int .i64 (sk j), .slice (cda j) (cn j) (cdc j)] 50)).drew) := Lib.hid hWd
          have HMd := Lib.hid hMd
          clear hWd hBd hMd
          go_wp2
          go_cut [7] from 34 to 45 (fun s wx => s = .pointer (some ⟨wr.heap.size, 0, none⟩) ∧ CutR W0 wr QB (w.heap.size + 2) (w.heap.size + 1) (w.heap.size + 1) j #[.slice none 0 0, .slice none 0 0, .slice none 0 0] ⟨np, po, nc, nf, ft, fv, nm, pn, pt, rt, ln, lt, sk, cn, cd⟩ A' V wx)
          case first =>
            go_region_with (first | (go_at_call 53; refine (HC1.out w4 HBa.out).mono ?_; rintro e w5 ⟨ga1, gc1, rfl, hown, hb⟩; have HBb := Lib.hid (HBa.out.trans (hb.mono HBa.out.size)); have HOb := Lib.hid hown; have HBb' := Lib.hid hb; obtain ⟨⟨_, _, _, _, f4⟩, _⟩ := HMB.out w5 HBb.out; clear hown hb) | (go_at_call 53; rw [← HWd.out]; refine (HC0.out Wd (Below.refl _ _)).mono ?_; rintro e w4 ⟨ga0, gc0, rfl, hown, hb⟩; have HBa := Lib.hid hb; have HOa := Lib.hid hown; obtain ⟨⟨_, _, f2, _, f4⟩, _⟩ := HMB.out w4 hb; clear hown hb) | (go_at_call 54; refine (HC2.out w5 HBb.out).mono ?_; rintro e w6 ⟨ga2, gc2, rfl, hown, hb⟩; have HBc := Lib.hid (HBb.out.trans (hb.mono HBb.out.size)); have HOc := Lib.hid hown; have HBc' := Lib.hid hb; obtain ⟨⟨f0, f1, f2, f3, f4⟩, ff⟩ := HMB.out w6 HBc.out; have ff0 := ff 0; have ff2 := ff 2; have ff4 := ff 4; clear hown hb ff))
            all_goals
              go_wp2_with fail
              go_meet
              exact ⟨rfl, cutR_mk HQ.out HWd.out hlo (by omega) HBa.out HOa.out HBb'.out HOb.out HBc'.out HOc.out⟩
          case rest =>
            obtain ⟨rfl, a0, f0, a1, f1, a2, f2, x1, x2, x3, x4, x5, x6, x7, x8, x9⟩ := hcut
            have q0 : wc.cell? ⟨wr.heap.size, 0, none⟩ = some (.slice a0 (pn j) f0) := x1.cell 0
            have q1 : wc.cell? ⟨wr.heap.size, 1, none⟩ = some (.int .i64 (rt j)) := x1.cell 1
            have q2 : wc.cell? ⟨wr.heap.size, 2, none⟩ = some (.slice a1 (ln j) f1) := x1.cell 2
            have q3 : wc.cell? ⟨wr.heap.size, 3, none⟩ = some (.int .i64 (sk j)) := x1.cell 3
            have q4 : wc.cell? ⟨wr.heap.size, 4, none⟩ = some (.slice a2 (cn j) f2) := x1.cell 4
            have qV : wc.cell? ⟨QB, 2, none⟩ = some V := x2.cell 2
            obtain ⟨i0, ii, iz0, iz1, iz2⟩ := info_parts info50x
            have X2 := Lib.hid x2
            have X3 := Lib.hid x3
            have X4 := Lib.hid x4
            have X5 := Lib.hid x5
            have X6 := Lib.hid x6
            have X7 := Lib.hid x7
            have X8 := Lib.hid x8
            have X9 := Lib.hid x9
            have hsz : w.heap.size + 2 ≤ wc.heap.size := HLo.out wc x2.lt
            have HS := Lib.hid HS0.out
            clear x1 x2 x3 x4 x5 x6 x7 x8 x9 c0 c1 c2 c3 c4 HC0 HC1 HC2 HMB HWd HMd
            go_wp2_with (at_builtin; refine wpList_append_lies _ rfl _ _ 24 rfl (w.heap.size + 2) 50 i0 _ 5 88 Try.underlying24 ii iz0 iz1 iz2 rfl (by decide) V j (els5 j (Pg.mcells ⟨np, po, nc, nf, ft, fv, nm, pn, pt, rt, ln, lt, sk, cn, cd⟩ A')) rfl (own_keep X4.out (.alloc _ _)) ⟨wc.heap.size, 0, none⟩ 1 1 [.slice a0 (pn j) f0, .int .i64 (rt j), .slice a1 (ln j) f1, .int .i64 (sk j), .slice a2 (cn j) f2] rfl rfl (World.news_of_block (cs := #[.slice a0 (pn j) f0, .int .i64 (rt j), .slice a1 (ln j) f1, .int .i64 (sk j), .slice a2 (cn j) f2]) (t := 50) (fr := (0, 0)) (heap_alloc_new wc _)) (by simp [Value.oneCell']) (by omega) (by unfold maxLen; omega) (by omega) (by simp; omega) (wc.heap.size + 1) (by simp) ?_; intro gg cap8 w8 hown8 hgrow hat hlt8; have hbx := BoxT.keep (BoxT.keep X2.out (.alloc _ (.cells #[.slice a0 (pn j) f0, .int .i64 (rt j), .slice a1 (ln j) f1, .int .i64 (sk j), .slice a2 (cn j) f2] 50))) (.grown hgrow (own_typed (own_keep X4.out (.alloc _ _))) (by decide)); have h8c : w8.cell? ⟨QB, 2, none⟩ = some V := hbx.cell 2; have h8f : w8.frozen? ⟨QB, 2, none⟩ = false := rowAt_frz hbx.row 2; have HZ := Lib.hid (tm_step HQ.out X2.out X3.out X4.out X5.out X6.out X7.out X8.out X9.out hgrow hown8 (by omega) (by omega) (by omega) HS.out); clear hbx hown8 hgrow hat hlt8)
            obtain ⟨A2, hA2, hz⟩ := HZ.out
            exact ⟨⟨j + 1, _, A2, by omega, by go_num, Lib.hid hz⟩, by simp [intOf]; omega⟩
        · have hnj : nm = j := by omega
          subst hnj
          obtain ⟨ma', mc', rfl⟩ := own_slice HQ.out.1.2.1
          have r0 : wr.cell? ⟨QB, 0, none⟩ = some (.slice A'.pa np A'.pc) := HQ.out.1.1.2.1.cell 0
          have r1 : wr.cell? ⟨QB, 1, none⟩ = some (.slice A'.ca nc A'.cc) := HQ.out.1.1.2.1.cell 1
          have r2 : wr.cell? ⟨QB, 2, none⟩ = some (.slice ma' nm mc') := HQ.out.1.1.2.1.cell 2
          have y0 : wr.cell? ⟨w.heap.size + 1, 0, none⟩ = some (.slice none 0 0) := HQ.out.2.1.cell 0
          have y1 : wr.cell? ⟨w.heap.size + 1, 1, none⟩ = some (.slice none 0 0) := HQ.out.2.1.cell 1
          have y2 : wr.cell? ⟨w.heap.size + 1, 2, none⟩ = some (.slice none 0 0) := HQ.out.2.1.cell 2
          have z0 : wr.frozen? ⟨w.heap.size + 1, 0, none⟩ = false := rowAt_frz HQ.out.2.1.row 0
          have z1 : wr.frozen? ⟨w.heap.size + 1, 1, none⟩ = false := rowAt_frz HQ.out.2.1.row 1
          have z2 : wr.frozen? ⟨w.heap.size + 1, 2, none⟩ = false := rowAt_frz HQ.out.2.1.row 2
          have HAA := Lib.hid (HP.out wr HQ.out.2.2).2
          clear HP HX HB1 HR1 HW HB2 HR2 HO2 HW3 HF
          go_wp2
          refine bodyPost_ret (v := .agg #[.slice A'.pa np A'.pc, .slice A'.ca nc A'.cc, .slice ma' nm mc']) (by simp [results, Try.results21, go_sem, y0, y1, y2]) rfl ⟨_, rfl, tm_fin HQ.out.1 (fun e he => set3_keep HQ.out.2.1 he) (by omega), ?_⟩
          exact ((HAA.out.setCell (p := ⟨w.heap.size + 1, 0, none⟩) (by simp) _).setCell (p := ⟨w.heap.size + 1, 1, none⟩) (by simp) _).setCell (p := ⟨w.heap.size + 1, 2, none⟩) (by simp) _
end Go.Proofs.Ytpiafgmncfibmaa
