import Derived.Deep.CutBlock
import Derived.Deep.DeepCutAuto
import Derived.Deep.DrawnRows
import Derived.Test.YtpiafgmncfibmaaMu
import Derived.Test.YtpiafgmncfibmaaTy
import Derived.Test.YtpiafgmncfibmaaE7
import Derived.Test.YtpiafgmncfibmaaCc
import Derived.Test.YtpiafgmncfibmaaRows
import Derived.WalkKit
import Derived.ProofKit
import Derived.OpenShut
import Derived.Deep.QuietTactic
import Derived.BigQuiet
import Derived.Outline
import Derived.WalkSmall
import Derived.WalkLawsBesides
import Derived.WalkSpells
import Derived.BigGuardPart
import Derived.RegionTactic
import Derived.Deep.RegionHeld3
import Derived.Lib.Hide
import Derived.Deep.MidRow
import Derived.Below
import Derived.Deep.RegionWith
import Derived.Deep.OwnRows
import Derived.Deep.AppendLies
import Derived.Deep.RegionLaw
namespace Go.Proofs.Ytpiafgmncfibmaa
open Go.ChangeShapes Go.WideShapes Go.ChangeAt Go.RowKit
set_option linter.unusedVariables false

attribute [local go_sem ↓] Go.wp_at_zero Go.wp_at_succ
theorem Pg.eqv_refl (P : Pg) : P.eqv P := ⟨⟨rfl, fun _ _ => rfl⟩, rfl, fun _ _ => ⟨rfl, fun _ _ => ⟨rfl, rfl⟩⟩, rfl, fun _ _ => ⟨rfl, rfl, ⟨rfl, fun _ _ => rfl⟩, ⟨rfl, fun _ _ => rfl⟩, ⟨rfl, fun _ _ => rfl⟩⟩⟩
theorem Num.below {w w' : World} (h : Below w.heap.size w w') : Num w w' :=
  ⟨fun p k x hc => ⟨x, (h.cell (World.block_lt_of_cell? w p hc)).trans hc⟩, fun p a n c hc => (h.cell (World.block_lt_of_cell? w p hc)).trans hc, fun g i hg => h.frozen (p := ⟨g, i, none⟩) hg⟩
theorem fits_any {P : Pg} {A B : Ad} (h : Fits P A) : Fits P B := ⟨h.np, h.nc, h.nm, h.po, h.nf, h.pn, h.ln, h.cn, h.cd⟩
/-- The loops that change a twin's numbers leave all else. -/
def Same6 (w : World) (e : Ending) (w' : World) : Prop := e = .returned (.bool true) ∧ Below w.heap.size w w'
set_option maxRecDepth 100000 in
set_option maxHeartbeats 4000000 in
theorem same6_c (P : Pg) (A : Ad) (Q : Pg) (B : Ad) (w : World) (h : PgAt w P A) (hf : Fits P A) (hfb : FitsB P) (h' : PgAt w Q B) (hf' : Fits Q B) : Calls Try.prog 6 #[.agg (P.cells A), .agg (Q.cells B)] w (Same6 w) := by
  have h0p : Hid (∀ V, Below w.heap.size w V → PgAt V P A) := Lib.hid fun V hb => h.kept (Kept.of hb)
  have HX := Lib.hid (boxp_cells w P Q A B)
  obtain ⟨W, hW⟩ : ∃ W, W = (w.alloc (.cells (P.cells A) 26)).alloc (.cells (Q.cells B) 26) := ⟨_, rfl⟩
  have hsz : W.heap.size = w.heap.size + 1 + 1 := by rw [hW]; simp
  have HA : Hid (Below w.heap.size w W) := Lib.hid (by rw [hW]; exact ((Below.refl _ _).alloc (Nat.le_refl _) _).alloc (by simp) _)
  have HBP : Hid (BoxT W w.heap.size (P.cells A) 26) := Lib.hid (by rw [hW]; exact BoxT.keep (show BoxT (w.alloc _) w.heap.size _ 26 from heap_alloc_new _ _) (.alloc _ _))
  rw [← hW, ← hsz] at HX
  have HAll : Hid (∀ V, Below W.heap.size W V → PgAt V P A ∧ PgAt V Q B ∧ Below w.heap.size w V) := Lib.hid fun V hV => (have hB := HA.out.trans (hV.mono HA.out.size); ⟨h.kept (Kept.of hB), h'.kept (Kept.of hB), hB⟩)
  have HFewP : Hid (∀ V, PgAt V P A → Calls Try.prog 13 #[.agg (P.cells A)] V (SomeB V)) := Lib.hid fun V hV => few_c P A V hV hf
  have HFewQ : Hid (∀ V, PgAt V Q B → Calls Try.prog 13 #[.agg (Q.cells B)] V (SomeB V)) := Lib.hid fun V hV => few_c Q B V hV hf'
  have HTw : Hid (∀ V, PgAt V P A → Calls Try.prog 21 #[.agg (P.cells A)] V fun e w' => ∃ A', e = .returned (.agg (P.cells A')) ∧ PgOwn V.heap.size w' P A' ∧ Below V.heap.size V w') := Lib.hid fun V hV => twin_c P A V hV hfb
  have HCS : Hid (∀ V, PgAt V P A → PgAt V Q B → ∀ b, (b = true ↔ P.eqv Q) → Calls Try.prog 22 #[.agg (P.cells A), .agg (Q.cells B)] V fun e w' => e = .returned (.bool b) ∧ Below V.heap.size V w') := Lib.hid fun V h1 h2 b hb => csame_c P A Q B V h1 hf h2 hf' b hb
  have HRS : Hid (∀ V, PgAt V P A → PgAt V Q B → ∀ b, (b = true ↔ P.eqv Q) → Calls Try.prog 20 #[.agg (P.cells A), .agg (Q.cells B)] V fun e w' => e = .returned (.bool b) ∧ Below V.heap.size V w') := Lib.hid fun V h1 h2 b hb => rsame_c P A Q B V h1 hf h2 hf' b hb
  have HCT : Hid (∀ V T, PgAt V P A → PgAt V P T → Calls Try.prog 22 #[.agg (P.cells A), .agg (P.cells T)] V fun e w' => e = .returned (.bool true) ∧ Below V.heap.size V w') := Lib.hid fun V T h1 h2 => csame_c P A P T V h1 hf h2 (fits_any hf) true (by simp [P.eqv_refl])
  have HRT : Hid (∀ V T, PgAt V P A → PgAt V P T → Calls Try.prog 20 #[.agg (P.cells A), .agg (P.cells T)] V fun e w' => e = .returned (.bool true) ∧ Below V.heap.size V w') := Lib.hid fun V T h1 h2 => rsame_c P A P T V h1 hf h2 (fits_any hf) true (by simp [P.eqv_refl])
  obtain ⟨b, hb⟩ := some_b (P.eqv Q)
  have HEQ := Lib.hid hb
  have HF := Lib.hid hf
  clear h h' hf hf' hfb hb
  obtain ⟨pa, pc, ca, cc, ma, mc, fa, fc, ppa, ppc, lla, llc, cda, cdc⟩ := A
  obtain ⟨np, po, nc, nf, ft, fv, nm, pn, pt, rt, ln, lt, sk, cn, cd⟩ := P
  obtain ⟨pa', pc', ca', cc', ma', mc', fa', fc', ppa', ppc', lla', llc', cda', cdc'⟩ := B
  obtain ⟨np', po', nc', nf', ft', fv', nm', pn', pt', rt', ln', lt', sk', cn', cd'⟩ := Q
  replace hW : W = (w.alloc (.cells #[.slice pa np pc, .slice ca nc cc, .slice ma nm mc] 26)).alloc (.cells #[.slice pa' np' pc', .slice ca' nc' cc', .slice ma' nm' mc'] 26) := hW
  have HW := Lib.hid hW
  have HSz := Lib.hid hsz
  clear hW hsz
  show Calls Try.prog 6 #[.agg #[.slice pa np pc, .slice ca nc cc, .slice ma nm mc], .agg #[.slice pa' np' pc', .slice ca' nc' cc', .slice ma' nm' mc']] w _
  go_enter Try.func6, Try.ntmps6
  go_wp2_with fail
  rw [← HW.out]
  refine (known14_c W).mono ?_
  rintro e V1 ⟨rfl, hb1⟩
  have HB1 := Lib.hid hb1
  clear hb1
  obtain ⟨⟨e0, e1, e2⟩, g0, g1, g2⟩ := HX.out V1 HB1.out
  go_wp2_with fail
  clear e0 e1 e2 g0 g1 g2
  refine (HFewP.out V1 (HAll.out V1 HB1.out).1).mono ?_
  rintro e V2 ⟨⟨fb, rfl⟩, hb2⟩
  have HB2 := Lib.hid (HB1.out.trans (hb2.mono HB1.out.size))
  clear hb2
  obtain ⟨⟨e0, e1, e2⟩, g0, g1, g2⟩ := HX.out V2 HB2.out
  cases fb with
  | false =>
    go_wp2
    go_ret
    exact ⟨rfl, (HAll.out V2 HB2.out).2.2⟩
  | true =>
  go_wp2_with fail
  clear e0 e1 e2 g0 g1 g2
  refine (HFewQ.out V2 (HAll.out V2 HB2.out).2.1).mono ?_
  rintro e V3 ⟨⟨fb, rfl⟩, hb2⟩
  have HB3 := Lib.hid (HB2.out.trans (hb2.mono HB2.out.size))
  clear hb2
  obtain ⟨⟨e0, e1, e2⟩, g0, g1, g2⟩ := HX.out V3 HB3.out
  cases fb with
  | false =>
    go_wp2
    go_ret
    exact ⟨rfl, (HAll.out V3 HB3.out).2.2⟩
  | true =>
  go_wp2_with fail
  clear e0 e1 e2 g0 g1 g2
  refine (HTw.out V3 (HAll.out V3 HB3.out).1).mono ?_
  rintro e V4 ⟨AT, he, hown, hb4⟩
  have HB4 := Lib.hid (HB3.out.trans (hb4.mono HB3.out.size))
  have HO4 := Lib.hid hown
  have hs4 : V3.heap.size ≤ V4.heap.size := hb4.size
  clear hown hb4
  obtain ⟨pat, pct, cat, cct, mat, mct, fat, fct, ppat, ppct, llat, llct, cdat, cdct⟩ := AT
  obtain rfl : e = .returned (.agg #[.slice pat np pct, .slice cat nc cct, .slice mat nm mct]) := he
  obtain ⟨TB, hTB⟩ : ∃ b, b = V4.heap.size := ⟨_, rfl⟩
  obtain ⟨V5, hV5⟩ : ∃ V, V = V4.alloc (.cells #[.slice pat np pct, .slice cat nc cct, .slice mat nm mct] 26) := ⟨_, rfl⟩
  have HB5 : Hid (Below W.heap.size W V5) := Lib.hid (by rw [hV5]; exact HB4.out.alloc HB4.out.size _)
  have HO5 : Hid (PgOwn V3.heap.size V5 ⟨np, po, nc, nf, ft, fv, nm, pn, pt, rt, ln, lt, sk, cn, cd⟩ ⟨pat, pct, cat, cct, mat, mct, fat, fct, ppat, ppct, llat, llct, cdat, cdct⟩) := Lib.hid (by rw [hV5]; exact HO4.out.keep fun e => .alloc _ _)
  have HT5 : Hid (BoxT V5 TB #[.slice pat np pct, .slice cat nc cct, .slice mat nm mct] 26) := Lib.hid (by rw [hV5, hTB]; exact heap_alloc_new _ _)
  have HV5 : Hid (V5 = V4.alloc (.cells #[.slice pat np pct, .slice cat nc cct, .slice mat nm mct] 26) ∧ TB = V4.heap.size) := Lib.hid ⟨hV5, hTB⟩
  clear hV5 hTB
  have HS5 : Hid (∀ w', Below V5.heap.size V5 w' → w'.cell? ⟨w.heap.size, 0, none⟩ = some (.slice pa np pc) ∧ w'.cell? ⟨w.heap.size, 1, none⟩ = some (.slice ca nc cc) ∧ w'.cell? ⟨w.heap.size, 2, none⟩ = some (.slice ma nm mc) ∧ w'.cell? ⟨w.heap.size + 1, 0, none⟩ = some (.slice pa' np' pc') ∧ w'.cell? ⟨w.heap.size + 1, 1, none⟩ = some (.slice ca' nc' cc') ∧ w'.cell? ⟨w.heap.size + 1, 2, none⟩ = some (.slice ma' nm' mc') ∧ w'.cell? ⟨TB, 0, none⟩ = some (.slice pat np pct) ∧ w'.cell? ⟨TB, 1, none⟩ = some (.slice cat nc cct) ∧ w'.cell? ⟨TB, 2, none⟩ = some (.slice mat nm mct) ∧ Hid (Below V5.heap.size V5 w')) := Lib.hid fun w' hb => by
    obtain ⟨⟨x0, x1, x2⟩, y0, y1, y2⟩ := HX.out w' (HB5.out.trans (hb.mono HB5.out.size))
    have ht := HT5.out.keep (.below hb)
    exact ⟨x0, x1, x2, y0, y1, y2, ht.cell 0, ht.cell 1, ht.cell 2, Lib.hid hb⟩
  have HAll5 : Hid (∀ V, Below V5.heap.size V5 V → PgAt V ⟨np, po, nc, nf, ft, fv, nm, pn, pt, rt, ln, lt, sk, cn, cd⟩ ⟨pa, pc, ca, cc, ma, mc, fa, fc, ppa, ppc, lla, llc, cda, cdc⟩ ∧ PgAt V ⟨np', po', nc', nf', ft', fv', nm', pn', pt', rt', ln', lt', sk', cn', cd'⟩ ⟨pa', pc', ca', cc', ma', mc', fa', fc', ppa', ppc', lla', llc', cda', cdc'⟩ ∧ PgAt V ⟨np, po, nc, nf, ft, fv, nm, pn, pt, rt, ln, lt, sk, cn, cd⟩ ⟨pat, pct, cat, cct, mat, mct, fat, fct, ppat, ppct, llat, llct, cdat, cdct⟩ ∧ Below W.heap.size W V) := Lib.hid fun V hb => by
    have h1 := HB5.out.trans (hb.mono HB5.out.size)
    exact ⟨(HAll.out V h1).1, (HAll.out V h1).2.1, (HO5.out.keep fun e => .below hb).at, h1⟩
  have hzb : (b != b) = false := by simp
  have C1 : Hid (∀ V, Below V5.heap.size V5 V → Calls Try.prog 22 #[.agg #[.slice pa np pc, .slice ca nc cc, .slice ma nm mc], .agg #[.slice pa' np' pc', .slice ca' nc' cc', .slice ma' nm' mc']] V fun e w' => e = .returned (.bool b) ∧ Below V.heap.size V w') := Lib.hid fun V hb => HCS.out V (HAll5.out V hb).1 (HAll5.out V hb).2.1 b HEQ.out
  have C2 : Hid (∀ V, Below V5.heap.size V5 V → Calls Try.prog 20 #[.agg #[.slice pa np pc, .slice ca nc cc, .slice ma nm mc], .agg #[.slice pa' np' pc', .slice ca' nc' cc', .slice ma' nm' mc']] V fun e w' => e = .returned (.bool b) ∧ Below V.heap.size V w') := Lib.hid fun V hb => HRS.out V (HAll5.out V hb).1 (HAll5.out V hb).2.1 b HEQ.out
  have C3 : Hid (∀ V, Below V5.heap.size V5 V → Calls Try.prog 20 #[.agg #[.slice pa np pc, .slice ca nc cc, .slice ma nm mc], .agg #[.slice pat np pct, .slice cat nc cct, .slice mat nm mct]] V fun e w' => e = .returned (.bool true) ∧ Below V.heap.size V w') := Lib.hid fun V hb => HRT.out V ⟨pat, pct, cat, cct, mat, mct, fat, fct, ppat, ppct, llat, llct, cdat, cdct⟩ (HAll5.out V hb).1 (HAll5.out V hb).2.2.1
  have C4 : Hid (∀ V, Below V5.heap.size V5 V → Calls Try.prog 22 #[.agg #[.slice pa np pc, .slice ca nc cc, .slice ma nm mc], .agg #[.slice pat np pct, .slice cat nc cct, .slice mat nm mct]] V fun e w' => e = .returned (.bool true) ∧ Below V.heap.size V w') := Lib.hid fun V hb => HCT.out V ⟨pat, pct, cat, cct, mat, mct, fat, fct, ppat, ppct, llat, llct, cdat, cdct⟩ (HAll5.out V hb).1 (HAll5.out V hb).2.2.1

  have HP0 : Hid (∀ V, Below W.heap.size W V → Below w.heap.size w V) := Lib.hid fun V hV => (HAll.out V hV).2.2
  have HS1 : Hid (V5.drew.cell? ⟨w.heap.size, 0, none⟩ = some (.slice pa np pc) ∧ V5.drew.cell? ⟨w.heap.size, 1, none⟩ = some (.slice ca nc cc) ∧ V5.drew.cell? ⟨w.heap.size, 2, none⟩ = some (.slice ma nm mc) ∧ V5.drew.cell? ⟨w.heap.size + 1, 0, none⟩ = some (.slice pa' np' pc') ∧ V5.drew.cell? ⟨w.heap.size + 1, 1, none⟩ = some (.slice ca' nc' cc') ∧ V5.drew.cell? ⟨w.heap.size + 1, 2, none⟩ = some (.slice ma' nm' mc') ∧ V5.drew.cell? ⟨TB, 0, none⟩ = some (.slice pat np pct) ∧ V5.drew.cell? ⟨TB, 1, none⟩ = some (.slice cat nc cct) ∧ V5.drew.cell? ⟨TB, 2, none⟩ = some (.slice mat nm mct) ∧ Hid (Below V5.heap.size V5 V5.drew)) := Lib.hid (HS5.out _ (Below.refl _ _).drew)
  have HK : Hid (∀ V V', (V.cell? ⟨w.heap.size, 0, none⟩ = some (.slice pa np pc) ∧ V.cell? ⟨w.heap.size, 1, none⟩ = some (.slice ca nc cc) ∧ V.cell? ⟨w.heap.size, 2, none⟩ = some (.slice ma nm mc) ∧ V.cell? ⟨w.heap.size + 1, 0, none⟩ = some (.slice pa' np' pc') ∧ V.cell? ⟨w.heap.size + 1, 1, none⟩ = some (.slice ca' nc' cc') ∧ V.cell? ⟨w.heap.size + 1, 2, none⟩ = some (.slice ma' nm' mc') ∧ V.cell? ⟨TB, 0, none⟩ = some (.slice pat np pct) ∧ V.cell? ⟨TB, 1, none⟩ = some (.slice cat nc cct) ∧ V.cell? ⟨TB, 2, none⟩ = some (.slice mat nm mct) ∧ Hid (Below V5.heap.size V5 V)) → Below V.heap.size V V' → (V'.cell? ⟨w.heap.size, 0, none⟩ = some (.slice pa np pc) ∧ V'.cell? ⟨w.heap.size, 1, none⟩ = some (.slice ca nc cc) ∧ V'.cell? ⟨w.heap.size, 2, none⟩ = some (.slice ma nm mc) ∧ V'.cell? ⟨w.heap.size + 1, 0, none⟩ = some (.slice pa' np' pc') ∧ V'.cell? ⟨w.heap.size + 1, 1, none⟩ = some (.slice ca' nc' cc') ∧ V'.cell? ⟨w.heap.size + 1, 2, none⟩ = some (.slice ma' nm' mc') ∧ V'.cell? ⟨TB, 0, none⟩ = some (.slice pat np pct) ∧ V'.cell? ⟨TB, 1, none⟩ = some (.slice cat nc cct) ∧ V'.cell? ⟨TB, 2, none⟩ = some (.slice mat nm mct) ∧ Hid (Below V5.heap.size V5 V'))) := Lib.hid fun V V' h hb => HS5.out V' (h.2.2.2.2.2.2.2.2.2.out.trans (hb.mono h.2.2.2.2.2.2.2.2.2.out.size))
  have HD : Hid (∀ V, (V.cell? ⟨w.heap.size, 0, none⟩ = some (.slice pa np pc) ∧ V.cell? ⟨w.heap.size, 1, none⟩ = some (.slice ca nc cc) ∧ V.cell? ⟨w.heap.size, 2, none⟩ = some (.slice ma nm mc) ∧ V.cell? ⟨w.heap.size + 1, 0, none⟩ = some (.slice pa' np' pc') ∧ V.cell? ⟨w.heap.size + 1, 1, none⟩ = some (.slice ca' nc' cc') ∧ V.cell? ⟨w.heap.size + 1, 2, none⟩ = some (.slice ma' nm' mc') ∧ V.cell? ⟨TB, 0, none⟩ = some (.slice pat np pct) ∧ V.cell? ⟨TB, 1, none⟩ = some (.slice cat nc cct) ∧ V.cell? ⟨TB, 2, none⟩ = some (.slice mat nm mct) ∧ Hid (Below V5.heap.size V5 V)) → Below V5.heap.size V5 V) := Lib.hid fun V h => h.2.2.2.2.2.2.2.2.2.out
  have HE5 := Lib.hid (And.intro HV5.out.1 HV5.out.2)
  clear HEQ HX HCS HRS HCT HFewP HFewQ HAll

  go_wp2_with fail
  rw [← HE5.out.1, ← HE5.out.2]
  go_region_held3 (fun w' => w'.cell? ⟨w.heap.size, 0, none⟩ = some (.slice pa np pc) ∧ w'.cell? ⟨w.heap.size, 1, none⟩ = some (.slice ca nc cc) ∧ w'.cell? ⟨w.heap.size, 2, none⟩ = some (.slice ma nm mc) ∧ w'.cell? ⟨w.heap.size + 1, 0, none⟩ = some (.slice pa' np' pc') ∧ w'.cell? ⟨w.heap.size + 1, 1, none⟩ = some (.slice ca' nc' cc') ∧ w'.cell? ⟨w.heap.size + 1, 2, none⟩ = some (.slice ma' nm' mc') ∧ w'.cell? ⟨TB, 0, none⟩ = some (.slice pat np pct) ∧ w'.cell? ⟨TB, 1, none⟩ = some (.slice cat nc cct) ∧ w'.cell? ⟨TB, 2, none⟩ = some (.slice mat nm mct) ∧ Hid (Below V5.heap.size V5 w')) (first | exact HS1.out | exact HK.out _ _ (by assumption) (by assumption)) (first | (go_at_call 22; (with_reducible refine (C1.out _ (HD.out _ (by assumption))).mono ?_); rintro e w' ⟨rfl, hb⟩) | (go_at_call 20; (with_reducible refine (C2.out _ (HD.out _ (by assumption))).mono ?_); rintro e w' ⟨rfl, hb⟩) | (go_at_call 20; (with_reducible refine (C3.out _ (HD.out _ (by assumption))).mono ?_); rintro e w' ⟨rfl, hb⟩) | (go_at_call 22; (with_reducible refine (C4.out _ (HD.out _ (by assumption))).mono ?_); rintro e w' ⟨rfl, hb⟩))
  rename_i hH
  have HB6 : Hid (Below V5.heap.size V5 w') := Lib.hid (HD.out _ hH)
  have HP6 := Lib.hid (HAll5.out _ HB6.out)
  obtain ⟨e0, e1, e2, _⟩ := hH
  go_wp2_with fail
  clear e0 e1 e2
  refine (HTw.out w' HP6.out.1).mono ?_
  rintro e V8 ⟨AU, he, hown, hb8⟩
  obtain ⟨pau, pcu, cau, ccu, mau, mcu, fau, fcu, ppau, ppcu, llau, llcu, cdau, cdcu⟩ := AU
  obtain rfl : e = .returned (.agg #[.slice pau np pcu, .slice cau nc ccu, .slice mau nm mcu]) := he
  have HB8 := Lib.hid (HB6.out.trans (hb8.mono HB6.out.size))
  have hs1 : w.heap.size + 1 + 1 ≤ V3.heap.size := by have := HB3.out.size; have := HSz.out; omega
  have hs2 : V3.heap.size ≤ TB := by rw [HE5.out.2]; exact hs4
  have hs3 : TB < V5.heap.size := HT5.out.lt
  have hs5 : V5.heap.size ≤ V8.heap.size := HB8.out.size
  have hs6 : V5.heap.size ≤ w'.heap.size := HB6.out.size
  obtain ⟨UB, hUB⟩ : ∃ b, b = V8.heap.size := ⟨_, rfl⟩
  obtain ⟨V9, hV9⟩ : ∃ V, V = V8.alloc (.cells #[.slice pau np pcu, .slice cau nc ccu, .slice mau nm mcu] 26) := ⟨_, rfl⟩
  have HB9 : Hid (Below V5.heap.size V5 V9) := Lib.hid (by rw [hV9]; exact HB8.out.alloc HB8.out.size _)
  have HMB : Hid (MutB w.heap.size V3.heap.size TB w.heap.size TB UB) := Lib.hid ⟨by omega, Nat.le_refl _, by omega, by omega⟩
  have HM : Hid (MutR w.heap.size V3.heap.size TB w w.heap.size TB UB ⟨np, po, nc, nf, ft, fv, nm, pn, pt, rt, ln, lt, sk, cn, cd⟩ ⟨pa, pc, ca, cc, ma, mc, fa, fc, ppa, ppc, lla, llc, cda, cdc⟩ ⟨pat, pct, cat, cct, mat, mct, fat, fct, ppat, ppct, llat, llct, cdat, cdct⟩ ⟨pau, pcu, cau, ccu, mau, mcu, fau, fcu, ppau, ppcu, llau, llcu, cdau, cdcu⟩ V9) := Lib.hid ⟨(by
      have h4 := HO4.out.shape (hi := TB) (by rw [HE5.out.2]; exact Nat.le_refl _)
      have h5 : TShape V3.heap.size TB V5 ⟨np, po, nc, nf, ft, fv, nm, pn, pt, rt, ln, lt, sk, cn, cd⟩ ⟨pat, pct, cat, cct, mat, mct, fat, fct, ppat, ppct, llat, llct, cdat, cdct⟩ := h4.num (by rw [HE5.out.1]; exact .alloc _ _)
      exact h5.num (.below HB9.out)), HBP.out.keep (.below (HB5.out.trans (HB9.out.mono HB5.out.size))), HT5.out.keep (.below HB9.out), (by rw [hV9, hUB]; exact heap_alloc_new _ _),
      (by
        have h8 : PgOwn w'.heap.size V9 ⟨np, po, nc, nf, ft, fv, nm, pn, pt, rt, ln, lt, sk, cn, cd⟩ ⟨pau, pcu, cau, ccu, mau, mcu, fau, fcu, ppau, ppcu, llau, llcu, cdau, cdcu⟩ := by rw [hV9]; exact hown.keep fun e => .alloc _ _
        exact ⟨own_mono h8.p (by omega), own_mono h8.k (by omega), fun i hi => own_mono (h8.f i hi) (by omega), own_mono h8.m (by omega), fun i hi => own_mono (h8.a i hi) (by omega), fun i hi => own_mono (h8.l i hi) (by omega), fun i hi => own_mono (h8.d i hi) (by omega)⟩),
      HP0.out _ (HB5.out.trans (HB9.out.mono HB5.out.size))⟩
  have HE9 := Lib.hid (And.intro hV9 hUB)
  clear hb8 hown hUB hV9

  have hnp : np ≤ 140737488355328 := HF.out.np
  have hnc : nc ≤ 140737488355328 := HF.out.nc
  have hnm : nm ≤ 140737488355328 := HF.out.nm
  clear HB9 HB8 HS5 HAll5 HP6 C1 C2 C3 C4 HK HD HS1 HTw HO5 HT5 HV5
  go_wp2_with fail
  rw [← HE9.out.1, ← HE9.out.2]
  go_loopw [7] (fun ix wr => ∃ i : Nat, i ≤ np ∧ ix = .int .i64 i ∧ Hid (MutR w.heap.size V3.heap.size TB w w.heap.size TB UB ⟨np, po, nc, nf, ft, fv, nm, pn, pt, rt, ln, lt, sk, cn, cd⟩ ⟨pa, pc, ca, cc, ma, mc, fa, fc, ppa, ppc, lla, llc, cda, cdc⟩ ⟨pat, pct, cat, cct, mat, mct, fat, fct, ppat, ppct, llat, llct, cdat, cdct⟩ ⟨pau, pcu, cau, ccu, mau, mcu, fau, fcu, ppau, ppcu, llau, llcu, cdau, cdcu⟩ wr)) (fun ix _ => np - (intOf ix).toNat)
  case atStart => exact ⟨0, by omega, rfl, HM⟩
  case round =>
    obtain ⟨i, hi, rfl, HQ⟩ := hrel
    have t0 : wr.cell? ⟨TB, 0, none⟩ = some (.slice pat np pct) := HQ.out.q.cell 0
    by_cases hin : i < np
    · have gi : (i : Int) < np := by omega
      rcases (show Ty1 V3.heap.size TB wr pat np .i64 from HQ.out.t.p) with h0 | ⟨g, rfl, hl, hh, hc, hf⟩
      · exact absurd h0 (by omega)
      obtain ⟨x, hx⟩ := hc i hin
      have hx' := hf i
      clear hc hf
      go_wp2
      exact ⟨⟨i + 1, by omega, by go_num, Lib.hid (HQ.out.set HMB.out hx hl hh _)⟩, by simp [intOf]; omega⟩
    · have hnpi : np = i := by omega
      subst hnpi
      have dd : decide ((np : Int) < (np : Int)) = false := by simp
      go_wp2_with fail
      clear t0
      go_loopw [8] (fun ix wr => ∃ i : Nat, i ≤ nc ∧ ix = .int .i64 i ∧ Hid (MutR w.heap.size V3.heap.size TB w w.heap.size TB UB ⟨np, po, nc, nf, ft, fv, nm, pn, pt, rt, ln, lt, sk, cn, cd⟩ ⟨pa, pc, ca, cc, ma, mc, fa, fc, ppa, ppc, lla, llc, cda, cdc⟩ ⟨pat, pct, cat, cct, mat, mct, fat, fct, ppat, ppct, llat, llct, cdat, cdct⟩ ⟨pau, pcu, cau, ccu, mau, mcu, fau, fcu, ppau, ppcu, llau, llcu, cdau, cdcu⟩ wr)) (fun ix _ => nc - (intOf ix).toNat)
      case atStart => exact ⟨0, by omega, rfl, HQ⟩
      case round =>
        clear hi HQ HM
        obtain ⟨i, hi, rfl, HQ⟩ := hrel
        have t1 : wr.cell? ⟨TB, 1, none⟩ = some (.slice cat nc cct) := HQ.out.q.cell 1
        by_cases hin : i < nc
        · have gi : (i : Int) < nc := by omega
          have hnf : nf i ≤ 140737488355328 := HF.out.nf i hin
          go_wp2_with fail
          clear t1
          go_loopw [9] (fun kx wr => ∃ j : Nat, j ≤ nf i ∧ kx = .int .i64 j ∧ Hid (MutR w.heap.size V3.heap.size TB w w.heap.size TB UB ⟨np, po, nc, nf, ft, fv, nm, pn, pt, rt, ln, lt, sk, cn, cd⟩ ⟨pa, pc, ca, cc, ma, mc, fa, fc, ppa, ppc, lla, llc, cda, cdc⟩ ⟨pat, pct, cat, cct, mat, mct, fat, fct, ppat, ppct, llat, llct, cdat, cdct⟩ ⟨pau, pcu, cau, ccu, mau, mcu, fau, fcu, ppau, ppcu, llau, llcu, cdau, cdcu⟩ wr)) (fun kx _ => nf i - (intOf kx).toNat)
          case atStart => exact ⟨0, by omega, rfl, HQ⟩
          case round =>
            clear HQ
            obtain ⟨j, hj, rfl, HQ⟩ := hrel
            have t1 : wr.cell? ⟨TB, 1, none⟩ = some (.slice cat nc cct) := HQ.out.q.cell 1
            rcases (show nc = 0 ∨ ∃ g, cat = some ⟨g, 0, none⟩ ∧ ∀ i, i < nc → wr.cell? ⟨g, i, none⟩ = some (.slice (fat i) (nf i) (fct i)) from HQ.out.t.k) with h0 | ⟨g, hcat, hc⟩
            · exact absurd h0 (by omega)
            rw [hcat] at t1
            have c0 := hc i hin
            clear hc hcat
            by_cases hjn : j < nf i
            · have gj : (j : Int) < nf i := by omega
              rcases (show Ty2 V3.heap.size TB wr (fat i) (nf i) from HQ.out.t.f i hin) with h0 | ⟨g2, hfa, hl, hh, hc, hf⟩
              · exact absurd h0 (by omega)
              rw [hfa] at c0
              obtain ⟨x, hx⟩ := hc j hjn
              have hx' := hf (j * 2)
              clear hc hf hfa
              go_wp2
              exact ⟨⟨j + 1, by omega, by go_num, Lib.hid (HQ.out.set HMB.out hx hl hh _)⟩, by simp [intOf]; omega⟩
            · have hnj : nf i = j := by omega
              have dd : decide ((j : Int) < (nf i : Int)) = false := by rw [hnj]; simp
              clear hnj
              go_wp2
              exact ⟨⟨i + 1, by omega, by go_num, HQ⟩, by simp [intOf]; omega⟩
        · have hnci : nc = i := by omega
          subst hnci
          have dd : decide ((nc : Int) < (nc : Int)) = false := by simp
          go_wp2_with fail
          clear t1
          go_loopw [10] (fun ix wr => ∃ i : Nat, i ≤ nm ∧ ix = .int .i64 i ∧ Hid (MutR w.heap.size V3.heap.size TB w w.heap.size TB UB ⟨np, po, nc, nf, ft, fv, nm, pn, pt, rt, ln, lt, sk, cn, cd⟩ ⟨pa, pc, ca, cc, ma, mc, fa, fc, ppa, ppc, lla, llc, cda, cdc⟩ ⟨pat, pct, cat, cct, mat, mct, fat, fct, ppat, ppct, llat, llct, cdat, cdct⟩ ⟨pau, pcu, cau, ccu, mau, mcu, fau, fcu, ppau, ppcu, llau, llcu, cdau, cdcu⟩ wr)) (fun ix _ => nm - (intOf ix).toNat)
          case atStart => exact ⟨0, by omega, rfl, HQ⟩
          case round =>
            clear HQ hi
            obtain ⟨i, hi, rfl, HQ⟩ := hrel
            have t2 : wr.cell? ⟨TB, 2, none⟩ = some (.slice mat nm mct) := HQ.out.q.cell 2
            by_cases hin : i < nm
            · have gi : (i : Int) < nm := by omega
              have hpn : pn i ≤ 140737488355328 := HF.out.pn i hin
              have hln : ln i ≤ 140737488355328 := HF.out.ln i hin
              have hcn : cn i ≤ 140737488355328 := HF.out.cn i hin
              rcases (show nm = 0 ∨ ∃ g, mat = some ⟨g, 0, none⟩ ∧ ∀ i, i < nm → ∃ r s : Int, wr.cell? ⟨g, i * 5, none⟩ = some (.slice (ppat i) (pn i) (ppct i)) ∧ wr.cell? ⟨g, i * 5 + 1, none⟩ = some (.int .i64 r) ∧ wr.cell? ⟨g, i * 5 + 2, none⟩ = some (.slice (llat i) (ln i) (llct i)) ∧ wr.cell? ⟨g, i * 5 + 3, none⟩ = some (.int .i64 s) ∧ wr.cell? ⟨g, i * 5 + 4, none⟩ = some (.slice (cdat i) (cn i) (cdct i)) from HQ.out.t.m) with h0 | ⟨g, hmat, hc⟩
              · exact absurd h0 (by omega)
              rw [hmat] at t2
              obtain ⟨r, s, c0, c1, c2, c3, c4⟩ := hc i hin
              clear hc hmat
              have HSW := Lib.hid (show ∀ V, MutR w.heap.size V3.heap.size TB w w.heap.size TB UB ⟨np, po, nc, nf, ft, fv, nm, pn, pt, rt, ln, lt, sk, cn, cd⟩ ⟨pa, pc, ca, cc, ma, mc, fa, fc, ppa, ppc, lla, llc, cda, cdc⟩ ⟨pat, pct, cat, cct, mat, mct, fat, fct, ppat, ppct, llat, llct, cdat, cdct⟩ ⟨pau, pcu, cau, ccu, mau, mcu, fau, fcu, ppau, ppcu, llau, llcu, cdau, cdcu⟩ V → w.heap.size ≤ V.heap.size from fun V h => h.b.size)
              have hsz0 : TB < wr.heap.size := HQ.out.q.lt
              obtain ⟨MB, hMB⟩ : ∃ b, b = wr.heap.size := ⟨_, rfl⟩
              have hMt : TB < MB := by omega
              replace HQ : Hid ((MutR w.heap.size V3.heap.size TB w w.heap.size TB UB ⟨np, po, nc, nf, ft, fv, nm, pn, pt, rt, ln, lt, sk, cn, cd⟩ ⟨pa, pc, ca, cc, ma, mc, fa, fc, ppa, ppc, lla, llc, cda, cdc⟩ ⟨pat, pct, cat, cct, mat, mct, fat, fct, ppat, ppct, llat, llct, cdat, cdct⟩ ⟨pau, pcu, cau, ccu, mau, mcu, fau, fcu, ppau, ppcu, llau, llcu, cdau, cdcu⟩ (wr.alloc (.cells #[.slice (ppat i) (pn i) (ppct i), .int .i64 r, .slice (llat i) (ln i) (llct i), .int .i64 s, .slice (cdat i) (cn i) (cdct i)] 50))) ∧ BoxT (wr.alloc (.cells #[.slice (ppat i) (pn i) (ppct i), .int .i64 r, .slice (llat i) (ln i) (llct i), .int .i64 s, .slice (cdat i) (cn i) (cdct i)] 50)) MB #[.slice (ppat i) (pn i) (ppct i), .int .i64 r, .slice (llat i) (ln i) (llct i), .int .i64 s, .slice (cdat i) (cn i) (cdct i)] 50) := Lib.hid ⟨HQ.out.alloc (Nat.le_refl _) _, by rw [hMB]; exact heap_alloc_new _ _⟩
              have HMBE := Lib.hid hMB
              clear hMB
              go_wp2_with fail
              rw [← HMBE.out]
              clear t2 c0 c1 c2 c3 c4 HMBE
              generalize wr.alloc (.cells #[.slice (ppat i) (pn i) (ppct i), .int .i64 r, .slice (llat i) (ln i) (llct i), .int .i64 s, .slice (cdat i) (cn i) (cdct i)] 50) = wq at *
              go_loopw [12] (fun kx wr => ∃ j : Nat, j ≤ pn i ∧ kx = .int .i64 j ∧ Hid ((MutR w.heap.size V3.heap.size TB w w.heap.size TB UB ⟨np, po, nc, nf, ft, fv, nm, pn, pt, rt, ln, lt, sk, cn, cd⟩ ⟨pa, pc, ca, cc, ma, mc, fa, fc, ppa, ppc, lla, llc, cda, cdc⟩ ⟨pat, pct, cat, cct, mat, mct, fat, fct, ppat, ppct, llat, llct, cdat, cdct⟩ ⟨pau, pcu, cau, ccu, mau, mcu, fau, fcu, ppau, ppcu, llau, llcu, cdau, cdcu⟩ wr) ∧ BoxT wr MB #[.slice (ppat i) (pn i) (ppct i), .int .i64 r, .slice (llat i) (ln i) (llct i), .int .i64 s, .slice (cdat i) (cn i) (cdct i)] 50)) (fun kx _ => pn i - (intOf kx).toNat)
              case atStart => exact ⟨0, by omega, rfl, HQ⟩
              case round =>
                clear HQ
                obtain ⟨j, hj, rfl, HQ⟩ := hrel
                have m0 : wr.cell? ⟨MB, 0, none⟩ = some (.slice (ppat i) (pn i) (ppct i)) := HQ.out.2.cell 0
                by_cases hjn : j < pn i
                · have gj : (j : Int) < pn i := by omega
                  rcases (show Ty1 V3.heap.size TB wr (ppat i) (pn i) .i64 from HQ.out.1.t.a i hin) with h0 | ⟨g2, hfa, hl, hh, hc, hf⟩
                  · exact absurd h0 (by omega)
                  rw [hfa] at m0
                  obtain ⟨x, hx⟩ := hc j hjn
                  have hx' := hf j
                  clear hc hf hfa
                  go_wp2
                  exact ⟨⟨j + 1, by omega, by go_num, Lib.hid ⟨HQ.out.1.set HMB.out hx hl hh _, HQ.out.2.far (by omega) _ _⟩⟩, by simp [intOf]; omega⟩
                · have hnj : pn i = j := by omega
                  have dd : decide ((j : Int) < (pn i : Int)) = false := by rw [hnj]; simp
                  clear hnj
                  go_wp2_with fail
                  clear m0 dd
                  go_loopw [13] (fun kx wr => ∃ j : Nat, j ≤ ln i ∧ kx = .int .i64 j ∧ Hid ((MutR w.heap.size V3.heap.size TB w w.heap.size TB UB ⟨np, po, nc, nf, ft, fv, nm, pn, pt, rt, ln, lt, sk, cn, cd⟩ ⟨pa, pc, ca, cc, ma, mc, fa, fc, ppa, ppc, lla, llc, cda, cdc⟩ ⟨pat, pct, cat, cct, mat, mct, fat, fct, ppat, ppct, llat, llct, cdat, cdct⟩ ⟨pau, pcu, cau, ccu, mau, mcu, fau, fcu, ppau, ppcu, llau, llcu, cdau, cdcu⟩ wr) ∧ BoxT wr MB #[.slice (ppat i) (pn i) (ppct i), .int .i64 r, .slice (llat i) (ln i) (llct i), .int .i64 s, .slice (cdat i) (cn i) (cdct i)] 50)) (fun kx _ => ln i - (intOf kx).toNat)
                  case atStart => exact ⟨0, by omega, rfl, HQ⟩
                  case round =>
                    clear HQ
                    obtain ⟨j, hj, rfl, HQ⟩ := hrel
                    have m0 : wr.cell? ⟨MB, 2, none⟩ = some (.slice (llat i) (ln i) (llct i)) := HQ.out.2.cell 2
                    by_cases hjn : j < ln i
                    · have gj : (j : Int) < ln i := by omega
                      rcases (show Ty1 V3.heap.size TB wr (llat i) (ln i) .i64 from HQ.out.1.t.l i hin) with h0 | ⟨g2, hfa, hl, hh, hc, hf⟩
                      · exact absurd h0 (by omega)
                      rw [hfa] at m0
                      obtain ⟨x, hx⟩ := hc j hjn
                      have hx' := hf j
                      clear hc hf hfa
                      go_wp2
                      exact ⟨⟨j + 1, by omega, by go_num, Lib.hid ⟨HQ.out.1.set HMB.out hx hl hh _, HQ.out.2.far (by omega) _ _⟩⟩, by simp [intOf]; omega⟩
                    · have hnj : ln i = j := by omega
                      have dd : decide ((j : Int) < (ln i : Int)) = false := by rw [hnj]; simp
                      clear hnj
                      go_wp2_with fail
                      clear m0 dd
                      go_loopw [14] (fun kx wr => ∃ j : Nat, j ≤ cn i ∧ kx = .int .i64 j ∧ Hid ((MutR w.heap.size V3.heap.size TB w w.heap.size TB UB ⟨np, po, nc, nf, ft, fv, nm, pn, pt, rt, ln, lt, sk, cn, cd⟩ ⟨pa, pc, ca, cc, ma, mc, fa, fc, ppa, ppc, lla, llc, cda, cdc⟩ ⟨pat, pct, cat, cct, mat, mct, fat, fct, ppat, ppct, llat, llct, cdat, cdct⟩ ⟨pau, pcu, cau, ccu, mau, mcu, fau, fcu, ppau, ppcu, llau, llcu, cdau, cdcu⟩ wr) ∧ BoxT wr MB #[.slice (ppat i) (pn i) (ppct i), .int .i64 r, .slice (llat i) (ln i) (llct i), .int .i64 s, .slice (cdat i) (cn i) (cdct i)] 50)) (fun kx _ => cn i - (intOf kx).toNat)
                      case atStart => exact ⟨0, by omega, rfl, HQ⟩
                      case round =>
                        clear HQ
                        obtain ⟨j, hj, rfl, HQ⟩ := hrel
                        have m0 : wr.cell? ⟨MB, 4, none⟩ = some (.slice (cdat i) (cn i) (cdct i)) := HQ.out.2.cell 4
                        by_cases hjn : j < cn i
                        · have gj : (j : Int) < cn i := by omega
                          rcases (show Ty1 V3.heap.size TB wr (cdat i) (cn i) .u8 from HQ.out.1.t.d i hin) with h0 | ⟨g2, hfa, hl, hh, hc, hf⟩
                          · exact absurd h0 (by omega)
                          rw [hfa] at m0
                          obtain ⟨x, hx⟩ := hc j hjn
                          have hx' := hf j
                          clear hc hf hfa
                          go_wp2
                          exact ⟨⟨j + 1, by omega, by go_num, Lib.hid ⟨HQ.out.1.set HMB.out hx hl hh _, HQ.out.2.far (by omega) _ _⟩⟩, by simp [intOf]; omega⟩
                        · have hnj : cn i = j := by omega
                          have dd : decide ((j : Int) < (cn i : Int)) = false := by rw [hnj]; simp
                          clear hnj
                          go_wp2
                          exact ⟨⟨i + 1, by omega, by go_num, Lib.hid HQ.out.1⟩, by simp [intOf]; omega⟩
            · have hnmi : nm = i := by omega
              subst hnmi
              have dd : decide ((nm : Int) < (nm : Int)) = false := by simp
              have HPE : Hid (PgAt wr ⟨np, po, nc, nf, ft, fv, nm, pn, pt, rt, ln, lt, sk, cn, cd⟩ ⟨pa, pc, ca, cc, ma, mc, fa, fc, ppa, ppc, lla, llc, cda, cdc⟩) := Lib.hid (h0p.out wr HQ.out.b)
              have HUE : Hid (PgAt wr ⟨np, po, nc, nf, ft, fv, nm, pn, pt, rt, ln, lt, sk, cn, cd⟩ ⟨pau, pcu, cau, ccu, mau, mcu, fau, fcu, ppau, ppcu, llau, llcu, cdau, cdcu⟩) := Lib.hid HQ.out.u.at
              have HBE := Lib.hid HQ.out.b
              have a0 : wr.cell? ⟨w.heap.size, 0, none⟩ = some (.slice pa np pc) := HQ.out.p.cell 0
              have a1 : wr.cell? ⟨w.heap.size, 1, none⟩ = some (.slice ca nc cc) := HQ.out.p.cell 1
              have a2 : wr.cell? ⟨w.heap.size, 2, none⟩ = some (.slice ma nm mc) := HQ.out.p.cell 2
              have u0 : wr.cell? ⟨UB, 0, none⟩ = some (.slice pau np pcu) := HQ.out.r.cell 0
              have u1 : wr.cell? ⟨UB, 1, none⟩ = some (.slice cau nc ccu) := HQ.out.r.cell 1
              have u2 : wr.cell? ⟨UB, 2, none⟩ = some (.slice mau nm mcu) := HQ.out.r.cell 2
              go_wp2_with (first | (go_at_call 20; refine (HRT.out wr ⟨pau, pcu, cau, ccu, mau, mcu, fau, fcu, ppau, ppcu, llau, llcu, cdau, cdcu⟩ HPE.out HUE.out).mono ?_; rintro e w9 ⟨rfl, hb9⟩))
              go_ret
              exact ⟨rfl, HBE.out.trans (hb9.mono HBE.out.size)⟩
end Go.Proofs.Ytpiafgmncfibmaa
