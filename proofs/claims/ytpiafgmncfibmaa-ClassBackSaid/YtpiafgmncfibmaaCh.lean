import Derived.Test.YtpiafgmncfibmaaCv
import Derived.Test.YtpiafgmncfibmaaRows
import Derived.WalkKit
import Derived.ProofKit
import Derived.OpenShut
import Derived.Deep.QuietTactic
import Derived.BigQuiet
import Derived.Outline
import Derived.WalkSmall
import Derived.WalkLawsBesides
import Derived.WalkSpells
import Derived.BigGuardPart
import Derived.RegionTactic
import Derived.Deep.RegionHeld3
import Derived.Lib.Hide
import Derived.Deep.MidRow
import Derived.Below
import Derived.Deep.RegionWith
import Derived.Deep.OwnRows
import Derived.Deep.AppendLies
namespace Go.Proofs.Ytpiafgmncfibmaa
open Go.ChangeShapes Go.WideShapes Go.ChangeAt Go.RowKit
set_option linter.unusedVariables false

set_option maxRecDepth 100000 in
set_option maxHeartbeats 4000000 in
theorem checks_c (P : Pg) (A : Ad) (w : World) (h : PgAt w P A) (hf : Fits P A) : Calls Try.prog 3 #[.agg (P.cells A)] w fun e w' => e = .returned (.bool true) ∧ Below w.heap.size w w' := by
  have HA : Hid (Below w.heap.size w (w.alloc (.cells (P.cells A) 26))) := Lib.hid ((Below.refl _ _).alloc (Nat.le_refl _) _)
  have HX := Lib.hid (box_cells w P A)
  have HP : Hid (∀ V, Below (w.heap.size + 1) (w.alloc (.cells (P.cells A) 26)) V → PgAt V P A ∧ Below w.heap.size w V) := Lib.hid fun V hb => (have hB := HA.out.trans (hb.mono (by omega)); ⟨h.kept (Kept.of hB), hB⟩)
  have HFew : Hid (∀ V, PgAt V P A → Calls Try.prog 13 #[.agg (P.cells A)] V (SomeB V)) := Lib.hid fun V hV => few_c P A V hV hf
  have HByt : Hid (∀ V, PgAt V P A → Calls Try.prog 14 #[.agg (P.cells A)] V (BytesR P V)) := Lib.hid fun V hV => bytes_c P A V hV hf
  have HRby : Hid (∀ V, PgAt V P A → Calls Try.prog 15 #[.agg (P.cells A)] V (BytesR P V)) := Lib.hid fun V hV => refbytes_c P A V hV hf
  have HCk : Hid (∀ V, PgAt V P A → Calls Try.prog 16 #[.agg (P.cells A)] V fun e w' => e = .returned (.int .i64 P.chk) ∧ Below V.heap.size V w') := Lib.hid fun V hV => check_c P A V hV hf
  have HRc : Hid (∀ V, PgAt V P A → Calls Try.prog 17 #[.agg (P.cells A)] V fun e w' => e = .returned (.int .i64 P.chk) ∧ Below V.heap.size V w') := Lib.hid fun V hV => refcheck_c P A V hV hf
  clear h hf
  obtain ⟨W0, hW0⟩ : ∃ W, W = w.alloc (.cells (P.cells A) 26) := ⟨_, rfl⟩
  have hsz : W0.heap.size = w.heap.size + 1 := by rw [hW0]; simp
  rw [← hW0] at HA HX HP
  obtain ⟨E, hE⟩ : ∃ E, P.chk = E := ⟨_, rfl⟩
  have HE := Lib.hid hE
  rw [hE] at HCk HRc
  clear hE
  obtain ⟨pa, pc, ca, cc, ma, mc, fa, fc, ppa, ppc, lla, llc, cda, cdc⟩ := A
  obtain ⟨np, po, nc, nf, ft, fv, nm, pn, pt, rt, ln, lt, sk, cn, cd⟩ := P
  replace hW0 : W0 = w.alloc (.cells #[.slice pa np pc, .slice ca nc cc, .slice ma nm mc] 26) := hW0
  have HW0 := Lib.hid hW0
  have HSz := Lib.hid hsz
  obtain ⟨e0, e1, e2⟩ := HX.out W0 (by rw [← hsz]; exact Below.refl _ _)
  clear hW0 hsz
  show Calls Try.prog 3 #[.agg #[.slice pa np pc, .slice ca nc cc, .slice ma nm mc]] w _
  go_enter Try.func3, Try.ntmps3
  go_wp2_with fail
  rw [← HW0.out]
  clear e0 e1 e2
  refine (known14_c W0).mono ?_
  rintro e V1 ⟨rfl, hb1⟩
  have HB1 : Hid (Below (w.heap.size + 1) W0 V1) := Lib.hid (HSz.out ▸ hb1)
  clear hb1
  obtain ⟨e0, e1, e2⟩ := HX.out V1 HB1.out
  go_wp2_with fail
  clear e0 e1 e2
  refine (HFew.out V1 (HP.out V1 HB1.out).1).mono ?_
  rintro e V2 ⟨⟨fb, rfl⟩, hb2⟩
  have HB2 : Hid (Below (w.heap.size + 1) W0 V2) := Lib.hid (HB1.out.trans (hb2.mono (by have := HB1.out.size; have := HSz.out; omega)))
  clear hb2
  obtain ⟨e0, e1, e2⟩ := HX.out V2 HB2.out
  cases fb with
  | false =>
    go_wp2
    go_ret
    exact ⟨rfl, (HP.out V2 HB2.out).2⟩
  | true =>
  have hV2 : w.heap.size + 1 ≤ V2.heap.size := by have := HB2.out.size; have := HSz.out; omega
  have hzE : (E == E) = true := by simp
  go_wp2_with fail
  clear e0 e1 e2
  refine (HByt.out V2 (HP.out V2 HB2.out).1).mono ?_
  rintro e V3 ⟨hA, hb3⟩
  have HB3 : Hid (Below (w.heap.size + 1) W0 V3) := Lib.hid (HB2.out.trans (hb3.mono hV2))
  have hV3 : w.heap.size + 1 ≤ V3.heap.size := by have := hb3.size; omega
  clear hb3
  have hA2 : ∃ va s, e = .returned (.tuple #[va, .int .i64 E]) ∧ (∀ V, Below V3.heap.size V3 V → (convert 29 9 va).run Try.prog V = .ok (.string s) V) ∧ ((E ≠ 0 ∧ s = ByteArray.empty) ∨ (E = 0 ∧ s = strB (Pg.bytes ⟨np, po, nc, nf, ft, fv, nm, pn, pt, rt, ln, lt, sk, cn, cd⟩))) := by
    rcases hA with ⟨hc, rfl⟩ | ⟨hc, g, n, cap, rfl, hl⟩
    · rw [HE.out] at hc ⊢
      exact ⟨_, _, rfl, fun V _ => conv_nil V, .inl ⟨hc, rfl⟩⟩
    · have : E = 0 := HE.out.symm.trans hc
      subst this
      exact ⟨_, _, rfl, fun V hb => conv_LB (hl.below hb rfl), .inr ⟨rfl, rfl⟩⟩
  clear hA
  obtain ⟨va, s, rfl, hca, hsa⟩ := hA2
  have HCa := Lib.hid hca
  have HSa := Lib.hid hsa
  clear hca hsa
  obtain ⟨e0, e1, e2⟩ := HX.out V3 HB3.out
  go_wp2_with fail
  clear e0 e1 e2
  refine (HRby.out V3 (HP.out V3 HB3.out).1).mono ?_
  rintro e V ⟨hA, hb3⟩
  have HB4 : Hid (Below (w.heap.size + 1) W0 V) := Lib.hid (HB3.out.trans (hb3.mono hV3))
  have HB34 := Lib.hid hb3
  have hV4 : w.heap.size + 1 ≤ V.heap.size := by have := hb3.size; omega
  clear hb3
  have hA2 : ∃ vb, e = .returned (.tuple #[vb, .int .i64 E]) ∧ (∀ V', Below V.heap.size V V' → (convert 29 9 vb).run Try.prog V' = .ok (.string s) V') := by
    rcases hA with ⟨hc, rfl⟩ | ⟨hc, g, n, cap, rfl, hl⟩
    · rw [HE.out] at hc ⊢
      rcases HSa.out with ⟨_, rfl⟩ | ⟨h0, _⟩
      · exact ⟨_, rfl, fun V _ => conv_nil V⟩
      · exact absurd h0 hc
    · have : E = 0 := HE.out.symm.trans hc
      subst this
      rcases HSa.out with ⟨h0, _⟩ | ⟨_, rfl⟩
      · exact absurd rfl h0
      · exact ⟨_, rfl, fun V hb => conv_LB (hl.below hb rfl)⟩
  clear hA
  obtain ⟨vb, rfl, hcb⟩ := hA2
  have HXV : Hid (∀ w', Below V.heap.size V w' → w'.cell? ⟨w.heap.size, 0, none⟩ = some (.slice pa np pc) ∧ w'.cell? ⟨w.heap.size, 1, none⟩ = some (.slice ca nc cc) ∧ w'.cell? ⟨w.heap.size, 2, none⟩ = some (.slice ma nm mc) ∧ (convert 29 9 va).run Try.prog w' = .ok (.string s) w' ∧ (convert 29 9 vb).run Try.prog w' = .ok (.string s) w' ∧ Hid (Below V.heap.size V w')) := Lib.hid fun w' hb => by
    obtain ⟨x0, x1, x2⟩ := HX.out w' (HB4.out.trans (hb.mono hV4))
    exact ⟨x0, x1, x2, HCa.out w' (HB34.out.trans (hb.mono HB34.out.size)), hcb w' hb, Lib.hid hb⟩
  have HChk : Hid (∀ w', Below V.heap.size V w' → Calls Try.prog 16 #[.agg #[.slice pa np pc, .slice ca nc cc, .slice ma nm mc]] w' fun e w'' => e = .returned (.int .i64 E) ∧ Below w'.heap.size w' w'') := Lib.hid fun w' hb => HCk.out w' (HP.out w' (HB4.out.trans (hb.mono hV4))).1
  have HRef : Hid (∀ w', Below V.heap.size V w' → Calls Try.prog 17 #[.agg #[.slice pa np pc, .slice ca nc cc, .slice ma nm mc]] w' fun e w'' => e = .returned (.int .i64 E) ∧ Below w'.heap.size w' w'') := Lib.hid fun w' hb => HRc.out w' (HP.out w' (HB4.out.trans (hb.mono hV4))).1
  have HEnd : Hid (∀ w', Below V.heap.size V w' → Below w.heap.size w w') := Lib.hid fun w' hb => (HP.out w' (HB4.out.trans (hb.mono hV4))).2
  clear hcb HCk HRc HCa HSa HB34 HB4 HB3 HB2 HB1 HP HX HFew HByt HRby
  go_wp2_with fail
  obtain ⟨e0, e1, e2, t1, t2, hk⟩ := HXV.out V.drew (Below.refl _ _).drew
  go_region_held3 (fun w' => w'.cell? ⟨w.heap.size, 0, none⟩ = some (.slice pa np pc) ∧ w'.cell? ⟨w.heap.size, 1, none⟩ = some (.slice ca nc cc) ∧ w'.cell? ⟨w.heap.size, 2, none⟩ = some (.slice ma nm mc) ∧ (convert 29 9 va).run Try.prog w' = .ok (.string s) w' ∧ (convert 29 9 vb).run Try.prog w' = .ok (.string s) w' ∧ Hid (Below V.heap.size V w')) (first | exact ⟨e0, e1, e2, t1, t2, hk⟩ | exact keepC HXV (by assumption) (by assumption)) (first | (go_at_call 16; refine (HChk.out _ (keepH (by assumption))).mono ?_; rintro e w' ⟨rfl, hb⟩) | (go_at_call 17; refine (HRef.out _ (keepH (by assumption))).mono ?_; rintro e w' ⟨rfl, hb⟩))
  all_goals
    go_wp2
    go_ret
    exact ⟨rfl, HEnd.out _ (keepH (by assumption))⟩
end Go.Proofs.Ytpiafgmncfibmaa
