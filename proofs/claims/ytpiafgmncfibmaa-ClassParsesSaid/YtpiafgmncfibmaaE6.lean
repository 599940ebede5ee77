import Derived.Test.YtpiafgmncfibmaaE5
import Derived.Test.YtpiafgmncfibmaaRows
import Derived.WalkKit
import Derived.ProofKit
import Derived.OpenShut
import Derived.Deep.QuietTactic
import Derived.BigQuiet
import Derived.Outline
import Derived.WalkSmall
import Derived.WalkLawsBesides
import Derived.WalkSpells
import Derived.BigGuardPart
import Derived.RegionTactic
import Derived.Deep.RegionHeld3
import Derived.Lib.Hide
import Derived.Deep.MidRow
import Derived.Below
import Derived.Deep.RegionWith
import Derived.Deep.OwnRows
import Derived.Deep.AppendLies
namespace Go.Proofs.Ytpiafgmncfibmaa
open Go.ChangeShapes Go.WideShapes Go.ChangeAt Go.RowKit
set_option linter.unusedVariables false

/-- Two programs that a call has boxed. -/
theorem boxp_cells (w : World) (P Q : Pg) (A B : Ad) : ∀ w', Below (w.heap.size + 1 + 1) ((w.alloc (.cells (P.cells A) 26)).alloc (.cells (Q.cells B) 26)) w' →
    (w'.cell? ⟨w.heap.size, 0, none⟩ = some (.slice A.pa P.np A.pc) ∧ w'.cell? ⟨w.heap.size, 1, none⟩ = some (.slice A.ca P.nc A.cc) ∧ w'.cell? ⟨w.heap.size, 2, none⟩ = some (.slice A.ma P.nm A.mc)) ∧
    (w'.cell? ⟨w.heap.size + 1, 0, none⟩ = some (.slice B.pa Q.np B.pc) ∧ w'.cell? ⟨w.heap.size + 1, 1, none⟩ = some (.slice B.ca Q.nc B.cc) ∧ w'.cell? ⟨w.heap.size + 1, 2, none⟩ = some (.slice B.ma Q.nm B.mc)) := fun w' hb => by
  have h1 := rowAt_past (rowAt_new w (P.cells A) 26) (.cells (Q.cells B) 26)
  have h2 := rowAt_new (w.alloc (.cells (P.cells A) 26)) (Q.cells B) 26
  rw [show (w.alloc (.cells (P.cells A) 26)).heap.size = w.heap.size + 1 by simp] at h2
  refine ⟨⟨?_, ?_, ?_⟩, ?_, ?_, ?_⟩
  all_goals
    first
    | (rw [hb.cell (p := ⟨w.heap.size, _, none⟩) (by simp; omega)]; exact rowAt_cell h1 _)
    | (rw [hb.cell (p := ⟨w.heap.size + 1, _, none⟩) (by simp)]; exact rowAt_cell h2 _)
theorem eqv_iff (P Q : Pg) : P.eqv Q ↔ (ieqv P.np Q.np P.po Q.po ∧ (P.nc = Q.nc ∧ ∀ i, i < P.nc → P.feq Q i) ∧ (P.nm = Q.nm ∧ ∀ i, i < P.nm → P.meq Q i)) :=
  ⟨fun h => ⟨h.p, ⟨h.c, h.f⟩, h.n, h.m⟩, fun h => ⟨h.1, h.2.1.1, h.2.1.2, h.2.2.1, h.2.2.2⟩⟩
set_option maxRecDepth 100000 in
set_option maxHeartbeats 2000000 in
theorem csame_c (P : Pg) (A : Ad) (Q : Pg) (B : Ad) (w : World) (h : PgAt w P A) (hf : Fits P A) (h' : PgAt w Q B) (hf' : Fits Q B) (b : Bool) (hb : b = true ↔ P.eqv Q) :
    Calls Try.prog 22 #[.agg (P.cells A), .agg (Q.cells B)] w fun e w' => e = .returned (.bool b) ∧ Below w.heap.size w w' := by
  have HX := Lib.hid (boxp_cells w P Q A B)
  obtain ⟨W, hW⟩ : ∃ W, W = (w.alloc (.cells (P.cells A) 26)).alloc (.cells (Q.cells B) 26) := ⟨_, rfl⟩
  have hsz : W.heap.size = w.heap.size + 1 + 1 := by rw [hW]; simp
  have HA : Hid (Below w.heap.size w W) := Lib.hid (by rw [hW]; exact ((Below.refl _ _).alloc (Nat.le_refl _) _).alloc (by simp) _)
  rw [← hW, ← hsz] at HX
  obtain ⟨b0, h0⟩ := some_b (ieqv P.np Q.np P.po Q.po)
  obtain ⟨b1, h1⟩ := some_b (P.nc = Q.nc ∧ ∀ i, i < P.nc → P.feq Q i)
  obtain ⟨b2, h2⟩ := some_b (P.nm = Q.nm ∧ ∀ i, i < P.nm → P.meq Q i)
  have HB2 : Hid (b = true ↔ b0 = true ∧ b1 = true ∧ b2 = true) := Lib.hid (by rw [hb, h0, h1, h2]; exact eqv_iff P Q)
  have C0 : Hid (∀ V, Below w.heap.size w V → Calls Try.prog 55 #[.slice A.pa P.np A.pc, .slice B.pa Q.np B.pc] V fun e w' => e = .returned (.bool b0) ∧ Below V.heap.size V w') := Lib.hid fun V hV =>
    eq55_c _ _ _ _ _ _ P.po Q.po V hf.np hf'.np (Row1.kept h.p (Kept.of hV)) (Row1.kept h'.p (Kept.of hV)) b0 h0
  have C1 : Hid (∀ V, Below w.heap.size w V → Calls Try.prog 56 #[.slice A.ca P.nc A.cc, .slice B.ca Q.nc B.cc, .func (.func 57) #[] #[]] V fun e w' => e = .returned (.bool b1) ∧ Below V.heap.size V w') := Lib.hid fun V hV =>
    ef_fd _ _ _ A.fa P.nf A.fc P.ft P.fv _ _ _ B.fa Q.nf B.fc Q.ft Q.fv V hf.nc hf'.nc ⟨Row1.kept h.k (Kept.of hV), fun i hi => ⟨hf.nf i hi, Row2.kept (h.f i hi) (Kept.of hV)⟩⟩ ⟨Row1.kept h'.k (Kept.of hV), fun i hi => ⟨hf'.nf i hi, Row2.kept (h'.f i hi) (Kept.of hV)⟩⟩ b1 h1
  have C2 : Hid (∀ V, Below w.heap.size w V → Calls Try.prog 58 #[.slice A.ma P.nm A.mc, .slice B.ma Q.nm B.mc, .func (.func 59) #[] #[]] V fun e w' => e = .returned (.bool b2) ∧ Below V.heap.size V w') := Lib.hid fun V hV =>
    ef_m P A Q B V (h.kept (Kept.of hV)) hf (h'.kept (Kept.of hV)) hf' b2 h2
  clear h hf h' hf' hb h0 h1 h2
  obtain ⟨pa, pc, ca, cc, ma, mc, fa, fc, ppa, ppc, lla, llc, cda, cdc⟩ := A
  obtain ⟨np, po, nc, nf, ft, fv, nm, pn, pt, rt, ln, lt, sk, cn, cd⟩ := P
  obtain ⟨pa', pc', ca', cc', ma', mc', fa', fc', ppa', ppc', lla', llc', cda', cdc'⟩ := B
  obtain ⟨np', po', nc', nf', ft', fv', nm', pn', pt', rt', ln', lt', sk', cn', cd'⟩ := Q
  replace hW : W = (w.alloc (.cells #[.slice pa np pc, .slice ca nc cc, .slice ma nm mc] 26)).alloc (.cells #[.slice pa' np' pc', .slice ca' nc' cc', .slice ma' nm' mc'] 26) := hW
  have HW := Lib.hid hW
  clear hW hsz
  show Calls Try.prog 22 #[.agg #[.slice pa np pc, .slice ca nc cc, .slice ma nm mc], .agg #[.slice pa' np' pc', .slice ca' nc' cc', .slice ma' nm' mc']] w _
  go_enter Try.func22, Try.ntmps22
  go_wp2_with fail
  rw [← HW.out]
  refine (C0.out W HA.out).mono ?_
  rintro e w1 ⟨rfl, hb⟩
  obtain ⟨⟨_, x1, _⟩, _, y1, _⟩ := HX.out w1 hb
  have HQ := Lib.hid hb
  have HQa := Lib.hid (HA.out.trans (hb.mono HA.out.size))
  clear hb
  cases b0 with
  | false =>
    obtain rfl : b = false := bool_false_of_ne fun h => absurd (HB2.out.1 h).1 (by decide)
    go_wp2
    go_ret
    exact ⟨rfl, HQa.out⟩
  | true =>
  have HB3 : Hid (b = true ↔ b1 = true ∧ b2 = true) := Lib.hid ⟨fun h => (HB2.out.1 h).2, fun h => HB2.out.2 ⟨rfl, h⟩⟩
  clear HB2
  go_wp2_with fail
  clear x1 y1
  refine (C1.out w1 HQa.out).mono ?_
  rintro e w2 ⟨rfl, hb⟩
  have HQ2 := Lib.hid (HQ.out.trans (hb.mono HQ.out.size))
  have HQb := Lib.hid (HQa.out.trans (hb.mono HQa.out.size))
  obtain ⟨⟨_, _, x2⟩, _, _, y2⟩ := HX.out w2 HQ2.out
  clear hb
  cases b1 with
  | false =>
    obtain rfl : b = false := bool_false_of_ne fun h => absurd (HB3.out.1 h).1 (by decide)
    go_wp2
    go_ret
    exact ⟨rfl, HQb.out⟩
  | true =>
  obtain rfl : b = b2 := by cases b2 <;> cases b <;> first | rfl | exact absurd (HB3.out.1 rfl).2 (by decide) | exact absurd (HB3.out.2 ⟨rfl, rfl⟩) (by decide)
  go_wp2_with fail
  clear x2 y2
  refine (C2.out w2 HQb.out).mono ?_
  rintro e w3 ⟨rfl, hb⟩
  have HQc := Lib.hid (HQb.out.trans (hb.mono HQb.out.size))
  clear hb
  go_wp2
  go_ret
  exact ⟨rfl, HQc.out⟩
end Go.Proofs.Ytpiafgmncfibmaa
