import Derived.Test.YtpiafgmncfibmaaE4
import Derived.Test.YtpiafgmncfibmaaRows
import Derived.WalkKit
import Derived.ProofKit
import Derived.OpenShut
import Derived.Deep.QuietTactic
import Derived.BigQuiet
import Derived.Outline
import Derived.WalkSmall
import Derived.WalkLawsBesides
import Derived.WalkSpells
import Derived.BigGuardPart
import Derived.RegionTactic
import Derived.Deep.RegionHeld3
import Derived.Lib.Hide
import Derived.Deep.MidRow
import Derived.Below
import Derived.Deep.RegionWith
import Derived.Deep.OwnRows
import Derived.Deep.AppendLies
namespace Go.Proofs.Ytpiafgmncfibmaa
open Go.ChangeShapes Go.WideShapes Go.ChangeAt Go.RowKit
set_option linter.unusedVariables false

set_option maxRecDepth 100000 in
set_option maxHeartbeats 2000000 in
theorem ef_m (P : Pg) (A : Ad) (Q : Pg) (B : Ad) (w : World) (h : PgAt w P A) (hf : Fits P A) (h' : PgAt w Q B) (hf' : Fits Q B) (b : Bool) (hb : b = true ↔ P.nm = Q.nm ∧ ∀ i, i < P.nm → P.meq Q i) :
    Calls Try.prog 58 #[.slice A.ma P.nm A.mc, .slice B.ma Q.nm B.mc, .func (.func 59) #[] #[]] w fun e w' => e = .returned (.bool b) ∧ Below w.heap.size w w' := by
  have HB := Lib.hid hb
  have HP := Lib.hid h
  have HQ' := Lib.hid h'
  have HF := Lib.hid hf
  have HF' := Lib.hid hf'
  have hn := hf.nm
  have hn' := hf'.nm
  clear h h' hf hf' hb
  obtain ⟨pa, pc, ca, cc, ma, mc, fa, fc, ppa, ppc, lla, llc, cda, cdc⟩ := A
  obtain ⟨np, po, nc, nf, ft, fv, nm, pn, pt, rt, ln, lt, sk, cn, cd⟩ := P
  obtain ⟨pa', pc', ca', cc', ma', mc', fa', fc', ppa', ppc', lla', llc', cda', cdc'⟩ := B
  obtain ⟨np', po', nc', nf', ft', fv', nm', pn', pt', rt', ln', lt', sk', cn', cd'⟩ := Q
  unfold Big at hn hn'
  dsimp only at hn hn'
  show Calls Try.prog 58 #[.slice ma nm mc, .slice ma' nm' mc', .func (.func 59) #[] #[]] w _
  by_cases hnm : nm = nm'
  case neg =>
    obtain rfl : b = false := bool_false_of_ne fun h => hnm (HB.out.1 h).1
    have d : ((nm : Int) != (nm' : Int)) = true := by simpa using (show ¬ (nm : Int) = (nm' : Int) by omega)
    go_enter Try.func58, Try.ntmps58
    go_wp2
    go_ret
    exact ⟨rfl, Below.refl _ _⟩
  have HB2 : Hid (b = true ↔ ∀ i, i < nm → Pg.meq ⟨np, po, nc, nf, ft, fv, nm, pn, pt, rt, ln, lt, sk, cn, cd⟩ ⟨np', po', nc', nf', ft', fv', nm', pn', pt', rt', ln', lt', sk', cn', cd'⟩ i) := Lib.hid ⟨fun h => (HB.out.1 h).2, fun h => HB.out.2 ⟨hnm, h⟩⟩
  clear HB
  subst hnm
  go_enter Try.func58, Try.ntmps58
  go_wp2
  go_loopw [17, 7, 8, 9] (fun i _ _ _ wr => ∃ j : Nat, j ≤ nm ∧ i = .int .i64 j ∧ Hid ((∀ k, k < j → Pg.meq ⟨np, po, nc, nf, ft, fv, nm, pn, pt, rt, ln, lt, sk, cn, cd⟩ ⟨np', po', nc', nf', ft', fv', nm, pn', pt', rt', ln', lt', sk', cn', cd'⟩ k) ∧ Below w.heap.size w wr)) (fun i _ _ _ _ => nm - (intOf i).toNat)
  case atStart => exact ⟨0, by omega, rfl, Lib.hid ⟨fun k hk => absurd hk (Nat.not_lt_zero k), Below.refl _ _⟩⟩
  case round =>
    obtain ⟨j, hj, rfl, HQ⟩ := hrel
    by_cases hjn : j < nm
    · have gj : (j : Int) < nm := by omega
      rcases (show Row5 wr ma nm (fun i => .slice (ppa i) (pn i) (ppc i)) (fun i => .int .i64 (rt i)) (fun i => .slice (lla i) (ln i) (llc i)) (fun i => .int .i64 (sk i)) (fun i => .slice (cda i) (cn i) (cdc i)) from Row5.kept HP.out.m (Kept.of HQ.out.2)) with h0 | ⟨x, o, rfl, hx, hc⟩
      · exact absurd h0 (by omega)
      obtain ⟨c0, c1, c2, c3, c4⟩ := hc j hjn; clear hc
      rcases (show Row5 wr ma' nm (fun i => .slice (ppa' i) (pn' i) (ppc' i)) (fun i => .int .i64 (rt' i)) (fun i => .slice (lla' i) (ln' i) (llc' i)) (fun i => .int .i64 (sk' i)) (fun i => .slice (cda' i) (cn' i) (cdc' i)) from Row5.kept HQ'.out.m (Kept.of HQ.out.2)) with h0 | ⟨x', o', rfl, hx', hc⟩
      · exact absurd h0 (by omega)
      obtain ⟨k0, k1, k2, k3, k4⟩ := hc j hjn; clear hc
      dsimp only at c0 c1 c2 c3 c4 k0 k1 k2 k3 k4
      obtain ⟨q, hq⟩ := some_b (Pg.meq ⟨np, po, nc, nf, ft, fv, nm, pn, pt, rt, ln, lt, sk, cn, cd⟩ ⟨np', po', nc', nf', ft', fv', nm, pn', pt', rt', ln', lt', sk', cn', cd'⟩ j)
      have HM : Hid (∀ V, Below w.heap.size w V → Calls Try.prog 59 #[.agg #[.slice (ppa j) (pn j) (ppc j), .int .i64 (rt j), .slice (lla j) (ln j) (llc j), .int .i64 (sk j), .slice (cda j) (cn j) (cdc j)], .agg #[.slice (ppa' j) (pn' j) (ppc' j), .int .i64 (rt' j), .slice (lla' j) (ln' j) (llc' j), .int .i64 (sk' j), .slice (cda' j) (cn' j) (cdc' j)]] V fun e w' => e = .returned (.bool q) ∧ Below V.heap.size V w') := Lib.hid fun V hV =>
        sm_c _ _ _ (pt j) _ _ _ (lt j) _ _ _ (fun i => (cd j i : Nat)) _ _ _ (pt' j) _ _ _ (lt' j) _ _ _ (fun i => (cd' j i : Nat)) _ _ _ _ V (HF.out.pn j hjn) (HF.out.ln j hjn) (HF.out.cn j hjn) (HF'.out.pn j hjn) (HF'.out.ln j hjn) (HF'.out.cn j hjn)
          (Row1.kept (HP.out.a j hjn) (Kept.of hV)) (Row1.kept (HP.out.l j hjn) (Kept.of hV)) (Row1.kept (HP.out.d j hjn) (Kept.of hV)) (Row1.kept (HQ'.out.a j hjn) (Kept.of hV)) (Row1.kept (HQ'.out.l j hjn) (Kept.of hV)) (Row1.kept (HQ'.out.d j hjn) (Kept.of hV)) q hq
      have HE := Lib.hid hq
      clear hq
      cases q with
      | true =>
        have HE2 := Lib.hid (HE.out.1 rfl)
        clear HE
        go_wp2_with (first | (go_at_call 59; refine (HM.out _ ((HQ.out.2.alloc HQ.out.2.size _).alloc (by have := HQ.out.2.size; simp; omega) _)).mono ?_; rintro e w2 ⟨rfl, hb2⟩; have HQ2 := Lib.hid (((HQ.out.2.alloc HQ.out.2.size _).alloc (by have := HQ.out.2.size; simp; omega) _).trans (hb2.mono (by have := HQ.out.2.size; simp; omega))); clear hb2))
        exact ⟨⟨j + 1, by omega, by go_num, Lib.hid ⟨forall_snoc HQ.out.1 HE2.out, HQ2.out⟩⟩, by simp [intOf]; omega⟩
      | false =>
        obtain rfl : b = false := bool_false_of_ne fun h => absurd (HE.out.2 (HB2.out.1 h j hjn)) (by decide)
        go_wp2_with (first | (go_at_call 59; refine (HM.out _ ((HQ.out.2.alloc HQ.out.2.size _).alloc (by have := HQ.out.2.size; simp; omega) _)).mono ?_; rintro e w2 ⟨rfl, hb2⟩; have HQ2 := Lib.hid (((HQ.out.2.alloc HQ.out.2.size _).alloc (by have := HQ.out.2.size; simp; omega) _).trans (hb2.mono (by have := HQ.out.2.size; simp; omega))); clear hb2))
        go_ret
        exact ⟨rfl, HQ2.out⟩
    · have hjm : j = nm := by omega
      subst hjm
      obtain rfl : b = true := HB2.out.2 HQ.out.1
      go_wp2
      go_ret
      exact ⟨rfl, HQ.out.2⟩
end Go.Proofs.Ytpiafgmncfibmaa
