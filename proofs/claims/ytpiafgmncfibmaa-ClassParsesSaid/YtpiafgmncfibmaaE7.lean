import Derived.Test.YtpiafgmncfibmaaE6
import Derived.Test.YtpiafgmncfibmaaCv
import Derived.Test.YtpiafgmncfibmaaRows
import Derived.WalkKit
import Derived.ProofKit
import Derived.OpenShut
import Derived.Deep.QuietTactic
import Derived.BigQuiet
import Derived.Outline
import Derived.WalkSmall
import Derived.WalkLawsBesides
import Derived.WalkSpells
import Derived.BigGuardPart
import Derived.RegionTactic
import Derived.Deep.RegionHeld3
import Derived.Lib.Hide
import Derived.Deep.MidRow
import Derived.Below
import Derived.Deep.RegionWith
import Derived.Deep.OwnRows
import Derived.Deep.AppendLies
namespace Go.Proofs.Ytpiafgmncfibmaa
open Go.ChangeShapes Go.WideShapes Go.ChangeAt Go.RowKit
set_option linter.unusedVariables false

theorem foldl_push : ∀ (xs : List Int) (r : ByteArray), (xs.foldl (fun r n => r.push (UInt8.ofNat n.toNat)) r).data.toList = r.data.toList ++ xs.map fun n => UInt8.ofNat n.toNat
  | [], r => by simp
  | x :: xs, r => by rw [List.foldl_cons, foldl_push xs, List.map_cons]; simp [ByteArray.push]
theorem strB_list (xs : List Int) : (strB xs).data.toList = xs.map fun n => UInt8.ofNat n.toNat := by
  unfold strB
  rw [foldl_push]
  rfl
theorem strB_iff {C D : Nat → Nat} {n m : Nat} (hC : ∀ i, i < n → C i < 256) (hD : ∀ i, i < m → D i < 256) : strB (codeB C n) = strB (codeB D m) ↔ ieqv n m (fun i => (C i : Nat)) (fun i => (D i : Nat)) := by
  constructor
  · intro h
    have h1 : (codeB C n).map (fun x => UInt8.ofNat x.toNat) = (codeB D m).map (fun x => UInt8.ofNat x.toNat) := by rw [← strB_list, ← strB_list, h]
    have hl : n = m := by
      have := congrArg List.length h1
      simpa [codeB_len] using this
    subst hl
    refine ⟨rfl, fun i hi => ?_⟩
    have h2 := congrArg (fun l => l[i]?) h1
    simp only [List.getElem?_map] at h2
    unfold codeB at h2
    rw [List.getElem?_map, List.getElem?_map, List.getElem?_range hi] at h2
    simp only [Option.map_some, Option.some.injEq, Int.toNat_natCast] at h2
    have h3 := congrArg UInt8.toNat h2
    rw [UInt8.toNat_ofNat', UInt8.toNat_ofNat', Nat.mod_eq_of_lt (hC i hi), Nat.mod_eq_of_lt (hD i hi)] at h3
    show ((C i : Nat) : Int) = ((D i : Nat) : Int)
    rw [h3]
  · rintro ⟨rfl, h⟩
    have : codeB C n = codeB D n := by
      unfold codeB
      exact List.map_congr_left fun i hi => h i (List.mem_range.1 hi)
    rw [this]
theorem conv_row {w : World} {a : Option Addr} {n c : Nat} {C : Nat → Nat} (h : Row1 w a n (fun j => .int .u8 (C j : Nat))) : (convert 29 9 (.slice a n c)).run Try.prog w = .ok (.string (strB (codeB C n))) w := by
  by_cases hn : n = 0
  · subst hn
    rw [run_convert_bytes_string w 29 9 5 a 0 c Try.underlying29 Try.underlying5 Try.underlying9]
    cases a with
    | none => rfl
    | some x =>
      have hl := run_loadCells_list (P := Try.prog) w x (([] : List Int).map (Value.int .u8)) (fun j v hj => by simp at hj)
      exact run_bytesToString w x 0 c [] hl
  rcases h with h | ⟨b, o, rfl, hb, hc⟩
  · exact absurd h hn
  rw [run_convert_bytes_string w 29 9 5 (some ⟨b, o, none⟩) n c Try.underlying29 Try.underlying5 Try.underlying9]
  have hl := run_loadCells_list (P := Try.prog) w ⟨b, o, none⟩ ((codeB C n).map (Value.int .u8)) (fun j v hj => by
    rw [List.getElem?_map] at hj
    cases hx : (codeB C n)[j]? with
    | none => rw [hx] at hj; cases hj
    | some x =>
      rw [hx] at hj
      injection hj with hj
      obtain ⟨h1, rfl⟩ := codeB_at hx
      rw [← hj, Addr.add_lit]
      exact hc j h1)
  rw [List.length_map, codeB_len] at hl
  exact run_bytesToString w _ _ _ _ hl
set_option maxRecDepth 100000 in
set_option maxHeartbeats 4000000 in
theorem rsame_c (P : Pg) (A : Ad) (Q : Pg) (B : Ad) (w : World) (h : PgAt w P A) (hf : Fits P A) (h' : PgAt w Q B) (hf' : Fits Q B) (b : Bool) (hb : b = true ↔ P.eqv Q) :
    Calls Try.prog 20 #[.agg (P.cells A), .agg (Q.cells B)] w fun e w' => e = .returned (.bool b) ∧ Below w.heap.size w w' := by
  have HX := Lib.hid (boxp_cells w P Q A B)
  obtain ⟨W, hW⟩ : ∃ W, W = (w.alloc (.cells (P.cells A) 26)).alloc (.cells (Q.cells B) 26) := ⟨_, rfl⟩
  have hsz : W.heap.size = w.heap.size + 1 + 1 := by rw [hW]; simp
  have HA : Hid (Below w.heap.size w W) := Lib.hid (by rw [hW]; exact ((Below.refl _ _).alloc (Nat.le_refl _) _).alloc (by simp) _)
  rw [← hW, ← hsz] at HX
  have HAll : Hid (∀ V, Below W.heap.size W V → PgAt V P A ∧ PgAt V Q B ∧ Below w.heap.size w V) := Lib.hid fun V hV => (have hB := HA.out.trans (hV.mono HA.out.size); ⟨h.kept (Kept.of hB), h'.kept (Kept.of hB), hB⟩)
  have HF := Lib.hid hf
  have HF' := Lib.hid hf'
  have HB := Lib.hid (hb.trans (eqv_iff P Q))
  have hn := hf.np
  have hn1 := hf.nc
  have hn2 := hf.nm
  have hm := hf'.np
  have hm1 := hf'.nc
  have hm2 := hf'.nm
  clear h hf h' hf' hb
  obtain ⟨pa, pc, ca, cc, ma, mc, fa, fc, ppa, ppc, lla, llc, cda, cdc⟩ := A
  obtain ⟨np, po, nc, nf, ft, fv, nm, pn, pt, rt, ln, lt, sk, cn, cd⟩ := P
  obtain ⟨pa', pc', ca', cc', ma', mc', fa', fc', ppa', ppc', lla', llc', cda', cdc'⟩ := B
  obtain ⟨np', po', nc', nf', ft', fv', nm', pn', pt', rt', ln', lt', sk', cn', cd'⟩ := Q
  replace hW : W = (w.alloc (.cells #[.slice pa np pc, .slice ca nc cc, .slice ma nm mc] 26)).alloc (.cells #[.slice pa' np' pc', .slice ca' nc' cc', .slice ma' nm' mc'] 26) := hW
  have HW := Lib.hid hW
  unfold Big at hn hn1 hn2 hm hm1 hm2
  dsimp only at hn hn1 hn2 hm hm1 hm2
  have B0 : Hid (Below W.heap.size W W) := Lib.hid (Below.refl _ _)
  clear hsz
  show Calls Try.prog 20 #[.agg #[.slice pa np pc, .slice ca nc cc, .slice ma nm mc], .agg #[.slice pa' np' pc', .slice ca' nc' cc', .slice ma' nm' mc']] w _
  by_cases q1 : np = np'
  case neg =>
    obtain rfl : b = false := bool_false_of_ne fun h => q1 (HB.out.1 h).1.1
    have d : ((np : Int) != (np' : Int)) = true := by simpa using (show ¬ (np : Int) = (np' : Int) by omega)
    clear hW
    go_enter Try.func20, Try.ntmps20
    go_wp2
    go_ret
    exact ⟨rfl, by first | exact HA.out | (rw [← HW.out]; exact HA.out)⟩
  by_cases q2 : nc = nc'
  case neg =>
    obtain rfl : b = false := bool_false_of_ne fun h => q2 (HB.out.1 h).2.1.1
    have d1 : ((np : Int) != (np' : Int)) = false := by simpa using (show (np : Int) = (np' : Int) by omega)
    have d : ((nc : Int) != (nc' : Int)) = true := by simpa using (show ¬ (nc : Int) = (nc' : Int) by omega)
    clear hW q1
    go_enter Try.func20, Try.ntmps20
    go_wp2
    go_ret
    exact ⟨rfl, by first | exact HA.out | (rw [← HW.out]; exact HA.out)⟩
  by_cases q3 : nm = nm'
  case neg =>
    obtain rfl : b = false := bool_false_of_ne fun h => q3 (HB.out.1 h).2.2.1
    have d1 : ((np : Int) != (np' : Int)) = false := by simpa using (show (np : Int) = (np' : Int) by omega)
    have d2 : ((nc : Int) != (nc' : Int)) = false := by simpa using (show (nc : Int) = (nc' : Int) by omega)
    have d : ((nm : Int) != (nm' : Int)) = true := by simpa using (show ¬ (nm : Int) = (nm' : Int) by omega)
    clear hW q1 q2
    go_enter Try.func20, Try.ntmps20
    go_wp2
    go_ret
    exact ⟨rfl, by first | exact HA.out | (rw [← HW.out]; exact HA.out)⟩
  have HB2 : Hid (b = true ↔ (∀ i, i < np → po i = po' i) ∧ (∀ i, i < nc → Pg.feq ⟨np, po, nc, nf, ft, fv, nm, pn, pt, rt, ln, lt, sk, cn, cd⟩ ⟨np', po', nc', nf', ft', fv', nm', pn', pt', rt', ln', lt', sk', cn', cd'⟩ i) ∧ (∀ i, i < nm → Pg.meq ⟨np, po, nc, nf, ft, fv, nm, pn, pt, rt, ln, lt, sk, cn, cd⟩ ⟨np', po', nc', nf', ft', fv', nm', pn', pt', rt', ln', lt', sk', cn', cd'⟩ i)) := Lib.hid ⟨fun h => ⟨(HB.out.1 h).1.2, (HB.out.1 h).2.1.2, (HB.out.1 h).2.2.2⟩, fun h => HB.out.2 ⟨⟨q1, h.1⟩, ⟨q2, h.2.1⟩, ⟨q3, h.2.2⟩⟩⟩
  clear HB
  subst q1 q2 q3
  clear hW hm hm1 hm2
  go_enter Try.func20, Try.ntmps20
  go_wp2
  try rw [← HW.out]
  go_loopw [5] (fun ix wr => ∃ i : Nat, i ≤ np ∧ ix = .int .i64 i ∧ Hid ((∀ k, k < i → po k = po' k) ∧ Below W.heap.size W wr)) (fun ix _ => np - (intOf ix).toNat)
  case atStart => exact ⟨0, by omega, rfl, Lib.hid ⟨fun k hk => absurd hk (Nat.not_lt_zero k), by first | exact B0.out | (rw [HW.out] at B0; rw [HW.out]; exact B0.out)⟩⟩
  case round =>
    obtain ⟨i, hi, rfl, HQ⟩ := hrel
    obtain ⟨⟨x0, x1, x2⟩, y0, y1, y2⟩ := HX.out wr HQ.out.2
    by_cases hin : i < np
    · have gi : (i : Int) < np := by omega
      rcases (show Row1 wr pa np (fun i => .int .i64 (po i)) from (HAll.out _ HQ.out.2).1.p) with h0 | ⟨z, o, rfl, hz, hc⟩
      · exact absurd h0 (by omega)
      have c0 := hc i hin; clear hc
      rcases (show Row1 wr pa' np (fun i => .int .i64 (po' i)) from (HAll.out _ HQ.out.2).2.1.p) with h0 | ⟨z', o', rfl, hz', hc⟩
      · exact absurd h0 (by omega)
      have c1 := hc i hin; clear hc
      dsimp only at c0 c1
      by_cases heq : po i = po' i
      · have d : (po i != po' i) = false := by simpa using heq
        have HE := Lib.hid heq
        clear heq
        go_wp2
        go_quiet (fail)
        go_wp2
        exact ⟨⟨i + 1, by omega, by go_num, Lib.hid ⟨forall_snoc HQ.out.1 HE.out, below_drewN HQ.out.2 _⟩⟩, by simp [intOf]; omega⟩
      · have d : (po i != po' i) = true := by simpa using heq
        obtain rfl : b = false := bool_false_of_ne fun h => heq ((HB2.out.1 h).1 i hin)
        clear heq
        go_wp2
        go_quiet (fail)
        go_wp2
        go_ret
        exact ⟨rfl, (HAll.out _ (below_drewN HQ.out.2 _)).2.2⟩
    · have hni : np = i := by omega
      subst hni
      have HB3 : Hid (b = true ↔ (∀ i, i < nc → Pg.feq ⟨np, po, nc, nf, ft, fv, nm, pn, pt, rt, ln, lt, sk, cn, cd⟩ ⟨np, po', nc, nf', ft', fv', nm, pn', pt', rt', ln', lt', sk', cn', cd'⟩ i) ∧ (∀ i, i < nm → Pg.meq ⟨np, po, nc, nf, ft, fv, nm, pn, pt, rt, ln, lt, sk, cn, cd⟩ ⟨np, po', nc, nf', ft', fv', nm, pn', pt', rt', ln', lt', sk', cn', cd'⟩ i)) := Lib.hid ⟨fun h => (HB2.out.1 h).2, fun h => HB2.out.2 ⟨HQ.out.1, h⟩⟩
      clear HB2
      have HC := Lib.hid HQ.out.2
      clear HQ
      go_wp2
      clear x0 x1 x2 y0 y1 y2
      go_loopw [6, 7] (fun ix _ wr => ∃ i : Nat, i ≤ nc ∧ ix = .int .i64 i ∧ Hid ((∀ k, k < i → Pg.feq ⟨np, po, nc, nf, ft, fv, nm, pn, pt, rt, ln, lt, sk, cn, cd⟩ ⟨np, po', nc, nf', ft', fv', nm, pn', pt', rt', ln', lt', sk', cn', cd'⟩ k) ∧ Below W.heap.size W wr)) (fun ix _ _ => nc - (intOf ix).toNat)
      case atStart => exact ⟨0, by omega, rfl, Lib.hid ⟨fun k hk => absurd hk (Nat.not_lt_zero k), HC.out⟩⟩
      case round =>
        clear HC
        obtain ⟨i, hi, rfl, HQ⟩ := hrel
        obtain ⟨⟨x0, x1, x2⟩, y0, y1, y2⟩ := HX.out wr HQ.out.2
        by_cases hin : i < nc
        · have gi : (i : Int) < nc := by omega
          have HK1 : Hid (∀ V, Below W.heap.size W V → ∃ z o, ca = some ⟨z, o, none⟩ ∧ V.cell? ⟨z, o + i, none⟩ = some (.slice (fa i) (nf i) (fc i))) := Lib.hid fun V hV => by
            rcases (show Row1 V ca nc (fun i => .slice (fa i) (nf i) (fc i)) from (HAll.out _ hV).1.k) with h0 | ⟨z, o, hz, _, hc⟩
            · exact absurd h0 (by omega)
            · exact ⟨z, o, hz, hc i hin⟩
          have HK2 : Hid (∀ V, Below W.heap.size W V → ∃ z o, ca' = some ⟨z, o, none⟩ ∧ V.cell? ⟨z, o + i, none⟩ = some (.slice (fa' i) (nf' i) (fc' i))) := Lib.hid fun V hV => by
            rcases (show Row1 V ca' nc (fun i => .slice (fa' i) (nf' i) (fc' i)) from (HAll.out _ hV).2.1.k) with h0 | ⟨z, o, hz, _, hc⟩
            · exact absurd h0 (by omega)
            · exact ⟨z, o, hz, hc i hin⟩
          obtain ⟨z, o, hca, c0⟩ := HK1.out wr HQ.out.2
          obtain ⟨z', o', hca', c1⟩ := HK2.out wr HQ.out.2
          have HC1 : Hid (∀ V, Below W.heap.size W V → V.cell? ⟨z, o + i, none⟩ = some (.slice (fa i) (nf i) (fc i)) ∧ V.cell? ⟨w.heap.size, 1, none⟩ = some (.slice (some ⟨z, o, none⟩) nc cc)) := Lib.hid fun V hV => by
            obtain ⟨z2, o2, h1, h2⟩ := HK1.out V hV
            rw [hca] at h1
            injection h1 with h1
            injection h1 with e1 e2
            subst e1 e2
            exact ⟨h2, by rw [← hca]; exact (HX.out V hV).1.2.1⟩
          have HC2 : Hid (∀ V, Below W.heap.size W V → V.cell? ⟨z', o' + i, none⟩ = some (.slice (fa' i) (nf' i) (fc' i)) ∧ V.cell? ⟨w.heap.size + 1, 1, none⟩ = some (.slice (some ⟨z', o', none⟩) nc cc')) := Lib.hid fun V hV => by
            obtain ⟨z2, o2, h1, h2⟩ := HK2.out V hV
            rw [hca'] at h1
            injection h1 with h1
            injection h1 with e1 e2
            subst e1 e2
            exact ⟨h2, by rw [← hca']; exact (HX.out V hV).2.2.1⟩
          clear x1 y1 hca hca' HK1 HK2
          obtain ⟨_, x1⟩ := HC1.out wr HQ.out.2
          obtain ⟨_, y1⟩ := HC2.out wr HQ.out.2
          have hfi := HF.out.nf i hin
          unfold Big at hfi
          dsimp only at hfi
          by_cases hl : nf i = nf' i
          case neg =>
            have d : ((nf i : Int) != (nf' i : Int)) = true := by simpa using (show ¬ (nf i : Int) = (nf' i : Int) by omega)
            obtain rfl : b = false := bool_false_of_ne fun h => hl ((HB3.out.1 h).1 i hin).1
            go_wp2
            go_quiet (fail)
            go_wp2
            go_ret
            exact ⟨rfl, (HAll.out _ (below_drewN HQ.out.2 _)).2.2⟩
          have d : ((nf i : Int) != (nf' i : Int)) = false := by simpa using (show (nf i : Int) = (nf' i : Int) by omega)
          have HLn := Lib.hid hl
          clear hl
          go_wp2
          go_quiet (fail)
          go_wp2
          clear x0 x1 x2 y0 y1 y2 c0 c1 d
          go_loopw [7] (fun ix wr => ∃ j : Nat, j ≤ nf i ∧ ix = .int .i64 j ∧ Hid ((∀ k, k < j → ft i k = ft' i k ∧ fv i k = fv' i k) ∧ Below W.heap.size W wr)) (fun ix _ => nf i - (intOf ix).toNat)
          case atStart => exact ⟨0, by omega, rfl, Lib.hid ⟨fun k hk => absurd hk (Nat.not_lt_zero k), below_drewN HQ.out.2 _⟩⟩
          case round =>
            obtain ⟨j, hj, rfl, HM⟩ := hrel
            obtain ⟨c0, x1⟩ := HC1.out wr HM.out.2
            obtain ⟨c1, y1⟩ := HC2.out wr HM.out.2
            by_cases hjn : j < nf i
            · have gj : (j : Int) < nf i := by omega
              have gj' : (j : Int) < nf' i := by have := HLn.out; omega
              rcases (show Row2 wr (fa i) (nf i) (fun j => .int .i64 (ft i j)) (fun j => .bool (fv i j)) from (HAll.out _ HM.out.2).1.f i hin) with h0 | ⟨u, v, hfa, hu, hc⟩
              · exact absurd h0 (by omega)
              obtain ⟨k0, k1⟩ := hc j hjn; clear hc
              rcases (show Row2 wr (fa' i) (nf' i) (fun j => .int .i64 (ft' i j)) (fun j => .bool (fv' i j)) from (HAll.out _ HM.out.2).2.1.f i hin) with h0 | ⟨u', v', hfa', hu', hc⟩
              · exact absurd h0 (by have := HLn.out; omega)
              obtain ⟨l0, l1⟩ := hc j (by have := HLn.out; omega); clear hc
              dsimp only at k0 k1 l0 l1
              rw [hfa] at c0
              rw [hfa'] at c1
              clear hfa hfa'
              by_cases heq : ft i j = ft' i j ∧ fv i j = fv' i j
              · obtain ⟨h1, h2⟩ := heq
                rw [← h1] at l0
                rw [← h2] at l1
                have HE := Lib.hid (And.intro h1 h2)
                clear h1 h2
                go_wp2
                go_quiet (fail)
                go_wp2
                exact ⟨⟨j + 1, by omega, by go_num, Lib.hid ⟨forall_snoc HM.out.1 HE.out, below_drewN HM.out.2 _⟩⟩, by simp [intOf]; omega⟩
              · obtain rfl : b = false := bool_false_of_ne fun h => heq (((HB3.out.1 h).1 i hin).2 j hjn)
                by_cases h1 : ft i j = ft' i j
                · have h2 : ¬ fv i j = fv' i j := fun h => heq ⟨h1, h⟩
                  rw [← h1] at l0
                  clear heq h1
                  cases hx : fv i j with
                  | true =>
                    cases hy : fv' i j with
                    | true => exact absurd (hx.trans hy.symm) h2
                    | false =>
                      rw [hx] at k1
                      rw [hy] at l1
                      clear h2 hx hy
                      go_wp2
                      go_quiet (fail)
                      go_wp2
                      go_ret
                      exact ⟨rfl, (HAll.out _ (below_drewN HM.out.2 _)).2.2⟩
                  | false =>
                    cases hy : fv' i j with
                    | false => exact absurd (hx.trans hy.symm) h2
                    | true =>
                      rw [hx] at k1
                      rw [hy] at l1
                      clear h2 hx hy
                      go_wp2
                      go_quiet (fail)
                      go_wp2
                      go_ret
                      exact ⟨rfl, (HAll.out _ (below_drewN HM.out.2 _)).2.2⟩
                · have d : (ft i j == ft' i j) = false := by simpa using h1
                  clear heq h1
                  go_wp2
                  go_quiet (fail)
                  go_wp2
                  go_ret
                  exact ⟨rfl, (HAll.out _ (below_drewN HM.out.2 _)).2.2⟩
            · have hj2 : j = nf i := by omega
              subst hj2
              have HE : Hid (Pg.feq ⟨np, po, nc, nf, ft, fv, nm, pn, pt, rt, ln, lt, sk, cn, cd⟩ ⟨np, po', nc, nf', ft', fv', nm, pn', pt', rt', ln', lt', sk', cn', cd'⟩ i) := Lib.hid ⟨HLn.out, HM.out.1⟩
              go_wp2
              exact ⟨⟨i + 1, by omega, by go_num, Lib.hid ⟨forall_snoc HQ.out.1 HE.out, HM.out.2⟩⟩, by simp [intOf]; omega⟩
        · have hni : nc = i := by omega
          subst hni
          have HB4 : Hid (b = true ↔ ∀ i, i < nm → Pg.meq ⟨np, po, nc, nf, ft, fv, nm, pn, pt, rt, ln, lt, sk, cn, cd⟩ ⟨np, po', nc, nf', ft', fv', nm, pn', pt', rt', ln', lt', sk', cn', cd'⟩ i) := Lib.hid ⟨fun h => (HB3.out.1 h).2, fun h => HB3.out.2 ⟨HQ.out.1, h⟩⟩
          clear HB3
          have HC := Lib.hid HQ.out.2
          clear HQ
          go_wp2
          clear x0 x1 x2 y0 y1 y2
          go_loopw [8, 9, 10] (fun ix _ _ wr => ∃ i : Nat, i ≤ nm ∧ ix = .int .i64 i ∧ Hid ((∀ k, k < i → Pg.meq ⟨np, po, nc, nf, ft, fv, nm, pn, pt, rt, ln, lt, sk, cn, cd⟩ ⟨np, po', nc, nf', ft', fv', nm, pn', pt', rt', ln', lt', sk', cn', cd'⟩ k) ∧ Below W.heap.size W wr)) (fun ix _ _ _ => nm - (intOf ix).toNat)
          case atStart => exact ⟨0, by omega, rfl, Lib.hid ⟨fun k hk => absurd hk (Nat.not_lt_zero k), HC.out⟩⟩
          case round =>
            clear HC
            obtain ⟨j, hj, rfl, HQ⟩ := hrel
            obtain ⟨⟨x0, x1, x2⟩, y0, y1, y2⟩ := HX.out wr HQ.out.2
            by_cases hjn : j < nm
            · have gj : (j : Int) < nm := by omega
              have HP0 := Lib.hid (HAll.out wr HQ.out.2).1
              have HP1 := Lib.hid (HAll.out wr HQ.out.2).2.1
              rcases (show Row5 wr ma nm (fun i => .slice (ppa i) (pn i) (ppc i)) (fun i => .int .i64 (rt i)) (fun i => .slice (lla i) (ln i) (llc i)) (fun i => .int .i64 (sk i)) (fun i => .slice (cda i) (cn i) (cdc i)) from Row5.kept HP0.out.m (Kept.refl wr)) with h0 | ⟨z, o, rfl, hz, hc⟩
              · exact absurd h0 (by omega)
              obtain ⟨c0, c1, c2, c3, c4⟩ := hc j hjn; clear hc
              rcases (show Row5 wr ma' nm (fun i => .slice (ppa' i) (pn' i) (ppc' i)) (fun i => .int .i64 (rt' i)) (fun i => .slice (lla' i) (ln' i) (llc' i)) (fun i => .int .i64 (sk' i)) (fun i => .slice (cda' i) (cn' i) (cdc' i)) from Row5.kept HP1.out.m (Kept.refl wr)) with h0 | ⟨z', o', rfl, hz', hc⟩
              · exact absurd h0 (by omega)
              obtain ⟨k0, k1, k2, k3, k4⟩ := hc j hjn; clear hc
              dsimp only at c0 c1 c2 c3 c4 k0 k1 k2 k3 k4
              obtain ⟨_, _, _, my⟩ := HX.out (wr.alloc (.cells #[.slice (ppa j) (pn j) (ppc j), .int .i64 (rt j), .slice (lla j) (ln j) (llc j), .int .i64 (sk j), .slice (cda j) (cn j) (cdc j)] 50)) (HQ.out.2.alloc HQ.out.2.size _)
              obtain ⟨W2, hW2⟩ : ∃ V, V = (wr.alloc (.cells #[.slice (ppa j) (pn j) (ppc j), .int .i64 (rt j), .slice (lla j) (ln j) (llc j), .int .i64 (sk j), .slice (cda j) (cn j) (cdc j)] 50)).alloc (.cells #[.slice (ppa' j) (pn' j) (ppc' j), .int .i64 (rt' j), .slice (lla' j) (ln' j) (llc' j), .int .i64 (sk' j), .slice (cda' j) (cn' j) (cdc' j)] 50) := ⟨_, rfl⟩
              have HX5 := Lib.hid (box2_cells wr (.slice (ppa j) (pn j) (ppc j)) (.int .i64 (rt j)) (.slice (lla j) (ln j) (llc j)) (.int .i64 (sk j)) (.slice (cda j) (cn j) (cdc j)) (.slice (ppa' j) (pn' j) (ppc' j)) (.int .i64 (rt' j)) (.slice (lla' j) (ln' j) (llc' j)) (.int .i64 (sk' j)) (.slice (cda' j) (cn' j) (cdc' j)))
              have hs2 : W2.heap.size = wr.heap.size + 1 + 1 := by rw [hW2]; simp
              rw [← hW2, ← hs2] at HX5
              have HQ2 : Hid (Below W.heap.size W W2) := Lib.hid (by rw [hW2]; exact (HQ.out.2.alloc HQ.out.2.size _).alloc (by have := HQ.out.2.size; simp; omega) _)
              have HW2 := Lib.hid hW2
              clear hW2 hs2
              obtain ⟨b0, h0⟩ := some_b (ieqv (pn j) (pn' j) (pt j) (pt' j))
              obtain ⟨b1, h1⟩ := some_b (ieqv (ln j) (ln' j) (lt j) (lt' j))
              have C0 : Hid (∀ V, Below W.heap.size W V → Calls Try.prog 50 #[.slice (ppa j) (pn j) (ppc j), .slice (ppa' j) (pn' j) (ppc' j)] V fun e w' => e = .returned (.bool b0) ∧ Below V.heap.size V w') := Lib.hid fun V hV =>
                eq50_c _ _ _ _ _ _ (pt j) (pt' j) V (HF.out.pn j hjn) (HF'.out.pn j hjn) ((HAll.out V hV).1.a j hjn) ((HAll.out V hV).2.1.a j hjn) b0 h0
              have C1 : Hid (∀ V, Below W.heap.size W V → Calls Try.prog 50 #[.slice (lla j) (ln j) (llc j), .slice (lla' j) (ln' j) (llc' j)] V fun e w' => e = .returned (.bool b1) ∧ Below V.heap.size V w') := Lib.hid fun V hV =>
                eq50_c _ _ _ _ _ _ (lt j) (lt' j) V (HF.out.ln j hjn) (HF'.out.ln j hjn) ((HAll.out V hV).1.l j hjn) ((HAll.out V hV).2.1.l j hjn) b1 h1
              have D0 : Hid (∀ V, Below W.heap.size W V → (convert 29 9 (.slice (cda j) (cn j) (cdc j))).run Try.prog V = .ok (.string (strB (codeB (cd j) (cn j)))) V ∧ (convert 29 9 (.slice (cda' j) (cn' j) (cdc' j))).run Try.prog V = .ok (.string (strB (codeB (cd' j) (cn' j)))) V) := Lib.hid fun V hV =>
                ⟨conv_row ((HAll.out V hV).1.d j hjn), conv_row ((HAll.out V hV).2.1.d j hjn)⟩
              have HS : Hid (strB (codeB (cd j) (cn j)) = strB (codeB (cd' j) (cn' j)) ↔ ieqv (cn j) (cn' j) (fun i => (cd j i : Nat)) (fun i => (cd' j i : Nat))) := Lib.hid (strB_iff (fun i hi => HF.out.cd j i hjn hi) (fun i hi => HF'.out.cd j i hjn hi))
              have HMq : Hid (Pg.meq ⟨np, po, nc, nf, ft, fv, nm, pn, pt, rt, ln, lt, sk, cn, cd⟩ ⟨np, po', nc, nf', ft', fv', nm, pn', pt', rt', ln', lt', sk', cn', cd'⟩ j ↔ rt j = rt' j ∧ sk j = sk' j ∧ ieqv (pn j) (pn' j) (pt j) (pt' j) ∧ ieqv (ln j) (ln' j) (lt j) (lt' j) ∧ ieqv (cn j) (cn' j) (fun i => (cd j i : Nat)) (fun i => (cd' j i : Nat))) := Lib.hid Iff.rfl
              obtain ⟨s1, hs1⟩ : ∃ s, strB (codeB (cd j) (cn j)) = s := ⟨_, rfl⟩
              obtain ⟨s2, hs2⟩ : ∃ s, strB (codeB (cd' j) (cn' j)) = s := ⟨_, rfl⟩
              rw [hs1, hs2] at D0 HS
              clear hs1 hs2
              have HN : Hid (∀ (V : World), Below W.heap.size W V → Below w.heap.size w V) := Lib.hid fun V hV => (HAll.out V hV).2.2
              cases b0 with
              | false =>
                obtain rfl : b = false := bool_false_of_ne fun h => absurd (h0.2 (HMq.out.1 (HB4.out.1 h j hjn)).2.2.1) (by decide)
                clear h0 h1
                go_wp2_with fail
                rw [← HW2.out]
                refine (C0.out W2 HQ2.out).mono ?_
                rintro e w3 ⟨rfl, hb⟩
                have HQ3 := Lib.hid (HQ2.out.trans (hb.mono HQ2.out.size))
                clear hb
                go_wp2
                go_ret
                exact ⟨rfl, HN.out _ HQ3.out⟩
              | true =>
              have G0 := Lib.hid (h0.1 rfl)
              clear h0
              by_cases q1 : rt j = rt' j
              case neg =>
                have d : (rt j != rt' j) = true := by simpa using q1
                obtain rfl : b = false := bool_false_of_ne fun h => q1 (HMq.out.1 (HB4.out.1 h j hjn)).1
                clear h1 q1
                go_wp2_with fail
                rw [← HW2.out]
                refine (C0.out W2 HQ2.out).mono ?_
                rintro e w3 ⟨rfl, hb⟩
                have HQ3 := Lib.hid (HQ2.out.trans (hb.mono HQ2.out.size))
                obtain ⟨⟨_, f1, _, _, _⟩, _, g1, _, _, _⟩ := HX5.out w3 hb
                clear hb
                go_wp2
                go_ret
                exact ⟨rfl, HN.out _ HQ3.out⟩
              have d1 : (rt j != rt' j) = false := by simpa using q1
              have G1 := Lib.hid q1
              clear q1
              cases b1 with
              | false =>
                obtain rfl : b = false := bool_false_of_ne fun h => absurd (h1.2 (HMq.out.1 (HB4.out.1 h j hjn)).2.2.2.1) (by decide)
                clear h1
                go_wp2_with fail
                rw [← HW2.out]
                refine (C0.out W2 HQ2.out).mono ?_
                rintro e w3 ⟨rfl, hb⟩
                have HQ3 := Lib.hid (HQ2.out.trans (hb.mono HQ2.out.size))
                obtain ⟨⟨_, f1, f2, _, _⟩, _, g1, g2, _, _⟩ := HX5.out w3 hb
                clear hb
                go_wp2_with fail
                refine (C1.out w3 HQ3.out).mono ?_
                rintro e w4 ⟨rfl, hb⟩
                have HQ4 := Lib.hid (HQ3.out.trans (hb.mono HQ3.out.size))
                clear hb f1 f2 g1 g2
                go_wp2
                go_ret
                exact ⟨rfl, HN.out _ HQ4.out⟩
              | true =>
              have G2 := Lib.hid (h1.1 rfl)
              clear h1
              by_cases q2 : sk j = sk' j
              case neg =>
                have d : (sk j != sk' j) = true := by simpa using q2
                obtain rfl : b = false := bool_false_of_ne fun h => q2 (HMq.out.1 (HB4.out.1 h j hjn)).2.1
                clear q2
                go_wp2_with fail
                rw [← HW2.out]
                refine (C0.out W2 HQ2.out).mono ?_
                rintro e w3 ⟨rfl, hb⟩
                have HQ3 := Lib.hid (HQ2.out.trans (hb.mono HQ2.out.size))
                have HQ3a := Lib.hid hb
                obtain ⟨⟨_, f1, f2, _, _⟩, _, g1, g2, _, _⟩ := HX5.out w3 hb
                clear hb
                go_wp2_with fail
                refine (C1.out w3 HQ3.out).mono ?_
                rintro e w4 ⟨rfl, hb⟩
                have HQ4 := Lib.hid (HQ3.out.trans (hb.mono HQ3.out.size))
                clear f1 f2 g1 g2
                obtain ⟨⟨_, _, _, f3, _⟩, _, _, _, g3, _⟩ := HX5.out w4 (HQ3a.out.trans (hb.mono HQ3a.out.size))
                clear hb
                go_wp2
                go_ret
                exact ⟨rfl, HN.out _ HQ4.out⟩
              have d2 : (sk j != sk' j) = false := by simpa using q2
              have G3 := Lib.hid q2
              clear q2
              by_cases q3 : s1 = s2
              · have HE : Hid (Pg.meq ⟨np, po, nc, nf, ft, fv, nm, pn, pt, rt, ln, lt, sk, cn, cd⟩ ⟨np, po', nc, nf', ft', fv', nm, pn', pt', rt', ln', lt', sk', cn', cd'⟩ j) := Lib.hid (HMq.out.2 ⟨G1.out, G3.out, G0.out, G2.out, HS.out.1 q3⟩)
                subst q3
                go_wp2_with fail
                rw [← HW2.out]
                refine (C0.out W2 HQ2.out).mono ?_
                rintro e w3 ⟨rfl, hb⟩
                have HQ3 := Lib.hid (HQ2.out.trans (hb.mono HQ2.out.size))
                have HQ3a := Lib.hid hb
                obtain ⟨⟨_, f1, f2, _, _⟩, _, g1, g2, _, _⟩ := HX5.out w3 hb
                clear hb
                go_wp2_with fail
                refine (C1.out w3 HQ3.out).mono ?_
                rintro e w4 ⟨rfl, hb⟩
                have HQ4 := Lib.hid (HQ3.out.trans (hb.mono HQ3.out.size))
                clear f1 f2 g1 g2
                obtain ⟨⟨_, _, _, f3, f4⟩, _, _, _, g3, g4⟩ := HX5.out w4 (HQ3a.out.trans (hb.mono HQ3a.out.size))
                obtain ⟨t1, t2⟩ := D0.out w4 HQ4.out
                clear hb
                go_wp2
                exact ⟨⟨j + 1, by omega, by go_num, Lib.hid ⟨forall_snoc HQ.out.1 HE.out, HQ4.out⟩⟩, by simp [intOf]; omega⟩
              · obtain rfl : b = false := bool_false_of_ne fun h => q3 (HS.out.2 (HMq.out.1 (HB4.out.1 h j hjn)).2.2.2.2)
                have d3 : (s1.toList == s2.toList) = false := by rw [beq_eq_false_iff_ne]; exact fun h => q3 (Go.WideShapes.bytes_inj (by rwa [ByteArray.toList_eq, ByteArray.toList_eq] at h))
                clear q3
                go_wp2_with fail
                rw [← HW2.out]
                refine (C0.out W2 HQ2.out).mono ?_
                rintro e w3 ⟨rfl, hb⟩
                have HQ3 := Lib.hid (HQ2.out.trans (hb.mono HQ2.out.size))
                have HQ3a := Lib.hid hb
                obtain ⟨⟨_, f1, f2, _, _⟩, _, g1, g2, _, _⟩ := HX5.out w3 hb
                clear hb
                go_wp2_with fail
                refine (C1.out w3 HQ3.out).mono ?_
                rintro e w4 ⟨rfl, hb⟩
                have HQ4 := Lib.hid (HQ3.out.trans (hb.mono HQ3.out.size))
                clear f1 f2 g1 g2
                obtain ⟨⟨_, _, _, f3, f4⟩, _, _, _, g3, g4⟩ := HX5.out w4 (HQ3a.out.trans (hb.mono HQ3a.out.size))
                obtain ⟨t1, t2⟩ := D0.out w4 HQ4.out
                clear hb
                go_wp2
                go_ret
                exact ⟨rfl, HN.out _ HQ4.out⟩
            · have hjm : nm = j := by omega
              subst hjm
              obtain rfl : b = true := HB4.out.2 HQ.out.1
              go_wp2
              go_ret
              exact ⟨rfl, (HAll.out _ HQ.out.2).2.2⟩
end Go.Proofs.Ytpiafgmncfibmaa
