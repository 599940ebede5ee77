import Derived.Deep.DrawnRows
import Derived.Test.YtpiafgmncfibmaaFr
import Derived.Test.YtpiafgmncfibmaaPy
import Derived.Test.YtpiafgmncfibmaaCh
import Derived.Test.YtpiafgmncfibmaaE7
import Derived.Test.YtpiafgmncfibmaaRows
import Derived.WalkKit
import Derived.ProofKit
import Derived.OpenShut
import Derived.Deep.QuietTactic
import Derived.BigQuiet
import Derived.Outline
import Derived.WalkSmall
import Derived.WalkLawsBesides
import Derived.WalkSpells
import Derived.BigGuardPart
import Derived.RegionTactic
import Derived.Deep.RegionHeld3
import Derived.Lib.Hide
import Derived.Deep.MidRow
import Derived.Below
import Derived.Deep.RegionWith
import Derived.Deep.OwnRows
import Derived.Deep.AppendLies
import Derived.Deep.RegionLaw
namespace Go.Proofs.Ytpiafgmncfibmaa
open Go.ChangeShapes Go.WideShapes Go.ChangeAt Go.RowKit
set_option linter.unusedVariables false

theorem conv_in {w : World} {a : Option Addr} {n c : Nat} {D : Nat → Nat} (h : BytesIn w a n D) (hn : 0 < n) : (convert 29 9 (.slice a n c)).run Try.prog w = .ok (.string (strB ((List.range n).map fun i => ((D i : Nat) : Int)))) w := by
  obtain ⟨b, o, rfl, hb, hc⟩ := h.row.resolve_left (by omega)
  rw [run_convert_bytes_string w 29 9 5 (some ⟨b, o, none⟩) n c Try.underlying29 Try.underlying5 Try.underlying9]
  have hl := run_loadCells_list (P := Try.prog) w ⟨b, o, none⟩ (((List.range n).map fun i => ((D i : Nat) : Int)).map (Value.int .u8)) (fun j v hj => by
    have hjn : j < n := by have := (List.getElem?_eq_some_iff.1 hj).1; simpa using this
    rw [List.getElem?_map, List.getElem?_map, List.getElem?_range hjn] at hj
    rw [← Option.some.inj hj, Addr.add_lit]
    exact hc j hjn)
  rw [List.length_map, List.length_map, List.length_range] at hl
  exact run_bytesToString w _ _ _ _ hl
theorem prs_n {n : Nat} {d : Nat → Nat} (h : prsE n d = none) : 4 < n := by
  obtain ⟨h1, h2, _⟩ := b_parts h
  exact h2.1
set_option maxRecDepth 100000 in
set_option maxHeartbeats 4000000 in
theorem back_c (P : Pg) (A : Ad) (a : Option Addr) (n c : Nat) (D : Nat → Nat) (w : World) (h : PgAt w P A) (hf : Fits P A) (hI : BytesIn w a n D) : Calls Try.prog 5 #[.agg (P.cells A), .slice a n c] w (SomeT w) := by
  have HA : Hid (Below w.heap.size w (w.alloc (.cells (P.cells A) 26))) := Lib.hid ((Below.refl _ _).alloc (Nat.le_refl _) _)
  have HX := Lib.hid (box_cells w P A)
  have HP : Hid (∀ V, Below (w.heap.size + 1) (w.alloc (.cells (P.cells A) 26)) V → PgAt V P A ∧ Below w.heap.size w V) := Lib.hid fun V hb => (have hB := HA.out.trans (hb.mono (by omega)); ⟨h.kept (Kept.of hB), hB⟩)
  have HFit := Lib.hid hf
  have HFew : Hid (∀ V, PgAt V P A → Calls Try.prog 13 #[.agg (P.cells A)] V (SomeB V)) := Lib.hid fun V hV => few_c P A V hV hf
  have HByt : Hid (∀ V, PgAt V P A → Calls Try.prog 14 #[.agg (P.cells A)] V (BytesR P V)) := Lib.hid fun V hV => bytes_c P A V hV hf
  have HRS : Hid (∀ V d A', PgAt V P A → PgAt V (prs d) A' → Fits (prs d) A' → P.eqv (prs d) → Calls Try.prog 20 #[.agg (P.cells A), .agg ((prs d).cells A')] V fun e w' => e = .returned (.bool true) ∧ Below V.heap.size V w') := Lib.hid fun V d A' h1 h2 h3 h4 => rsame_c P A (prs d) A' V h1 hf h2 h3 true (by simp [h4])
  have HIn : Hid (∀ V, Below w.heap.size w V → BytesIn V a n D) := Lib.hid fun V hb => ⟨hI.big, hI.byt, hI.row.kept (Kept.of hb)⟩
  have hn := hI.big
  unfold Big at hn
  clear h hf hI
  obtain ⟨W0, hW0⟩ : ∃ W, W = w.alloc (.cells (P.cells A) 26) := ⟨_, rfl⟩
  have hsz : W0.heap.size = w.heap.size + 1 := by rw [hW0]; simp
  rw [← hW0] at HA HX HP
  obtain ⟨pa, pc, ca, cc, ma, mc, fa, fc, ppa, ppc, lla, llc, cda, cdc⟩ := A
  obtain ⟨np, po, nc, nf, ft, fv, nm, pn, pt, rt, ln, lt, sk, cn, cd⟩ := P
  replace hW0 : W0 = w.alloc (.cells #[.slice pa np pc, .slice ca nc cc, .slice ma nm mc] 26) := hW0
  have HW0 := Lib.hid hW0
  have HSz := Lib.hid hsz
  obtain ⟨e0, e1, e2⟩ := HX.out W0 (by rw [← hsz]; exact Below.refl _ _)
  clear hW0 hsz
  show Calls Try.prog 5 #[.agg #[.slice pa np pc, .slice ca nc cc, .slice ma nm mc], .slice a n c] w _
  go_enter Try.func5, Try.ntmps5
  go_wp2_with fail
  rw [← HW0.out]
  clear e0 e1 e2
  refine (known14_c W0).mono ?_
  rintro e V1 ⟨rfl, hb1⟩
  have HB1 : Hid (Below (w.heap.size + 1) W0 V1) := Lib.hid (HSz.out ▸ hb1)
  clear hb1
  obtain ⟨e0, e1, e2⟩ := HX.out V1 HB1.out
  go_wp2_with fail
  clear e0 e1 e2
  refine (HFew.out V1 (HP.out V1 HB1.out).1).mono ?_
  rintro e V2 ⟨⟨fb, rfl⟩, hb2⟩
  have HB2 : Hid (Below (w.heap.size + 1) W0 V2) := Lib.hid (HB1.out.trans (hb2.mono (by have := HB1.out.size; have := HSz.out; omega)))
  clear hb2
  obtain ⟨e0, e1, e2⟩ := HX.out V2 HB2.out
  cases fb with
  | false =>
    go_wp2
    go_ret
    exact ⟨rfl, (HP.out V2 HB2.out).2⟩
  | true =>
  by_cases hbig : 32768 < n
  · have d1 : decide ((32768 : Int) < (n : Int)) = true := decide_eq_true (by omega)
    go_wp2
    go_ret
    exact ⟨rfl, (HP.out V2 HB2.out).2⟩
  have d1 : decide ((32768 : Int) < (n : Int)) = false := decide_eq_false (by omega)
  go_wp2_with fail
  clear e0 e1 e2 d1
  refine (HByt.out V2 (HP.out V2 HB2.out).1).mono ?_
  rintro e V3 ⟨⟨hc, rfl⟩ | ⟨hc, g, m, cap, rfl, hl⟩, hb3⟩
  · have HB3 : Hid (Below (w.heap.size + 1) W0 V3) := Lib.hid (HB2.out.trans (hb3.mono (by have := HB2.out.size; have := HSz.out; omega)))
    obtain ⟨E, hE⟩ : ∃ E, Pg.chk ⟨np, po, nc, nf, ft, fv, nm, pn, pt, rt, ln, lt, sk, cn, cd⟩ = E := ⟨_, rfl⟩
    rw [hE] at hc ⊢
    have dE : (E == 0) = false := by simpa using hc
    have HB3' := Lib.hid (HP.out V3 HB3.out).2
    clear hc hE hb3 HB1 HB2 HX HP HA HW0 HFew HByt HRS
    go_wp2_with fail
    refine (parsex_c a n c D _ (Lib.hid (HIn.out _ HB3'.out))).mono ?_
    intro e V5 h
    rcases h.two with ⟨q, er, hx, he, hb⟩ | ⟨hx, A2, he, ho, hb⟩
    · obtain rfl : e = .returned (.tuple #[.agg #[.slice none 0 0, .slice none 0 0, .slice none 0 0], .int .i64 q, .int .i64 er]) := he
      have dn : (er != 0) = true := by simpa using prsE_ne n D q er hx.out
      have HB5 := Lib.hid (HB3'.out.trans (hb.mono HB3'.out.size))
      clear hb h
      go_wp2
      go_ret
      exact ⟨rfl, HB5.out.alloc HB5.out.size _⟩
    · obtain ⟨xp, hxp⟩ : ∃ x, (prs D).np = x := ⟨_, rfl⟩
      obtain ⟨xc, hxc⟩ : ∃ x, (prs D).nc = x := ⟨_, rfl⟩
      obtain ⟨xm, hxm⟩ : ∃ x, (prs D).nm = x := ⟨_, rfl⟩
      have hce : (prs D).cells A2 = #[.slice A2.pa xp A2.pc, .slice A2.ca xc A2.cc, .slice A2.ma xm A2.mc] := by rw [← hxp, ← hxc, ← hxm]; rfl
      rw [hce] at he
      subst he
      have HB5 := Lib.hid (HB3'.out.trans (hb.mono HB3'.out.size))
      obtain ⟨V6, hV6⟩ : ∃ V, V = V5.alloc (.cells #[.slice A2.pa xp A2.pc, .slice A2.ca xc A2.cc, .slice A2.ma xm A2.mc] 26) := ⟨_, rfl⟩
      obtain ⟨QB, hQB⟩ : ∃ b, b = V5.heap.size := ⟨_, rfl⟩
      have HB6 : Hid (Below w.heap.size w V6) := Lib.hid (by rw [hV6]; exact HB5.out.alloc HB5.out.size _)
      have HBox : Hid (BoxT V6 QB #[.slice A2.pa xp A2.pc, .slice A2.ca xc A2.cc, .slice A2.ma xm A2.mc] 26) := Lib.hid (by rw [hV6, hQB]; exact heap_alloc_new _ _)
      have hdl : ∀ i, i < n → D i < 256 := (HIn.out w (Below.refl _ _)).byt
      have HFt := Lib.hid (b_fits hx.out hdl A2)
      have HRt := Lib.hid (rt_chk (b_rt hx.out))
      have HBy := Lib.hid (b_bytes hx.out hdl)
      have HAt : Hid (∀ V', Below V6.heap.size V6 V' → PgAt V' (prs D) A2) := Lib.hid fun V' hb' => ((ho.keepE fun e _ => by rw [hV6]; exact .alloc _ _).keepE fun e _ => .below hb').at
      have HC14 : Hid (Calls Try.prog 14 #[.agg #[.slice A2.pa xp A2.pc, .slice A2.ca xc A2.cc, .slice A2.ma xm A2.mc]] V6 (BytesR (prs D) V6)) := Lib.hid (by rw [← hce]; exact bytes_c (prs D) A2 V6 (HAt.out V6 (Below.refl _ _)) HFt.out)
      have HC16 : Hid (∀ V', Below V6.heap.size V6 V' → Calls Try.prog 16 #[.agg #[.slice A2.pa xp A2.pc, .slice A2.ca xc A2.cc, .slice A2.ma xm A2.mc]] V' fun e w' => e = .returned (.int .i64 0) ∧ Below V'.heap.size V' w') := Lib.hid fun V' hb' => by
        have h9 := check_c (prs D) A2 V' (HAt.out V' hb') HFt.out
        rw [HRt.out, hce] at h9
        exact h9
      have HV6 := Lib.hid (And.intro hV6 hQB)
      have hn14 := prs_n hx.out
      clear hb h ho hxp hxc hxm hce hV6 hQB hdl
      go_wp2_with fail
      rw [← HV6.out.1, ← HV6.out.2]
      refine HC14.out.mono ?_
      rintro e V7 ⟨⟨hc, _⟩ | ⟨hc, g7, n7, cap7, rfl, hl7⟩, hb7⟩
      · exact absurd HRt.out hc
      have HB7 := Lib.hid (HB6.out.trans (hb7.mono HB6.out.size))
      have hbx := HBox.out.keep (.below hb7)
      have y0 : V7.cell? ⟨QB, 0, none⟩ = some (.slice A2.pa xp A2.pc) := hbx.cell 0
      have y1 : V7.cell? ⟨QB, 1, none⟩ = some (.slice A2.ca xc A2.cc) := hbx.cell 1
      have y2 : V7.cell? ⟨QB, 2, none⟩ = some (.slice A2.ma xm A2.mc) := hbx.cell 2
      obtain ⟨s, hs⟩ : ∃ s, strB (prs D).bytes = s := ⟨_, rfl⟩
      have cv1 : (convert 29 9 (.slice (some ⟨g7, 0, none⟩) n7 cap7)).run Try.prog V7 = .ok (.string s) V7 := by rw [← hs]; exact conv_LB hl7
      have cv2 : (convert 29 9 (.slice a n c)).run Try.prog V7 = .ok (.string s) V7 := by
        rw [← hs, HBy.out]
        exact conv_in (HIn.out V7 HB7.out) (by omega)
      have HC := HC16.out V7 hb7
      have HCk := Lib.hid HC
      clear hl7 hbx hc hs HC hb7
      go_wp2_with (first | (go_at_call 16; refine HCk.out.mono ?_; rintro e w9 ⟨rfl, hb9⟩; have HB9 := Lib.hid (HB7.out.trans (hb9.mono HB7.out.size)); clear hb9))
      go_ret
      exact ⟨rfl, HB9.out⟩
  have HB3 : Hid (Below (w.heap.size + 1) W0 V3) := Lib.hid (HB2.out.trans (hb3.mono (by have := HB2.out.size; have := HSz.out; omega)))
  have HPB := Lib.hid (pb_of hc HFit.out)
  have hLn := hl.1
  have HPa := Lib.hid (parsex_c (some ⟨g, 0, none⟩) m cap (dOf (Pg.bytes ⟨np, po, nc, nf, ft, fv, nm, pn, pt, rt, ln, lt, sk, cn, cd⟩)) V3 (Lib.hid (hl.bytesIn (fun i _ => HPB.out.lt i) (fun i hi => HPB.out.cell i (by rw [hLn]; exact hi)) (by have h9 := HPB.out.big.2; omega))))
  obtain ⟨d, hd⟩ : ∃ d, dOf (Pg.bytes ⟨np, po, nc, nf, ft, fv, nm, pn, pt, rt, ln, lt, sk, cn, cd⟩) = d := ⟨_, rfl⟩
  rw [hd] at HPa
  have HOk : Hid (prsE m d = none ∧ Pg.eqv ⟨np, po, nc, nf, ft, fv, nm, pn, pt, rt, ln, lt, sk, cn, cd⟩ (prs d) ∧ ∀ i, d i < 256) := Lib.hid (by rw [← hd, ← hLn]; exact ⟨HPB.out.ok, HPB.out.eqv, HPB.out.lt⟩)
  clear hc hl hLn hd HPB hb3
  go_wp2_with fail
  refine HPa.out.mono ?_
  intro e V4 h
  rcases h.two with ⟨q, er, hx, _⟩ | ⟨hx, A1, he, ho, hb⟩
  · rw [HOk.out.1] at hx
    exact absurd hx.out (by simp)
  obtain ⟨xp, hxp⟩ : ∃ x, (prs d).np = x := ⟨_, rfl⟩
  obtain ⟨xc, hxc⟩ : ∃ x, (prs d).nc = x := ⟨_, rfl⟩
  obtain ⟨xm, hxm⟩ : ∃ x, (prs d).nm = x := ⟨_, rfl⟩
  have hce : (prs d).cells A1 = #[.slice A1.pa xp A1.pc, .slice A1.ca xc A1.cc, .slice A1.ma xm A1.mc] := by rw [← hxp, ← hxc, ← hxm]; rfl
  rw [hce] at he
  subst he
  have hs3 : w.heap.size + 1 ≤ V3.heap.size := by have := HB3.out.size; have := HSz.out; omega
  have HB4 : Hid (Below (w.heap.size + 1) W0 (V4.alloc (.cells #[.slice A1.pa xp A1.pc, .slice A1.ca xc A1.cc, .slice A1.ma xm A1.mc] 26))) := Lib.hid ((HB3.out.trans (hb.mono hs3)).alloc (by have := hb.size; omega) _)
  obtain ⟨V6, hV6⟩ : ∃ V, V = V4.alloc (.cells #[.slice A1.pa xp A1.pc, .slice A1.ca xc A1.cc, .slice A1.ma xm A1.mc] 26) := ⟨_, rfl⟩
  rw [← hV6] at HB4
  have HCS : Hid (Calls Try.prog 20 #[.agg #[.slice pa np pc, .slice ca nc cc, .slice ma nm mc], .agg #[.slice A1.pa xp A1.pc, .slice A1.ca xc A1.cc, .slice A1.ma xm A1.mc]] V6 fun e w' => e = .returned (.bool true) ∧ Below V6.heap.size V6 w') := Lib.hid (by
    have h9 := HRS.out V6 d A1 (HP.out V6 HB4.out).1 ((ho.keepE fun e _ => by rw [hV6]; exact .alloc _ _).at) (b_fits HOk.out.1 (fun i _ => HOk.out.2.2 i) A1) HOk.out.2.1
    rw [hce] at h9
    exact h9)
  obtain ⟨e0, e1, e2⟩ := HX.out V6 HB4.out
  have HV6 := Lib.hid hV6
  have f0 : V4.cell? ⟨w.heap.size, 0, none⟩ = some (.slice pa np pc) := ((HX.out V4 (HB3.out.trans (hb.mono hs3))).1)
  have f1 : V4.cell? ⟨w.heap.size, 1, none⟩ = some (.slice ca nc cc) := ((HX.out V4 (HB3.out.trans (hb.mono hs3))).2.1)
  have f2 : V4.cell? ⟨w.heap.size, 2, none⟩ = some (.slice ma nm mc) := ((HX.out V4 (HB3.out.trans (hb.mono hs3))).2.2)
  have hs4 : w.heap.size < V4.heap.size := by have := hb.size; omega
  clear h ho hb hxp hxc hxm hce hV6 HB1 HB2 HA HW0 HFew HByt HRS
  go_wp2_with fail
  rw [← HV6.out]
  refine HCS.out.mono ?_
  rintro e V7 ⟨rfl, hb7⟩
  have HB7 := Lib.hid ((HP.out V6 HB4.out).2.trans (hb7.mono (by have := HB4.out.size; have := HSz.out; omega)))
  clear hb7 e0 e1 e2 f0 f1 f2
  go_wp2_with fail
  refine (parsex_c a n c D _ (Lib.hid (HIn.out _ HB7.out))).mono ?_
  intro e V5 h
  rcases h.two with ⟨q, er, hx, he, hb⟩ | ⟨hx, A2, he, ho, hb⟩
  · obtain rfl : e = .returned (.tuple #[.agg #[.slice none 0 0, .slice none 0 0, .slice none 0 0], .int .i64 q, .int .i64 er]) := he
    have dn : (er != 0) = true := by simpa using prsE_ne n D q er hx.out
    have HB5 := Lib.hid (HB7.out.trans (hb.mono HB7.out.size))
    clear hb h
    go_wp2
    go_ret
    exact ⟨rfl, HB5.out.alloc HB5.out.size _⟩
  · obtain ⟨xp, hxp⟩ : ∃ x, (prs D).np = x := ⟨_, rfl⟩
    obtain ⟨xc, hxc⟩ : ∃ x, (prs D).nc = x := ⟨_, rfl⟩
    obtain ⟨xm, hxm⟩ : ∃ x, (prs D).nm = x := ⟨_, rfl⟩
    have hce : (prs D).cells A2 = #[.slice A2.pa xp A2.pc, .slice A2.ca xc A2.cc, .slice A2.ma xm A2.mc] := by rw [← hxp, ← hxc, ← hxm]; rfl
    rw [hce] at he
    subst he
    have HB5 := Lib.hid (HB7.out.trans (hb.mono HB7.out.size))
    obtain ⟨V6, hV6⟩ : ∃ V, V = V5.alloc (.cells #[.slice A2.pa xp A2.pc, .slice A2.ca xc A2.cc, .slice A2.ma xm A2.mc] 26) := ⟨_, rfl⟩
    obtain ⟨QB, hQB⟩ : ∃ b, b = V5.heap.size := ⟨_, rfl⟩
    have HB6 : Hid (Below w.heap.size w V6) := Lib.hid (by rw [hV6]; exact HB5.out.alloc HB5.out.size _)
    have HBox : Hid (BoxT V6 QB #[.slice A2.pa xp A2.pc, .slice A2.ca xc A2.cc, .slice A2.ma xm A2.mc] 26) := Lib.hid (by rw [hV6, hQB]; exact heap_alloc_new _ _)
    have hdl : ∀ i, i < n → D i < 256 := (HIn.out w (Below.refl _ _)).byt
    have HFt := Lib.hid (b_fits hx.out hdl A2)
    have HRt := Lib.hid (rt_chk (b_rt hx.out))
    have HBy := Lib.hid (b_bytes hx.out hdl)
    have HAt : Hid (∀ V', Below V6.heap.size V6 V' → PgAt V' (prs D) A2) := Lib.hid fun V' hb' => ((ho.keepE fun e _ => by rw [hV6]; exact .alloc _ _).keepE fun e _ => .below hb').at
    have HC14 : Hid (Calls Try.prog 14 #[.agg #[.slice A2.pa xp A2.pc, .slice A2.ca xc A2.cc, .slice A2.ma xm A2.mc]] V6 (BytesR (prs D) V6)) := Lib.hid (by rw [← hce]; exact bytes_c (prs D) A2 V6 (HAt.out V6 (Below.refl _ _)) HFt.out)
    have HC16 : Hid (∀ V', Below V6.heap.size V6 V' → Calls Try.prog 16 #[.agg #[.slice A2.pa xp A2.pc, .slice A2.ca xc A2.cc, .slice A2.ma xm A2.mc]] V' fun e w' => e = .returned (.int .i64 0) ∧ Below V'.heap.size V' w') := Lib.hid fun V' hb' => by
      have h9 := check_c (prs D) A2 V' (HAt.out V' hb') HFt.out
      rw [HRt.out, hce] at h9
      exact h9
    have HV6 := Lib.hid (And.intro hV6 hQB)
    have hn14 := prs_n hx.out
    clear hb h ho hxp hxc hxm hce hV6 hQB hdl
    go_wp2_with fail
    rw [← HV6.out.1, ← HV6.out.2]
    refine HC14.out.mono ?_
    rintro e V7 ⟨⟨hc, _⟩ | ⟨hc, g7, n7, cap7, rfl, hl7⟩, hb7⟩
    · exact absurd HRt.out hc
    have HB7 := Lib.hid (HB6.out.trans (hb7.mono HB6.out.size))
    have hbx := HBox.out.keep (.below hb7)
    have y0 : V7.cell? ⟨QB, 0, none⟩ = some (.slice A2.pa xp A2.pc) := hbx.cell 0
    have y1 : V7.cell? ⟨QB, 1, none⟩ = some (.slice A2.ca xc A2.cc) := hbx.cell 1
    have y2 : V7.cell? ⟨QB, 2, none⟩ = some (.slice A2.ma xm A2.mc) := hbx.cell 2
    obtain ⟨s, hs⟩ : ∃ s, strB (prs D).bytes = s := ⟨_, rfl⟩
    have cv1 : (convert 29 9 (.slice (some ⟨g7, 0, none⟩) n7 cap7)).run Try.prog V7 = .ok (.string s) V7 := by rw [← hs]; exact conv_LB hl7
    have cv2 : (convert 29 9 (.slice a n c)).run Try.prog V7 = .ok (.string s) V7 := by
      rw [← hs, HBy.out]
      exact conv_in (HIn.out V7 HB7.out) (by omega)
    have HC := HC16.out V7 hb7
    have HCk := Lib.hid HC
    clear hl7 hbx hc hs HC hb7
    go_wp2_with (first | (go_at_call 16; refine HCk.out.mono ?_; rintro e w9 ⟨rfl, hb9⟩; have HB9 := Lib.hid (HB7.out.trans (hb9.mono HB7.out.size)); clear hb9))
    go_ret
    exact ⟨rfl, HB9.out⟩
end Go.Proofs.Ytpiafgmncfibmaa
