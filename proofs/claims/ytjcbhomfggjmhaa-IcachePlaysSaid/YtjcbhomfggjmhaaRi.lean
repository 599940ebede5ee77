import Derived.Test.YtjcbhomfggjmhaaRh
import Derived.Deep.QuietTactic
import Derived.BigQuiet
namespace Go.Proofs.Ytjcbhomfggjmhaa.Mm
open Go.ChangeShapes Go.WideShapes Go.ChangeAt Go.RowKit Go.Maps
set_option linter.unusedVariables false
section
variable {w w' : World} {lo : Nat → Prop} {p : Nat} {L : Rl} {V : Nat → Value} {R R' : Rs}
theorem revict_c (h : RsC w lo p L V R) (c : Int) (x : Nat) : Calls Try.prog 34 #[.pointer (some ⟨p, 0, none⟩), .int .i64 c, .int .u64 (x : Nat)] w fun e w' => e = .returned (.bool (lk R.cache c x).isSome) ∧ (∃ V', RsC w' lo p L V' { R with cache := dropC R.cache c x }) ∧ Sv lo w w' := by
  have hsm : R.cache.length ≤ 1000000 := h.small 1 (by omega)
  obtain ⟨_, _, _, c3, _⟩ := h.cells
  have HFD := Lib.hid (find_c w 0 (V 1) R.cache h.row1 hsm c x)
  have H := Lib.hid h
  rcases fd_drop R.cache c x with ⟨f1, f2, f3⟩ | ⟨i, hi, f1, f2, f3⟩
  · rw [f1] at HFD
    rw [f2, f3]
    clear h f1 f2 f3
    go_enter Try.func34, Try.ntmps34
    go_wp2_with (go_at_call 64; refine HFD.out.mono ?_; rintro e w1 ⟨rfl, h1⟩; obtain rfl := h1.symm)
    go_ret
    exact ⟨rfl, ⟨V, H.out⟩, Sv.refl _ _⟩
  · rw [f1] at HFD
    rw [f2, f3]
    have HDR := Lib.hid (drop_c w 0 (V 1) R.cache h.row1 hsm hi)
    have HDL : Hid ((R.cache.eraseIdx i).length ≤ 1000000) := Lib.hid (by rw [List.length_eraseIdx_of_lt hi]; omega)
    have gi : ¬ ((i : Int) < 0) := by omega
    clear h f1 f2 f3
    go_enter Try.func34, Try.ntmps34
    go_wp2_with (first
      | (go_at_call 64; refine HFD.out.mono ?_; rintro e w1 ⟨rfl, h1⟩; obtain rfl := h1.symm)
      | (go_at_call 65; refine HDR.out.mono ?_; rintro e w2 ⟨⟨v', rfl, ho⟩, hb⟩; obtain ⟨d1, d2, hp, hb2⟩ := H.out.lay (k := 1) (by omega) hb ho HDL.out; obtain ⟨a5, cp5, hv5⟩ := H.out.rowsK (k := 1) (by omega); rw [hv5] at d1; obtain ⟨a4, cp4, rfl, _⟩ := own_form ho; have HP := Lib.hid hp; have HB := Lib.hid hb2; clear hp hb2 hb ho hv5))
    go_ret
    exact ⟨rfl, HP.out, HB.out⟩
/-! ### FetchAhead, Fetch -/
def Rs.val (R : Rs) (c : Int) (x : Nat) : Nat := (lk R.cache c x).getD (R.at x).1
theorem fill_lk (R : Rs) (c : Int) (x : Nat) : lk (R.fill c x).cache c x = some (R.val c x) ∧ (R.fill c x).ahead = R.ahead ∧ (R.fill c x).told = R.told ∧ (R.fill c x).wt = R.wt ∧ (R.fill c x).n = R.n ∧ (R.fill c x).T = R.T ∧ (R.fill c x).cache.length ≤ R.cache.length + 1 := by
  unfold Rs.fill Rs.val
  cases h : lk R.cache c x with
  | some u => exact ⟨h, rfl, rfl, rfl, rfl, rfl, Nat.le_succ _⟩
  | none =>
    refine ⟨?_, rfl, rfl, rfl, rfl, rfl, ?_⟩
    · show lk (R.cache ++ [⟨c, x, (R.at x).1⟩]) c x = _
      rw [lk_app, h, lk_one, if_pos ⟨rfl, rfl⟩]
      rfl
    · show (R.cache ++ [Cl.mk c x (R.at x).1]).length ≤ _
      rw [List.length_append]
      exact Nat.le_refl _
def Rs.rahead (R : Rs) (c : Int) (x : Nat) : Rs := { R.fill c x with ahead := dropC R.ahead c x ++ [⟨c, x, R.val c x⟩] }
theorem lk_at {l : List Cl} {c : Int} {a u : Nat} (h : lk l c a = some u) : ∃ i, i < l.length ∧ fd l c a = i ∧ (l.getD i cz).w = u := by
  rcases fd_cases l c a with ⟨_, e⟩ | ⟨i, hi, e1, e2⟩
  · rw [h] at e; cases e
  · rw [h] at e2
    injection e2 with e2
    exact ⟨i, hi, e1, e2.symm⟩
set_option maxRecDepth 100000 in
set_option maxHeartbeats 4000000 in
theorem rahead_c (h : RsC w lo p L V R) (hT : Cfg R.T) (c : Int) {x : Nat} (hx : x < 18446744073709551616) (hs : R.cache.length < 1000000) (hs2 : R.ahead.length < 1000000) :
    Calls Try.prog 31 #[.pointer (some ⟨p, 0, none⟩), .int .i64 c, .int .u64 (x : Nat)] w fun e w' => e = .returned (.int .i64 (R.rdy c x : Nat)) ∧ (∃ V', RsC w' lo p L V' (if R.rdy c x = 0 then R.rahead c x else R)) ∧ Sv lo w w' := by
  have HRF := Lib.hid (rrefill_c h hT c hx hs)
  have HS2 := Lib.hid hs2
  clear hs2
  by_cases h0 : R.rdy c x = 0
  · rw [h0, if_pos rfl] at HRF
    rw [h0, if_pos rfl]
    obtain ⟨e1, e2, e7⟩ := fill_lk R c x
    clear e7
    obtain ⟨i, hi, e3, e4⟩ := lk_at e1
    have HI := Lib.hid hi
    have HF := Lib.hid e3
    have HW := Lib.hid e4
    have HE := Lib.hid e2
    have HV : Hid (R.rahead c x = { R.fill c x with ahead := dropC R.ahead c x ++ [⟨c, x, R.val c x⟩] }) := Lib.hid rfl
    rw [HV.out]
    generalize R.val c x = u at HW HV ⊢
    have gi : (i : Int) < (R.fill c x).cache.length := by omega
    have gi0 : (0 : Int) ≤ i := by omega
    clear h hi e1 e2 e3 e4 h0 HV
    go_enter Try.func31, Try.ntmps31
    go_upto_region 4 with (go_at_call 32; refine HRF.out.mono ?_; rintro e w1 ⟨rfl, ⟨V1, h1⟩, hb1⟩; have H1 := Lib.hid h1; have HB1 := Lib.hid hb1; obtain ⟨_, _, _, c3, c4, _⟩ := h1.cells; have HFD : Hid (∀ n, _) := Lib.hid (fun n => find_c (w1.drewN n) 0 (V1 1) (R.fill c x).cache (own_past h1.row1 (below_drewN (Below.refl _ _) n)) (h1.small 1 (by omega)) c x); rw [HF.out] at HFD; obtain ⟨pa, cp, hv, hf⟩ := own_form h1.row1; obtain ⟨g, rfl⟩ : ∃ g, pa = some ⟨g, 0, none⟩ := (by rcases hf with hf | hf; exact absurd hf (by have := HI.out; omega); exact hf); have HR1 := Lib.hid h1.row1; rw [hv] at c3 HFD HR1; have e5 := (own_cells HR1.out).1 _ _ (clL_get _ i HI.out).2.2; rw [HW.out] at e5; clear h1 hb1 hf hv)
    go_quiet ((go_at_call 64; exact Calls.quiet_of_same (HFD.out _)))
    have H2 := Lib.hid (H1.out.past (below_drewN (Below.refl _ _) nq))
    have HB2 := Lib.hid (HB1.out.drewN nq)
    generalize w1.drewN nq = W at H2 HB2 ⊢
    clear c3 c4 e5 HFD HR1 HRF HB1 H1 HI HF HW gi gi0
    obtain ⟨_, _, _, _, c4, _⟩ := H2.out.cells
    have HFD := Lib.hid (find_c W 0 (V1 2) (R.fill c x).ahead H2.out.row2 (H2.out.small 2 (by omega)) c x)
    rcases fd_drop (R.fill c x).ahead c x with ⟨f1, f2, f3⟩ | ⟨j, hj, f1, f2, f3⟩
    · rw [f1] at HFD
      have HD : Hid (dropC R.ahead c x = R.ahead) := Lib.hid (by rw [HE.out] at f3; exact f3)
      clear f1 f2 f3
      obtain ⟨v', w4, hr, k1, k2, ⟨a4, n4, cp4, rfl⟩, hp, hb⟩ := H2.out.push (k := 2) (by omega) ⟨c, x, u⟩ (by show (R.fill c x).ahead.length < _; rw [HE.out]; exact HS2.out)
      obtain ⟨a5, cp5, hv5⟩ := H2.out.rowsK (k := 2) (by omega)
      rw [hv5] at k1
      have HR := Lib.hid hr
      have HP : Hid (∃ V', RsC (w4.setCell ⟨p, 4, none⟩ (.slice a4 n4 cp4)) lo p L V' ((R.fill c x).setL 2 ((R.fill c x).lst 2 ++ [⟨c, x, u⟩]))) := Lib.hid hp
      have HB := Lib.hid (HB2.out.trans hb)
      have k3 : w4.cell? ⟨p, 4, none⟩ = some (.slice a5 ((R.fill c x).len 2) cp5) := k1
      have k4 : w4.frozen? ⟨p, 4, none⟩ = false := k2
      clear hr hp hb k1 k2 hv5
      go_wp2_with (first
        | (go_at_call 64; refine HFD.out.mono ?_; rintro e w1 ⟨rfl, h1⟩; obtain rfl := h1.symm)
        | (at_builtin; refine wpList_append_run' rfl _ _ _ rfl _ _ _ _ rfl rfl HR.out ?_))
      go_ret
      exact ⟨rfl, by rw [HD.out, ← HE.out]; exact HP.out, HB.out⟩
    · rw [f1] at HFD
      have HDR := Lib.hid (drop_c W 0 (V1 2) (R.fill c x).ahead H2.out.row2 (H2.out.small 2 (by omega)) hj)
      have HDL : Hid (((R.fill c x).ahead.eraseIdx j).length < 1000000) := Lib.hid (by have := HS2.out; rw [List.length_eraseIdx_of_lt hj, HE.out]; omega)
      have HD : Hid (dropC R.ahead c x = (R.fill c x).ahead.eraseIdx j) := Lib.hid (by rw [HE.out] at f3 ⊢; exact f3)
      have gj : (0 : Int) ≤ j := by omega
      clear f1 f2 f3 hj
      go_upto_region 8 with (first
        | (go_at_call 64; refine HFD.out.mono ?_; rintro e w1 ⟨rfl, h1⟩; obtain rfl := h1.symm)
        | (go_at_call 65; refine HDR.out.mono ?_; rintro e w2 ⟨⟨v', rfl, ho⟩, hb⟩; obtain ⟨d1, d2, ⟨V2, hp⟩, hb2⟩ := H2.out.lay (k := 2) (by omega) hb ho (Nat.le_of_lt HDL.out); obtain ⟨a5, cp5, hv5⟩ := H2.out.rowsK (k := 2) (by omega); rw [hv5] at d1; obtain ⟨a4, cp4, rfl, _⟩ := own_form ho; have d3 : w2.cell? ⟨p, 4, none⟩ = some (.slice a5 ((R.fill c x).len 2) cp5) := d1; have d4 : w2.frozen? ⟨p, 4, none⟩ = false := d2; have H3 : Hid (RsC (w2.setCell ⟨p, 4, none⟩ _) lo p L V2 _) := Lib.hid hp; have HB3 : Hid (Sv lo w (w2.setCell ⟨p, 4, none⟩ _)) := Lib.hid (HB2.out.trans hb2); clear hp hb2 hb ho hv5 d1 d2))
      generalize w2.setCell ⟨p, 4, none⟩ _ = W3 at H3 HB3 ⊢
      clear d3 d4 c4
      obtain ⟨_, _, _, _, c4, _⟩ := H3.out.cells
      obtain ⟨v', w4, hr, k1, k2, ⟨a6, n6, cp6, rfl⟩, hp, hb⟩ := H3.out.push (k := 2) (by omega) ⟨c, x, u⟩ HDL.out
      obtain ⟨a7, cp7, hv7⟩ := H3.out.rowsK (k := 2) (by omega)
      rw [hv7] at k1
      have HR := Lib.hid hr
      have HP : Hid (∃ V', RsC (w4.setCell ⟨p, 4, none⟩ (.slice a6 n6 cp6)) lo p L V' { R.fill c x with ahead := (R.fill c x).ahead.eraseIdx j ++ [⟨c, x, u⟩] }) := Lib.hid hp
      have HB := Lib.hid (HB3.out.trans hb)
      have k3 : w4.cell? ⟨p, 4, none⟩ = some (.slice a7 _ cp7) := k1
      have k4 : w4.frozen? ⟨p, 4, none⟩ = false := k2
      clear hr hp hb k1 k2 hv7
      go_wp2_with (at_builtin; refine wpList_append_run' rfl _ _ _ rfl _ _ _ _ rfl rfl HR.out ?_)
      go_ret
      exact ⟨rfl, by rw [HD.out]; exact HP.out, HB.out⟩
  · have HV : Hid ((if R.rdy c x = 0 then R.rahead c x else R) = R) := Lib.hid (if_neg h0)
    rw [if_neg h0] at HRF
    rw [HV.out]
    have hne : R.rdy c x ≠ 0 := h0
    obtain ⟨k, hk⟩ : ∃ k, R.rdy c x = k := ⟨_, rfl⟩
    rw [hk] at HRF hne ⊢
    have q1 : ((k : Int) != 0) = true := by simp; omega
    have q2 : ((k : Int) == 0) = false := by simp; omega
    clear h h0 HV hk
    go_enter Try.func31, Try.ntmps31
    go_wp2_with (go_at_call 32; refine HRF.out.mono ?_; rintro e w1 ⟨rfl, h1, hb1⟩; have H1 := Lib.hid h1; have HB1 := Lib.hid hb1; clear h1 hb1)
    go_ret
    exact ⟨rfl, H1.out, HB1.out⟩
end
end Go.Proofs.Ytjcbhomfggjmhaa.Mm
