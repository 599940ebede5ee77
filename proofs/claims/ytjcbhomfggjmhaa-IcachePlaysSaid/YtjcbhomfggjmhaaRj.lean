import Derived.Test.YtjcbhomfggjmhaaRi
namespace Go.Proofs.Ytjcbhomfggjmhaa.Mm
open Go.ChangeShapes Go.WideShapes Go.ChangeAt Go.RowKit Go.Maps
set_option linter.unusedVariables false
def Rs.rfetchV (R : Rs) (c : Int) (x : Nat) (ah : Bool) : Nat := if R.rdy c x = 0 then (if ah = true then (lk R.ahead c x).getD (R.val c x) else R.val c x) else 0
def Rs.rfetch (R : Rs) (c : Int) (x : Nat) (ah : Bool) : Rs := if R.rdy c x = 0 then (if ah = true ∧ (lk R.ahead c x).isSome = true then R else R.fill c x) else R
section
variable {w w' : World} {lo : Nat → Prop} {p : Nat} {L : Rl} {V : Nat → Value} {R R' : Rs}
set_option maxRecDepth 100000 in
set_option maxHeartbeats 4000000 in
theorem rfetch_c (h : RsC w lo p L V R) (hT : Cfg R.T) (c : Int) {x : Nat} (ah : Bool) (hx : x < 18446744073709551616) (hs : R.cache.length < 1000000) :
    Calls Try.prog 29 #[.pointer (some ⟨p, 0, none⟩), .int .i64 c, .int .u64 (x : Nat), .bool ah] w fun e w' => e = .returned (.tuple #[.int .u32 (R.rfetchV c x ah : Nat), .int .i64 (R.rdy c x : Nat)]) ∧ (∃ V', RsC w' lo p L V' (R.rfetch c x ah)) ∧ Sv lo w w' := by
  have HI := Lib.hid (is_c h c)
  have HT := Lib.hid (rtold_c h hT hx)
  have HRF : Hid (∀ w', Below w.heap.size w w' → _) := Lib.hid (fun w' hb => rrefill_c (h.past (w' := w') hb) hT c hx hs)
  have H := Lib.hid h
  clear hs
  by_cases hc : isR R c
  · have d : decide (isR R c) = true := decide_eq_true hc
    rw [d] at HI
    have hr : R.rdy c x = (R.at x).2 := if_pos hc
    clear hc d
    rcases at_code R x with h0 | h8
    · rw [h0] at HT hr
      rw [hr, if_pos rfl] at HRF
      rw [hr]
      generalize (R.at x).1 = told at HT
      by_cases ha : ah = true ∧ (lk R.ahead c x).isSome = true
      · obtain ⟨rfl, ha⟩ := ha
        obtain ⟨u, hu⟩ := Option.isSome_iff_exists.1 ha
        have HV : Hid (R.rfetch c x true = R ∧ R.rfetchV c x true = u) := Lib.hid ⟨by unfold Rs.rfetch; rw [if_pos hr, if_pos ⟨rfl, ha⟩], by unfold Rs.rfetchV; rw [if_pos hr, if_pos rfl, hu]; rfl⟩
        rw [HV.out.1, HV.out.2]
        obtain ⟨i, hi, e3, e4⟩ := lk_at hu
        have HIL := Lib.hid hi
        have HF := Lib.hid e3
        have HW := Lib.hid e4
        have gi : (i : Int) < R.ahead.length := by omega
        have gi0 : (0 : Int) ≤ i := by omega
        clear h hr h0 ha hu HV hi e3 e4 HRF
        go_enter Try.func29, Try.ntmps29
        go_wp2_with (first
          | (go_at_call 63; refine HI.out.mono ?_; rintro e w1 ⟨rfl, h1⟩; obtain rfl := h1.symm)
          | (go_at_call 47; refine HT.out.mono ?_; rintro e w2 ⟨rfl, hb⟩; have HB := Lib.hid hb; have H2 := Lib.hid (H.out.past hb); obtain ⟨_, _, _, _, c4, _⟩ := H2.out.cells; have HFD := Lib.hid (find_c _ _ _ _ H2.out.row2 (H2.out.small 2 (by omega)) c x); rw [HF.out] at HFD; obtain ⟨pa, cp, hv, hf⟩ := own_form H2.out.row2; obtain ⟨g, rfl⟩ : ∃ g, pa = some ⟨g, 0, none⟩ := (by rcases hf with hf | hf; exact absurd hf (by have := HIL.out; omega); exact hf); have HR1 := Lib.hid H2.out.row2; rw [hv] at c4 HFD HR1; have e5 := (own_cells HR1.out).1 _ _ (clL_get _ i HIL.out).2.2; rw [HW.out] at e5; clear hb hf hv)
          | (go_at_call 64; refine HFD.out.mono ?_; rintro e w3 ⟨rfl, h1⟩; obtain rfl := h1.symm))
        refine bodyPost_ret (v := .tuple #[.int .u32 (u : Nat), .int .i64 0]) (by simp [results, Try.results29, go_sem]) rfl ⟨rfl, ⟨V, H2.out⟩, Sv.of HB.out⟩
      · have HV : Hid (R.rfetch c x ah = R.fill c x ∧ R.rfetchV c x ah = R.val c x) := Lib.hid ⟨by unfold Rs.rfetch; rw [if_pos hr, if_neg ha], by
          unfold Rs.rfetchV
          rw [if_pos hr]
          split
          · next h1 =>
            have : lk R.ahead c x = none := by
              cases hq : lk R.ahead c x with
              | none => rfl
              | some u => exact absurd ⟨h1, by rw [hq]; rfl⟩ ha
            rw [this]; rfl
          · rfl⟩
        rw [HV.out.1, HV.out.2]
        have hcase : (ah = false ∧ ∃ k : Int, fd R.ahead c x = k) ∨ (ah = true ∧ fd R.ahead c x = -1) := by
          cases ah with
          | false => exact .inl ⟨rfl, _, rfl⟩
          | true =>
            refine .inr ⟨rfl, ?_⟩
            rcases fd_cases R.ahead c x with ⟨e, _⟩ | ⟨i, _, _, e⟩
            · exact e
            · exact absurd ⟨rfl, by rw [e]; rfl⟩ ha
        obtain ⟨e1, e2, e7⟩ := fill_lk R c x
        obtain ⟨i, hi, e3, e4⟩ := lk_at e1
        have HIL := Lib.hid hi
        have HF := Lib.hid e3
        have HW := Lib.hid e4
        generalize R.val c x = u at HW ⊢
        have gi : (i : Int) < (R.fill c x).cache.length := by omega
        have gi0 : (0 : Int) ≤ i := by omega
        clear h hr h0 ha HV hi e1 e2 e7 e3 e4
        rcases hcase with ⟨rfl, k, hk⟩ | ⟨rfl, hk⟩
        all_goals
          have HK := Lib.hid hk
          clear hk
          go_enter Try.func29, Try.ntmps29
          go_upto_region 10 with (first
            | (go_at_call 63; refine HI.out.mono ?_; rintro e w1 ⟨rfl, h1⟩; obtain rfl := h1.symm)
            | (go_at_call 47; refine HT.out.mono ?_; rintro e w2 ⟨rfl, hb⟩; have HB := Lib.hid hb; have H2 := Lib.hid (H.out.past hb); obtain ⟨_, _, _, _, c4, _⟩ := H2.out.cells; have HFD := Lib.hid (find_c _ _ _ _ H2.out.row2 (H2.out.small 2 (by omega)) c x); rw [HK.out] at HFD; clear hb)
            | (go_at_call 64; refine HFD.out.mono ?_; rintro e w3 ⟨rfl, h1⟩; obtain rfl := h1.symm)
            | (go_at_call 32; refine (HRF.out _ HB.out).mono ?_; rintro e w1 ⟨rfl, ⟨V1, h1⟩, hb1⟩; have H1 := Lib.hid h1; have HB1 : Hid (Sv lo w _) := Lib.hid ((Sv.of HB.out).trans hb1); obtain ⟨_, _, _, c3, c9, _⟩ := h1.cells; have HFE : Hid (∀ n, _) := Lib.hid (fun n => find_c (w1.drewN n) 0 (V1 1) (R.fill c x).cache (own_past h1.row1 (below_drewN (Below.refl _ _) n)) (h1.small 1 (by omega)) c x); rw [HF.out] at HFE; obtain ⟨pa, cp, hv, hf⟩ := own_form h1.row1; obtain ⟨g, rfl⟩ : ∃ g, pa = some ⟨g, 0, none⟩ := (by rcases hf with hf | hf; exact absurd hf (by have := HIL.out; omega); exact hf); have HR1 := Lib.hid h1.row1; rw [hv] at c3 HFE HR1; have e5 := (own_cells HR1.out).1 _ _ (clL_get _ i HIL.out).2.2; rw [HW.out] at e5; clear h1 hb1 hf hv))
          go_quiet ((go_at_call 64; exact Calls.quiet_of_same (HFE.out _)))
          go_wp2
          refine bodyPost_ret (v := .tuple #[.int .u32 (u : Nat), .int .i64 0]) (by simp [results, Try.results29, go_sem]) rfl ⟨rfl, ⟨V1, H1.out.past (below_drewN (Below.refl _ _) _)⟩, HB1.out.drewN _⟩
    · rw [h8] at HT hr
      have HV : Hid (R.rfetch c x ah = R ∧ R.rfetchV c x ah = 0) := Lib.hid ⟨if_neg (by omega), if_neg (by omega)⟩
      rw [HV.out.1, HV.out.2, hr]
      generalize (R.at x).1 = told at HT
      clear h hr h8 HV HRF
      go_enter Try.func29, Try.ntmps29
      go_wp2_with (first
        | (go_at_call 63; refine HI.out.mono ?_; rintro e w1 ⟨rfl, h1⟩; obtain rfl := h1.symm)
        | (go_at_call 47; refine HT.out.mono ?_; rintro e w2 ⟨rfl, hb⟩; have HB := Lib.hid hb; have H2 := Lib.hid (H.out.past hb); clear hb))
      refine bodyPost_ret (v := .tuple #[.int .u32 0, .int .i64 8]) (by simp [results, Try.results29, go_sem]) rfl ⟨rfl, ⟨V, H2.out⟩, Sv.of HB.out⟩
  · have d : decide (isR R c) = false := decide_eq_false hc
    rw [d] at HI
    have hr : R.rdy c x = 1 := if_neg hc
    have HV : Hid (R.rfetch c x ah = R ∧ R.rfetchV c x ah = 0) := Lib.hid ⟨if_neg (by omega), if_neg (by omega)⟩
    rw [HV.out.1, HV.out.2, hr]
    clear h hc d hr HV HRF HT
    go_enter Try.func29, Try.ntmps29
    go_wp2_with (go_at_call 63; refine HI.out.mono ?_; rintro e w1 ⟨rfl, h1⟩; obtain rfl := h1.symm)
    refine bodyPost_ret (v := .tuple #[.int .u32 0, .int .i64 1]) (by simp [results, Try.results29, go_sem]) rfl ⟨rfl, ⟨V, H.out⟩, Sv.refl _ _⟩
end
end Go.Proofs.Ytjcbhomfggjmhaa.Mm
