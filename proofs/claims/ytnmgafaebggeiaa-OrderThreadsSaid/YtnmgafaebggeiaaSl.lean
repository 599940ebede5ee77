import Derived.Test.YtnmgafaebggeiaaSk
namespace Go.Proofs.Ytnmgafaebggeiaa.St
open Go.ChangeShapes Go.WideShapes Go.ChangeAt Go.RowKit Go.Maps
set_option linter.unusedVariables false
/-! ### syncs -/
section
variable {w w' : World} {P : Pc} {F : Fx} {S : St}
theorem SmC.tmAt (h : SmC w P F S) {i : Nat} (hi : i < F.N) : w.cell? ⟨P.eb, P.eo + i * 9 + 8, none⟩ = some (.int .i64 (F.tm i)) := (h.ev i hi).2.c8
theorem SmC.evs (h : SmC w P F S) {i : Nat} (hi : i < F.N) : w.cell? ⟨P.s, 0, none⟩ = some (.slice (some ⟨P.eb, P.eo, none⟩) F.N P.ec) := (h.ev i hi).1 ▸ h.cell (j := 0) (by omega)
theorem SmC.rowsAt (h : SmC w P F S) {k : Nat} (hk : k < 4) : w.cell? ⟨P.s, 2, none⟩ = some (.slice (some ⟨P.rb, 0, none⟩) 4 4) ∧ w.cell? ⟨P.rb, k, none⟩ = some (P.V k) :=
  ⟨h.cell (by omega), (own_cells h.rr).1 k _ (by simp [hk])⟩
end
def Fx.dl (F : Fx) (r j : Nat) : List Nat := ((F.rows r).take j).filter F.sy
theorem Fx.dl_step (F : Fx) {r j i : Nat} (h : (F.rows r)[j]? = some i) : F.dl r (j + 1) = F.dl r j ++ (if F.sy i = true then [i] else []) := by
  unfold Fx.dl
  rw [List.take_add_one, h, List.filter_append]
  simp [List.filter_cons]
theorem Fx.dl_len (F : Fx) (r j : Nat) : (F.dl r j).length ≤ (F.rows r).length :=
  Nat.le_trans (List.length_filter_le _ _) (by rw [List.length_take]; omega)
theorem Fx.dl_all (F : Fx) (r : Nat) : F.dl r (F.rows r).length = (F.rows r).filter F.sy := by unfold Fx.dl; rw [List.take_length]
theorem intL_len (l : List Nat) : (intL l).length = l.length := by unfold intL; simp
theorem intL_app (l m : List Nat) : intL (l ++ m) = intL l ++ intL m := by unfold intL; simp
theorem Fx.syl_len (F : Fx) (hF : FxOk F) : ∀ r, r ≤ 4 → (F.syl r).length ≤ r * 150
  | 0, _ => by simp [Fx.syl]
  | r + 1, h => by
    have := Fx.syl_len F hF r (by omega)
    rw [F.syl_step, List.length_append]
    have h1 : ((F.rows r).filter F.sy).length ≤ (F.rows r).length := List.length_filter_le _ _
    have h2 := hF.l r (by omega)
    omega
theorem app_int {W : World} {base n : Nat} {v : Value} {l : List Nat} (ho : W.ownsRow base 3 1 v n (intL l)) (hn : n = l.length) (hl : l.length ≤ 1000) (hb : base ≤ W.heap.size) (i : Nat) :
    ∃ v' W', (Builtin.append_ #[61, 61] 61 #[v, .slice (some ⟨W.heap.size, 0, none⟩) 1 1]).run Try.prog (W.alloc (.cells #[.int .i64 (i : Nat)] 3)) = .ok v' W' ∧ W'.ownsRow base 3 1 v' (l ++ [i]).length (intL (l ++ [i])) ∧ Below base W W' := by
  have hb1 : Below W.heap.size W (W.alloc (.cells #[.int .i64 (i : Nat)] 3)) := (Below.refl _ _).alloc (Nat.le_refl _) _
  obtain ⟨v', W', h1, h2, h3, _⟩ := app_c el61 _ base n 1 v _ _ _ (own_past ho hb1) (src_one (rowAt_new W #[.int .i64 (i : Nat)] 3)) (by omega) (Nat.le_trans hb hb1.size)
  refine ⟨v', W', h1, ?_, ((Below.refl base W).alloc hb _).grown h3 (Nat.le_trans hb hb1.size) (fun g hg => (ho.lt g hg).1)⟩
  rw [List.length_append, intL_app, ← hn]
  exact h2
set_option maxRecDepth 100000 in
set_option maxHeartbeats 8000000 in
theorem syncs_c (hsort : SortLaw) {w : World} {P : Pc} {F : Fx} {S : St} (h : SmC w P F S) (hF : FxOk F) :
    Calls Try.prog 27 #[.pointer (some ⟨P.s, 0, none⟩)] w fun r w' => Below w.heap.size w w' ∧ ((F.good ∧ ∃ v l, r = .returned (.tuple #[v, .bool true]) ∧ l.Perm (F.syl 4) ∧ l.Pairwise (fun i j => F.tm i < F.tm j) ∧ w'.ownsRow w.heap.size 3 1 v l.length (intL l)) ∨
      (¬ F.good ∧ r = .returned (.tuple #[.slice none 0 0, .bool false]))) := by
  have HF := Lib.hid hF
  have HSO := Lib.hid hsort
  have HH := Lib.hid h
  clear hsort hF
  have HBW : Hid (Below w.heap.size w (w.alloc (.cells #[.pointer (some ⟨P.s, 0, none⟩)] 50))) := Lib.hid ((Below.refl _ _).alloc (Nat.le_refl _) _)
  have HC : Hid (rowAt (w.alloc (.cells #[.pointer (some ⟨P.s, 0, none⟩)] 50)) w.heap.size = some #[.pointer (some ⟨P.s, 0, none⟩)]) := Lib.hid (rowAt_new _ _ _)
  have HS0 := Lib.hid (h.past HBW.out)
  have HSZ : Hid ((w.alloc (.cells #[.pointer (some ⟨P.s, 0, none⟩)] 50)).heap.size = w.heap.size + 1) := Lib.hid (size_alloc _ _)
  have e2 := (HS0.out.rowsAt (k := 0) (by omega)).1
  clear h
  go_enter Try.func27, Try.ntmps27
  go_wp2
  clear e2
  generalize (w.alloc (.cells #[.pointer (some ⟨P.s, 0, none⟩)] 50)) = W0 at HBW HC HS0 HSZ ⊢
  obtain ⟨c, hc⟩ : ∃ c, c = w.heap.size := ⟨_, rfl⟩
  have HCC := Lib.hid hc
  rw [← hc] at HC HSZ ⊢
  clear hc
  go_loopw [4, 16] (fun s4 s16 wr => ∃ r : Nat, s16 = .int .i64 r ∧ r ≤ 4 ∧ Hid (wr.ownsRow (c + 1) 3 1 s4 (F.syl r).length (intL (F.syl r))) ∧ Hid (∀ k, k < r → F.rise k) ∧ Hid (Below (c + 1) W0 wr)) (fun _ s16 _ => 4 - iof s16)
  case atStart => exact ⟨0, rfl, by omega, Lib.hid ⟨rfl, .inl ⟨rfl, rfl⟩⟩, Lib.hid (fun k hk => absurd hk (Nat.not_lt_zero k)), Lib.hid (Below.refl _ _)⟩
  case round =>
    obtain ⟨r, rfl, hr, HO, HR, HB⟩ := hrel
    by_cases hr4 : r < 4
    · have HR4 := Lib.hid hr4
      have HS := Lib.hid (HS0.out.past (HSZ.out ▸ HB.out))
      obtain ⟨_, r3⟩ := HS.out.rowsAt hr4
      have HRW := Lib.hid (HS.out.rows r hr4)
      obtain ⟨a, cap, hv, hf⟩ := own_form HRW.out
      rw [hv] at r3
      obtain ⟨b4, p4, hv4, _⟩ := own_form HO.out
      subst hv4
      have gr : (r : Int) < 4 := by omega
      have gr0 : (0 : Int) ≤ r := by omega
      have HL0 : Hid ((F.syl r).length ≤ 450) := Lib.hid (by have := F.syl_len HF.out r hr; omega)
      have hlen := HF.out.l r hr4
      generalize hn0 : (F.syl r).length = n0 at HO r3 ⊢
      have HN0 := Lib.hid hn0
      clear hn0
      generalize hnr : (F.rows r).length = n at r3 hf hlen ⊢
      have HNR := Lib.hid hnr
      have HV : Hid (P.V r = .slice a n cap) := Lib.hid (hnr ▸ hv)
      clear hnr hv
      go_wp2
      clear r3
      generalize wr = w1 at *
      go_loopw [4, 24] (fun s4 s24 wr => ∃ j : Nat, s24 = .int .i64 j ∧ j ≤ n ∧ Hid (wr.ownsRow (c + 1) 3 1 s4 (F.syl r ++ F.dl r j).length (intL (F.syl r ++ F.dl r j))) ∧ Hid ((F.dl r j).Pairwise fun i j => F.tm i < F.tm j) ∧ Hid (Below (c + 1) W0 wr)) (fun _ s24 _ => n - iof s24)
      case atStart => exact ⟨0, rfl, by omega, Lib.hid (by have := HO.out; rw [show F.dl r 0 = [] from rfl, List.append_nil, HN0.out]; exact this), Lib.hid List.Pairwise.nil, HB⟩
      case round =>
        obtain ⟨j, rfl, hj, HO2, HD, HB2⟩ := hrel
        obtain ⟨b5, p5, hv5, hf5⟩ := own_form HO2.out
        subst hv5
        have HS2 := Lib.hid (HS0.out.past (HSZ.out ▸ HB2.out))
        by_cases hlt : j < n
        · obtain ⟨g, rfl⟩ : ∃ g, a = some ⟨g, 0, none⟩ := by
            rcases hf with hf | hf
            · omega
            · exact hf
          obtain ⟨i, hi⟩ : ∃ i, (F.rows r)[j]? = some i := ⟨_, List.getElem?_eq_getElem (by rw [HNR.out]; exact hlt)⟩
          have HIX := Lib.hid hi
          have HI : Hid (i < F.N) := Lib.hid (HS.out.rg r HR4.out i (List.mem_of_getElem? hi)).1
          have HST := Lib.hid (F.dl_step hi)
          have r4 : wr.cell? ⟨g, j, none⟩ = some (.int .i64 i) := by
            have := HS2.out.rows r HR4.out
            rw [HV.out, HNR.out] at this
            refine (own_cells this).1 j _ ?_
            rw [List.getElem?_map, hi]
            rfl
          have r0 : wr.cell? ⟨c, 0, none⟩ = some (.pointer (some ⟨P.s, 0, none⟩)) := (HB2.out.cell (p := ⟨c, 0, none⟩) (Nat.lt_succ_self c)).trans (rowAt_cell HC.out 0)
          have r5 : wr.cell? ⟨P.s, 1, none⟩ = some (.slice (some ⟨P.sb, 0, none⟩) F.N F.N) := HS2.out.ats.1
          have r6 := HS2.out.sync HI.out
          have g1 : (j : Int) < n := by omega
          have g2 : (0 : Int) ≤ j := by omega
          have g3 : (i : Int) < F.N := by have := HI.out; omega
          have g4 : (0 : Int) ≤ i := by omega
          have gw : IntKind.i64.wrap ((j : Int) + 1) = ((j + 1 : Nat) : Int) := by rw [IntKind.wrap_i64]; omega
          have HLT := Lib.hid hlt
          clear hi hlt
          cases hsy : F.sy i with
          | false =>
            rw [hsy] at r6
            have HE : Hid (F.dl r (j + 1) = F.dl r j) := Lib.hid (by rw [HST.out, hsy]; simp)
            clear hsy
            go_wp2
            exact ⟨⟨j + 1, by simp, HLT.out, by rw [HE.out]; exact HO2, by rw [HE.out]; exact HD, HB2⟩, by have := HLT.out; simp [iof]; omega⟩
          | true =>
            rw [hsy] at r6
            have HE : Hid (F.dl r (j + 1) = F.dl r j ++ [i]) := Lib.hid (by rw [HST.out, hsy]; simp)
            have HLL : Hid ((F.syl r ++ F.dl r j).length ≤ 1000) := Lib.hid (by
              rw [List.length_append]
              have h1 := F.dl_len r j
              have h2 := HL0.out
              rw [HNR.out] at h1
              omega)
            have HLN : Hid ((F.syl r ++ F.dl r j).length = n0 + (F.dl r j).length) := Lib.hid (by rw [List.length_append, HN0.out])
            clear hsy
            generalize hn1 : (F.syl r ++ F.dl r j).length = n1 at HO2 HLL HLN ⊢
            have HN1 := Lib.hid hn1
            clear hn1
            -- the append and the round's end
            have HEND : Hid (∀ q, ∃ v' W', (Builtin.append_ #[61, 61] 61 #[.slice b5 n1 p5, .slice (some ⟨(wr.drewN q).heap.size, 0, none⟩) 1 1]).run Try.prog ((wr.drewN q).alloc (.cells #[.int .i64 (i : Nat)] 3)) = .ok v' W' ∧ W'.ownsRow (c + 1) 3 1 v' (F.syl r ++ F.dl r (j + 1)).length (intL (F.syl r ++ F.dl r (j + 1))) ∧ Below (c + 1) W0 W') := Lib.hid (fun q => by
              have hb := below_drewN (Below.refl wr.heap.size wr) q
              obtain ⟨v', W', h1, h2, h3⟩ := app_int (own_past HO2.out hb) HN1.out.symm (by rw [HN1.out]; exact HLL.out) (Nat.le_trans (HSZ.out ▸ Nat.le_refl _) (Nat.le_trans HB2.out.size hb.size)) i
              refine ⟨v', W', h1, ?_, HB2.out.trans ((hb.mono (Nat.le_trans (HSZ.out ▸ Nat.le_refl _) HB2.out.size)).trans h3)⟩
              rw [HE.out, ← List.append_assoc]
              exact h2)
            by_cases hD : F.dl r j = []
            · have HPW : Hid ((F.dl r (j + 1)).Pairwise fun i j => F.tm i < F.tm j) := Lib.hid (by rw [HE.out, hD]; simp)
              have d1 : decide (n0 < n1) = false := decide_eq_false (by rw [HLN.out, hD]; simp)
              clear hD
              go_upto_region 12 with (fail)
              go_quiet (fail)
              go_upto_region 12 with (fail)
              obtain ⟨v', W', hrn, ho9, hb9⟩ := HEND.out nq
              have HRN := Lib.hid hrn
              have HO9 := Lib.hid ho9
              have HB9 := Lib.hid hb9
              clear hrn ho9 hb9
              go_wp2_with (at_builtin; refine wpList_append_run' rfl _ _ _ rfl _ _ _ _ rfl rfl HRN.out ?_)
              exact ⟨⟨j + 1, by simp, HLT.out, HO9, HPW, HB9⟩, by have := HLT.out; simp [iof]; omega⟩
            · obtain ⟨d0, m, hm⟩ : ∃ d0 m, F.dl r j = d0 ++ [m] := ⟨_, _, (List.dropLast_concat_getLast hD).symm⟩
              clear hD
              have HM := Lib.hid hm
              have HMN : Hid (m < F.N) := Lib.hid (by
                have h1 : m ∈ F.dl r j := by rw [hm]; simp
                exact (HS.out.rg r HR4.out m (List.mem_of_mem_take (List.mem_filter.1 h1).1)).1)
              have HN2 : Hid (n1 = n0 + d0.length + 1) := Lib.hid (by rw [HLN.out, hm]; simp; omega)
              have hn2 := HN2.out
              obtain ⟨b, rfl⟩ : ∃ b, b5 = some ⟨b, 0, none⟩ := by
                rcases hf5 with hf5 | hf5
                · rw [HN1.out] at hf5; omega
                · exact hf5
              have r7 : wr.cell? ⟨b, n1 - 1, none⟩ = some (.int .i64 m) := by
                refine (own_cells HO2.out).1 (n1 - 1) _ ?_
                rw [hm]
                unfold intL
                rw [List.getElem?_map, ← List.append_assoc, List.getElem?_append_right (by rw [List.length_append, HN0.out]; omega)]
                rw [show n1 - 1 - (F.syl r ++ d0).length = 0 by rw [List.length_append, HN0.out]; omega]
                rfl
              have r8 := HS2.out.evs HI.out
              have r9 := HS2.out.tmAt HI.out
              have r10 := HS2.out.tmAt HMN.out
              have d1 : decide (n0 < n1) = true := decide_eq_true (by omega)
              have gm : (m : Int) < F.N := by have := HMN.out; omega
              have gm0 : (0 : Int) ≤ m := by omega
              have hll := HLL.out
              have gw1 : IntKind.i64.wrap ((n1 - 1 : Nat) : Int) = ((n1 - 1 : Nat) : Int) := by rw [IntKind.wrap_i64]; omega
              have gw2 : (n1 : Int) - 1 = ((n1 - 1 : Nat) : Int) := by omega
              have gi1 : ((n1 - 1 : Nat) : Int) < n1 := by omega
              have gi2 : (0 : Int) ≤ ((n1 - 1 : Nat) : Int) := by omega
              clear hm hn2 hll
              by_cases hc : F.tm i ≤ F.tm m
              · have d2 : decide (F.tm i ≤ F.tm m) = true := decide_eq_true hc
                have HNG : Hid (¬ F.good) := Lib.hid (fun hg => by
                  have h1 := hg.1 r HR4.out
                  have h2 : (F.dl r (j + 1)).Sublist ((F.rows r).filter F.sy) := (List.take_sublist (j + 1) (F.rows r)).filter F.sy
                  have h3 := List.Pairwise.sublist h2 h1
                  rw [HE.out, HM.out, List.pairwise_append] at h3
                  have := h3.2.2 m (by simp) i (by simp)
                  omega)
                clear hc
                go_upto_region 12 with (fail)
                go_quiet (fail)
                go_wp2
                go_ret2
                have hbw := HBW.out
                have h5 := HSZ.out
                have h6 := HB2.out
                have h7 := HCC.out
                exact ⟨hbw.trans ((h6.trans (below_drewN (Below.refl _ _) _)).mono (by omega)), .inr ⟨HNG.out, rfl⟩⟩
              · have d2 : decide (F.tm i ≤ F.tm m) = false := decide_eq_false hc
                have HPW : Hid ((F.dl r (j + 1)).Pairwise fun i j => F.tm i < F.tm j) := Lib.hid (by
                  rw [HE.out, List.pairwise_append]
                  refine ⟨HD.out, List.pairwise_singleton _ _, fun x hx y hy => ?_⟩
                  rw [List.mem_singleton.1 hy]
                  have h1 := HD.out
                  rw [HM.out] at h1 hx
                  rw [List.pairwise_append] at h1
                  rcases List.mem_append.1 hx with hx | hx
                  · have := h1.2.2 x hx m (by simp)
                    omega
                  · rw [List.mem_singleton.1 hx]
                    omega)
                clear hc
                go_upto_region 12 with (fail)
                go_quiet (fail)
                go_upto_region 12 with (fail)
                obtain ⟨v', W', hrn, ho9, hb9⟩ := HEND.out nq
                have HRN := Lib.hid hrn
                have HO9 := Lib.hid ho9
                have HB9 := Lib.hid hb9
                clear hrn ho9 hb9
                go_wp2_with (at_builtin; refine wpList_append_run' rfl _ _ _ rfl _ _ _ _ rfl rfl HRN.out ?_)
                exact ⟨⟨j + 1, by simp, HLT.out, HO9, HPW, HB9⟩, by have := HLT.out; simp [iof]; omega⟩
        · have d1 : decide (j < n) = false := decide_eq_false hlt
          have HJ : Hid (j = n) := Lib.hid (by omega)
          clear hlt
          have gw : IntKind.i64.wrap ((r : Int) + 1) = ((r + 1 : Nat) : Int) := by rw [IntKind.wrap_i64]; omega
          have HEQ : Hid (F.syl r ++ F.dl r j = F.syl (r + 1)) := Lib.hid (by rw [F.syl_step, ← F.dl_all r, HNR.out, HJ.out])
          have HD9 : Hid (F.rise r) := Lib.hid (by have := HD.out; rw [HJ.out, ← HNR.out, F.dl_all] at this; exact this)
          go_wp2
          exact ⟨⟨r + 1, by simp, by omega, by have := HO2.out; rw [HEQ.out] at this; exact Lib.hid (by rw [HEQ.out]; exact this), Lib.hid (fun k hk => by
            rcases Nat.lt_or_ge k r with h | h
            · exact HR.out k h
            · have : k = r := by omega
              rw [this]; exact HD9.out), HB2⟩, by simp [iof]; omega⟩
    · obtain rfl : r = 4 := by omega
      have HG0 : Hid (∀ k, k < 4 → F.rise k) := HR
      have HS := Lib.hid (HS0.out.past (HSZ.out ▸ HB.out))
      obtain ⟨b4, p4, hv4, hf4⟩ := own_form HO.out
      subst hv4
      have HO4 : Hid (wr.ownsRow (c + 1) 3 1 (.slice b4 (F.syl 4).length p4) (F.syl 4).length (intL (F.syl 4))) := HO
      have HL6 : Hid ((F.syl 4).length ≤ 600) := Lib.hid (F.syl_len HF.out 4 (Nat.le_refl _))
      clear hr4 HO HR hr
      generalize hn0 : (F.syl 4).length = n0 at HO4 HL6 hf4 ⊢
      have HLEN : Hid (n0 = (F.syl 4).length) := Lib.hid hn0.symm
      clear hn0
      have HCL : Hid (wr.cell? ⟨c, 0, none⟩ = some (.pointer (some ⟨P.s, 0, none⟩))) := Lib.hid ((HB.out.cell (p := ⟨c, 0, none⟩) (Nat.lt_succ_self c)).trans (rowAt_cell HC.out 0))
      have HSRT := Lib.hid (HSO.out wr P F S c (c + 1) n0 _ (F.syl 4) HS.out HCL.out (Nat.lt_of_lt_of_le (by rw [HSZ.out]; exact Nat.lt_succ_self c) HB.out.size) HO4.out (by have := HH.out.sl; rw [← HCC.out] at this; omega) (Nat.lt_succ_self c) (by have := HH.out.el; rw [← HCC.out] at this; omega) (fun i hi => by
        obtain ⟨k, hk, hik⟩ := List.mem_flatMap.1 (List.mem_filter.1 hi).1
        exact (HH.out.rg k (List.mem_range.1 hk) i hik).1) (by have := HL6.out; have := HLEN.out; omega))
      go_wp2_with (first | (go_at_call 31; refine HSRT.out.mono ?_; rintro e w2 ⟨rfl, l', hp, hs, ho, hg⟩; have HP := Lib.hid hp; have HSS := Lib.hid hs; have HO2 := Lib.hid ho; have HB3 := Lib.hid (HB.out.grown hg (Nat.le_trans (HSZ.out ▸ Nat.le_refl _) HB.out.size) (fun g hgg => (HO4.out.lt g hgg).1)); have HS2 := Lib.hid (HS0.out.past (HSZ.out ▸ HB3.out)); have HCL2 := Lib.hid ((HB3.out.cell (p := ⟨c, 0, none⟩) (Nat.lt_succ_self c)).trans (rowAt_cell HC.out 0)); clear hp hs ho hg HSRT))
      have HLL : Hid (l'.length = n0) := Lib.hid (by rw [HP.out.length_eq, HLEN.out])
      clear HS HO4 HCL
      go_loopw [10] (fun s10 wr => ∃ q : Nat, s10 = .int .i64 q ∧ 1 ≤ q ∧ q ≤ 1000 ∧ Hid (∀ m a b, m + 1 < q → l'[m]? = some a → l'[m + 1]? = some b → F.tm a ≠ F.tm b) ∧ Hid (Below w2.heap.size w2 wr)) (fun s10 _ => n0 + 1 - iof s10)
      case atStart => exact ⟨1, rfl, by omega, by omega, Lib.hid (fun m a b h => by omega), Lib.hid (Below.refl _ _)⟩
      case round =>
        obtain ⟨q, rfl, hq1, hq2, HQ, HBB⟩ := hrel
        have HS3 := Lib.hid (HS2.out.past HBB.out)
        have HBC : Hid (Below (c + 1) W0 wr) := Lib.hid (HB3.out.trans (HBB.out.mono (Nat.le_trans (HSZ.out ▸ Nat.le_refl _) HB3.out.size)))
        by_cases hlt : q < n0
        · have HO5 := Lib.hid (own_past HO2.out HBB.out)
          obtain ⟨b, rfl⟩ : ∃ b, b4 = some ⟨b, 0, none⟩ := by
            rcases hf4 with hf4 | hf4
            · omega
            · exact hf4
          obtain ⟨y, hy⟩ : ∃ y, l'[q]? = some y := ⟨_, List.getElem?_eq_getElem (by rw [HLL.out]; exact hlt)⟩
          obtain ⟨x, hx⟩ : ∃ x, l'[q - 1]? = some x := ⟨_, List.getElem?_eq_getElem (by rw [HLL.out]; omega)⟩
          have HX := Lib.hid hx
          have HY := Lib.hid hy
          have HMM : Hid (∀ z ∈ l', z < F.N) := Lib.hid (fun z hz => by
            obtain ⟨k, hk, hik⟩ := List.mem_flatMap.1 (List.mem_filter.1 (HP.out.subset hz)).1
            exact (HH.out.rg k (List.mem_range.1 hk) z hik).1)
          have HXN := Lib.hid (HMM.out x (List.mem_of_getElem? hx))
          have HYN := Lib.hid (HMM.out y (List.mem_of_getElem? hy))
          have r0 : wr.cell? ⟨c, 0, none⟩ = some (.pointer (some ⟨P.s, 0, none⟩)) := (HBC.out.cell (p := ⟨c, 0, none⟩) (Nat.lt_succ_self c)).trans (rowAt_cell HC.out 0)
          have r1 : wr.cell? ⟨b, q - 1, none⟩ = some (.int .i64 x) := (own_cells HO5.out).1 _ _ (by unfold intL; rw [List.getElem?_map, hx]; rfl)
          have r2 : wr.cell? ⟨b, q, none⟩ = some (.int .i64 y) := (own_cells HO5.out).1 _ _ (by unfold intL; rw [List.getElem?_map, hy]; rfl)
          have r3 := HS3.out.evs HXN.out
          have r4 := HS3.out.tmAt HXN.out
          have r5 := HS3.out.tmAt HYN.out
          have gx : (x : Int) < F.N := by have := HXN.out; omega
          have gx0 : (0 : Int) ≤ x := by omega
          have gy : (y : Int) < F.N := by have := HYN.out; omega
          have gy0 : (0 : Int) ≤ y := by omega
          have g1 : (q : Int) < n0 := by omega
          have g2 : (0 : Int) ≤ q := by omega
          have gw1 : IntKind.i64.wrap ((q - 1 : Nat) : Int) = ((q - 1 : Nat) : Int) := by rw [IntKind.wrap_i64]; omega
          have gw2 : (q : Int) - 1 = ((q - 1 : Nat) : Int) := by omega
          have gi1 : ((q - 1 : Nat) : Int) < n0 := by omega
          have gi2 : (0 : Int) ≤ ((q - 1 : Nat) : Int) := by omega
          have gw : IntKind.i64.wrap ((q : Int) + 1) = ((q + 1 : Nat) : Int) := by rw [IntKind.wrap_i64]; omega
          have HQ1 : Hid (q - 1 + 1 = q) := Lib.hid (by omega)
          have HLT := Lib.hid hlt
          have HL9 := HL6
          have HQ9 := Lib.hid hq1
          clear hx hy hlt
          by_cases hc : F.tm x = F.tm y
          · have d2 : (F.tm x == F.tm y) = true := by simp [hc]
            have HNG : Hid (¬ F.good) := Lib.hid (fun hg => by
              have h1 : l'.Pairwise fun i j => F.tm i ≠ F.tm j := (HP.out.pairwise_iff (fun {a b} h => Ne.symm h)).2 hg.2
              rw [List.pairwise_iff_getElem] at h1
              obtain ⟨hx1, hx2⟩ := List.getElem?_eq_some_iff.1 HX.out
              obtain ⟨hy1, hy2⟩ := List.getElem?_eq_some_iff.1 HY.out
              have := h1 (q - 1) q hx1 hy1 (by have := HQ1.out; omega)
              rw [hx2, hy2] at this
              exact this hc)
            clear hc
            go_wp2
            go_quiet (fail)
            go_wp2
            go_ret2
            have hbw := HBW.out
            have h5 := HSZ.out
            have h7 := HCC.out
            exact ⟨hbw.trans ((HBC.out.trans (below_drewN (Below.refl _ _) _ |>.mono (Nat.le_trans (by omega) HBC.out.size))).mono (by omega)), .inr ⟨HNG.out, rfl⟩⟩
          · have d2 : (F.tm x == F.tm y) = false := by simp [hc]
            have HC9 := Lib.hid hc
            clear hc
            go_wp2
            go_quiet (fail)
            go_wp2
            exact ⟨⟨q + 1, by simp, by omega, by have := HLT.out; have := HL9.out; omega, Lib.hid (fun m u v hm hu hv => by
              rcases Nat.lt_or_ge (m + 1) q with h | h
              · exact HQ.out m u v h hu hv
              · have hmq : m = q - 1 := by omega
                subst hmq
                rw [HQ1.out] at hv
                have e1 := hu.symm.trans HX.out
                have e2 := hv.symm.trans HY.out
                injection e1 with e1
                injection e2 with e2
                rw [e1, e2]
                exact HC9.out), Lib.hid (below_drewN HBB.out _)⟩, by have := HLT.out; simp [iof]; omega⟩
        · have d1 : decide (q < n0) = false := decide_eq_false hlt
          have HST : Hid (l'.Pairwise fun i j => F.tm i < F.tm j) := Lib.hid (by
            have h1 := HSS.out
            rw [List.pairwise_iff_getElem] at h1 ⊢
            intro i j hi hj hij
            have hl := HLL.out
            have ha := HQ.out i _ _ (by omega) (List.getElem?_eq_getElem hi) (List.getElem?_eq_getElem (show i + 1 < l'.length by omega))
            have hb := h1 i (i + 1) hi (by omega) (by omega)
            rcases Nat.lt_or_ge (i + 1) j with h | h
            · have hc := h1 (i + 1) j (by omega) hj h
              omega
            · have : j = i + 1 := by omega
              subst this
              omega)
          have HGD : Hid F.good := Lib.hid ⟨HG0.out, (HP.out.pairwise_iff (fun {a b} h => Ne.symm h)).1 (HST.out.imp fun h => by omega)⟩
          clear hlt
          go_wp2
          go_ret2
          have hbw := HBW.out
          have h5 := HSZ.out
          have h7 := HCC.out
          exact ⟨hbw.trans (HBC.out.mono (by omega)), .inl ⟨HGD.out, _, l', rfl, HP.out, HST.out, own_raise (by rw [HLL.out]; exact own_past HO2.out HBB.out) (by omega)⟩⟩
end Go.Proofs.Ytnmgafaebggeiaa.St
