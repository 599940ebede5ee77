import Derived.Test.YtjcbhomfggjmhaaRn
import Derived.Test.YtjcbhomfggjmhaaId
namespace Go.Proofs.Ytjcbhomfggjmhaa.Mm
open Go.ChangeShapes Go.WideShapes Go.ChangeAt Go.RowKit Go.Maps
set_option linter.unusedVariables false
/-- The told cells with the first j words of the line that begins at f as they are in M. -/
def flowT (M : Me) (l : List Cl) (f : Nat) : Nat → List Cl
  | 0 => l
  | j + 1 => dropC (flowT M l f j) (-1) (f + 4 * j) ++ [⟨-1, f + 4 * j, (wd M (f + 4 * j)).1⟩]
theorem flowT_len (M : Me) (l : List Cl) (f : Nat) : ∀ j, (flowT M l f j).length ≤ l.length + j
  | 0 => Nat.le_refl _
  | j + 1 => by
    show (dropC (flowT M l f j) (-1) (f + 4 * j) ++ [_]).length ≤ _
    rw [List.length_append]
    have h1 := dropC_len (flowT M l f j) (-1) (f + 4 * j)
    have h2 := flowT_len M l f j
    have h3 : ([⟨-1, f + 4 * j, (wd M (f + 4 * j)).1⟩] : List Cl).length = 1 := rfl
    omega
def flowR (M : Me) (R : Rs) (f j : Nat) : Rs := if inR f then R.setL 0 (flowT M R.told f j) else R
def Rs.flow (R : Rs) (M : Me) (x : Nat) : Rs := flowR M R (x - x % 64) 16
theorem wd_in {M : Me} {f j : Nat} (h64 : f % 64 = 0) (hj : j < 16) : (inR f → (wd M (f + 4 * j)).2 = 0) ∧ (¬ inR f → (wd M (f + 4 * j)).2 = 8) := by
  unfold wd inR
  constructor
  · intro h; rw [if_pos (by omega)]
  · intro h; rw [if_neg (by omega)]
section
variable {w w' : World} {lo : Nat → Prop} {p q : Nat} {L : Rl} {V : Nat → Value} {R R' : Rs} {FM : Nat → Prop} {M : Me} {vm : Value} {Bm Cm : Nat → Nat}
set_option maxRecDepth 100000 in
set_option maxHeartbeats 8000000 in
theorem rflow_c (h : RsC w lo p L V R) (hm : MeC 70 72 w FM q M vm Bm Cm) (hF : ∀ k, FM k → lo k) (hM : Cfg M) {x : Nat} (hx : x < 18446744073709551616) (hs : R.told.length + 16 < 1000000) :
    Calls Try.prog 36 #[.pointer (some ⟨p, 0, none⟩), .pointer (some ⟨q, 0, none⟩), .int .u64 (x : Nat)] w fun e w' => e = .returned (.int .i64 (if inR x then 0 else 8 : Nat)) ∧ (∃ V', RsC w' lo p L V' (R.flow M x)) ∧ Sv lo w w' := by
  have H := Lib.hid h
  have HM := Lib.hid hm
  have HCM := Lib.hid hM
  have HFM := Lib.hid hF
  have HLS := Lib.hid hs
  have HST : Hid (R.flow M x = flowR M R (x - x % 64) 16) := Lib.hid rfl
  have hre : (if inR x then 0 else 8 : Nat) = if inR (x - x % 64) then 0 else 8 := by
    have : inR x ↔ inR (x - x % 64) := by unfold inR; omega
    by_cases h1 : inR x
    · rw [if_pos h1, if_pos (this.1 h1)]
    · rw [if_neg h1, if_neg (fun h2 => h1 (this.2 h2))]
  rw [hre, HST.out]
  have H64 : Hid ((x - x % 64) % 64 = 0) := Lib.hid (by omega)
  have HXL : Hid (x - x % 64 + 64 ≤ 18446744073709551616) := Lib.hid (by omega)
  have hf : IntKind.u64.wrap ((x : Int) - (x : Int) % 64) = ((x - x % 64 : Nat) : Int) := by rw [IntKind.wrap_u64]; omega
  have hf2 : IntKind.u64.wrap ((x : Int) - (x : Int).tmod 64) = ((x - x % 64 : Nat) : Int) := by rw [Int.tmod_eq_emod_of_nonneg (by omega), IntKind.wrap_u64]; omega
  generalize x - x % 64 = f at hf hf2 H64 HXL
  have HS0 : Hid (RsC w lo p L V (flowR M R f 0)) := Lib.hid (by
    unfold flowR
    split
    · show RsC w lo p L V { R with told := R.told }
      exact h
    · exact h)
  clear h hm hM hF hs hre HST
  go_enter Try.func36, Try.ntmps36
  go_wp2
  clear hf hf2
  go_loopw [8, 9, 10, 11, 12] (fun s8 s9 _ _ _ wr => ∃ (j a : Nat) (V' : Nat → Value), j ≤ 16 ∧ a ≤ 64 ∧ s9 = .int .u64 a ∧ s8 = .bool (decide (0 < j ∧ inR f)) ∧ Hid (a = 4 * j) ∧ Hid (RsC wr lo p L V' (flowR M R f j)) ∧ Hid (Sv lo w wr)) (fun _ s9 _ _ _ _ => 65 - (intOf s9).toNat)
  case atStart => exact ⟨0, 0, V, by omega, by omega, rfl, by rw [decide_eq_false (fun h => by omega)], Lib.hid rfl, HS0, Lib.hid (Sv.refl _ _)⟩
  case round =>
    obtain ⟨j, a, V', hj, ha, rfl, rfl, HA, HSr, HBr⟩ := hrel
    by_cases hlt : a < 64
    · have d1 : decide ((a : Int) < 64) = true := decide_eq_true (by omega)
      have d2 : decide (a < 64) = true := decide_eq_true hlt
      have hw : IntKind.u64.wrap ((f : Int) + (a : Int)) = ((f + a : Nat) : Int) := by have := HXL.out; rw [IntKind.wrap_u64]; omega
      have hw1 : (f : Int) + (a : Int) = ((f + a : Nat) : Int) := by omega
      have hw2 : IntKind.u64.wrap ((f + a : Nat) : Int) = ((f + a : Nat) : Int) := by have := HXL.out; rw [IntKind.wrap_u64]; omega
      have HA4 : Hid (a + 4 ≤ 64) := Lib.hid (by have := HA.out; omega)
      have hy2 : f + a < 18446744073709551616 := by have := HXL.out; omega
      have hj2 : j < 16 := by have := HA.out; omega
      have HMr := Lib.hid (HM.out.kept HBr.out.size (fun k hk => HBr.out.block k (HFM.out k hk) (HM.out.fl k hk)))
      have HWC := Lib.hid (rword_cfg HMr.out HCM.out hy2)
      have HY : Hid (f + a = f + 4 * j) := Lib.hid (by have := HA.out; omega)
      obtain ⟨wi, wo⟩ := wd_in (M := M) H64.out hj2
      by_cases hin : inR f
      · have hc0 : (wd M (f + a)).2 = 0 := by rw [HY.out]; exact wi hin
        rw [hc0] at HWC
        have HE : Hid (flowR M R f (j + 1) = R.setL 0 (dropC (flowT M R.told f j) (-1) (f + a) ++ [⟨-1, f + a, (wd M (f + a)).1⟩])) := Lib.hid (by unfold flowR; rw [if_pos hin, HY.out]; rfl)
        have hfl : flowR M R f j = R.setL 0 (flowT M R.told f j) := if_pos hin
        rw [hfl] at HSr
        have hll := flowT_len M R.told f j
        have HLL : Hid ((flowT M R.told f j).length < 1000000) := Lib.hid (by have := HLS.out; omega)
        have HIN := Lib.hid hin
        generalize flowT M R.told f j = T at HE HSr HLL
        generalize (wd M (f + a)).1 = u at HWC HE
        generalize f + a = y at hw hw1 hw2 HWC HE
        clear hc0 wi wo hin hfl hll hy2
        have d3 : decide (0 < j + 1 ∧ inR f) = true := decide_eq_true ⟨by omega, HIN.out⟩
        rcases fd_drop T (-1) y with ⟨f1, f2, f3⟩ | ⟨i, hi, f1, f2, f3⟩
        · have F1 := Lib.hid f1
          have F3 := Lib.hid f3
          clear f1 f2 f3
          go_upto_region 12 with (first
            | (go_at_call 66; refine HWC.out.mono ?_; rintro e w1 ⟨rfl, hb⟩; have HB1 := Lib.hid hb; have HS1 := Lib.hid (HSr.out.past hb); obtain ⟨_, _, c2, _⟩ := HS1.out.cells; have HFD := Lib.hid (find_c _ _ _ _ HS1.out.row0 (HS1.out.small 0 (by omega)) (-1) y); have HFD : Hid (Calls Try.prog 64 #[V' 0, .int .i64 (-1), .int .u64 (y : Nat)] w1 fun e w' => e = .returned (.int .i64 (fd T (-1) y)) ∧ w' = w1) := HFD; rw [F1.out] at HFD; clear hb)
            | (go_at_call 64; refine HFD.out.mono ?_; rintro e w2 ⟨rfl, h1⟩; obtain rfl := h1.symm))
          obtain ⟨v', w4, hr, k1, k2, ⟨a4, n4, cp4, rfl⟩, hp, hb⟩ := HS1.out.push (k := 0) (by omega) ⟨-1, y, u⟩ HLL.out
          obtain ⟨a5, cp5, hv5⟩ := HS1.out.rowsK (k := 0) (by omega)
          rw [hv5] at k1
          have HR := Lib.hid hr
          obtain ⟨V2, hp⟩ := hp
          have HP : Hid (RsC (w4.setCell ⟨p, 2, none⟩ (.slice a4 n4 cp4)) lo p L V2 (R.setL 0 (T ++ [⟨-1, y, u⟩]))) := Lib.hid hp
          have HB4 : Hid (Sv lo w (w4.setCell ⟨p, 2, none⟩ (.slice a4 n4 cp4))) := Lib.hid ((HBr.out.trans (Sv.of HB1.out)).trans hb)
          have k3 : w4.cell? ⟨p, 2, none⟩ = some (.slice a5 _ cp5) := k1
          have k4 : w4.frozen? ⟨p, 2, none⟩ = false := k2
          clear hr hp hb k1 k2 hv5
          go_wp2_with (at_builtin; refine wpList_append_run' rfl _ _ _ rfl _ _ _ _ rfl rfl HR.out ?_)
          exact ⟨⟨j + 1, a + 4, V2, by omega, HA4.out, by go_num, by rw [d3], Lib.hid (by have := HA.out; omega), by rw [HE.out, F3.out]; exact HP, HB4⟩, by simp [intOf]; omega⟩
        · have F1 := Lib.hid f1
          have F3 := Lib.hid f3
          have HI := Lib.hid hi
          have gi : (0 : Int) ≤ i := by omega
          clear f1 f2 f3 hi
          go_upto_region 12 with (first
            | (go_at_call 66; refine HWC.out.mono ?_; rintro e w1 ⟨rfl, hb⟩; have HB1 := Lib.hid hb; have HS1 := Lib.hid (HSr.out.past hb); obtain ⟨_, _, c2, _⟩ := HS1.out.cells; have HFD := Lib.hid (find_c _ _ _ _ HS1.out.row0 (HS1.out.small 0 (by omega)) (-1) y); have HFD : Hid (Calls Try.prog 64 #[V' 0, .int .i64 (-1), .int .u64 (y : Nat)] w1 fun e w' => e = .returned (.int .i64 (fd T (-1) y)) ∧ w' = w1) := HFD; rw [F1.out] at HFD; have HDR := Lib.hid (drop_c w1 0 (V' 0) T HS1.out.row0 (Nat.le_of_lt HLL.out) HI.out); have HDL : Hid ((T.eraseIdx i).length < 1000000) := Lib.hid (by have := HLL.out; rw [List.length_eraseIdx_of_lt HI.out]; omega); clear hb)
            | (go_at_call 64; refine HFD.out.mono ?_; rintro e w2 ⟨rfl, h1⟩; obtain rfl := h1.symm)
            | (go_at_call 65; refine HDR.out.mono ?_; rintro e w3 ⟨⟨v', rfl, ho⟩, hb⟩; obtain ⟨d1, d2, ⟨V2, hp⟩, hb2⟩ := HS1.out.lay (k := 0) (by omega) hb ho (Nat.le_of_lt HDL.out); obtain ⟨a5, cp5, hv5⟩ := HS1.out.rowsK (k := 0) (by omega); rw [hv5] at d1; obtain ⟨a4, cp4, rfl, _⟩ := own_form ho; have d5 : w3.cell? ⟨p, 2, none⟩ = some (.slice a5 _ cp5) := d1; have d4 : w3.frozen? ⟨p, 2, none⟩ = false := d2; have H3 : Hid (RsC (w3.setCell ⟨p, 2, none⟩ _) lo p L V2 (R.setL 0 (T.eraseIdx i))) := Lib.hid hp; have HB3 : Hid (Sv lo w (w3.setCell ⟨p, 2, none⟩ _)) := Lib.hid ((HBr.out.trans (Sv.of HB1.out)).trans hb2); clear hp hb2 hb ho hv5 d1 d2))
          generalize w3.setCell ⟨p, 2, none⟩ _ = W3 at H3 HB3 ⊢
          clear d4 d5 c2
          obtain ⟨_, _, c2, _⟩ := H3.out.cells
          obtain ⟨v', w4, hr, k1, k2, ⟨a6, n6, cp6, rfl⟩, hp, hb⟩ := H3.out.push (k := 0) (by omega) ⟨-1, y, u⟩ HDL.out
          obtain ⟨a7, cp7, hv7⟩ := H3.out.rowsK (k := 0) (by omega)
          rw [hv7] at k1
          have HR := Lib.hid hr
          obtain ⟨V5, hp⟩ := hp
          have HP : Hid (RsC (w4.setCell ⟨p, 2, none⟩ (.slice a6 n6 cp6)) lo p L V5 (R.setL 0 (T.eraseIdx i ++ [⟨-1, y, u⟩]))) := Lib.hid hp
          have HB4 : Hid (Sv lo w (w4.setCell ⟨p, 2, none⟩ (.slice a6 n6 cp6))) := Lib.hid (HB3.out.trans hb)
          have k3 : w4.cell? ⟨p, 2, none⟩ = some (.slice a7 _ cp7) := k1
          have k4 : w4.frozen? ⟨p, 2, none⟩ = false := k2
          clear hr hp hb k1 k2 hv7
          go_wp2_with (at_builtin; refine wpList_append_run' rfl _ _ _ rfl _ _ _ _ rfl rfl HR.out ?_)
          exact ⟨⟨j + 1, a + 4, V5, by omega, HA4.out, by go_num, by rw [d3], Lib.hid (by have := HA.out; omega), by rw [HE.out, F3.out]; exact HP, HB4⟩, by simp [intOf]; omega⟩
      · have hc8 : (wd M (f + a)).2 = 8 := by rw [HY.out]; exact wo hin
        rw [hc8] at HWC
        have HE : Hid (flowR M R f (j + 1) = flowR M R f j) := Lib.hid (by unfold flowR; rw [if_neg hin, if_neg hin])
        have d3 : decide (0 < j + 1 ∧ inR f) = false := decide_eq_false (fun h => hin h.2)
        have d4 : decide (0 < j ∧ inR f) = false := decide_eq_false (fun h => hin h.2)
        generalize (wd M (f + a)).1 = u at HWC
        generalize f + a = y at hw hw1 hw2 HWC
        rw [d4]
        clear hc8 wi wo hin d4 hy2
        go_wp2_with (go_at_call 66; refine HWC.out.mono ?_; rintro e w1 ⟨rfl, hb⟩; have HB1 := Lib.hid hb; have HS1 := Lib.hid (HSr.out.past hb); clear hb)
        exact ⟨⟨j + 1, a + 4, V', by omega, HA4.out, by go_num, by rw [d3], Lib.hid (by have := HA.out; omega), by rw [HE.out]; exact HS1, Lib.hid (HBr.out.trans (Sv.of HB1.out))⟩, by simp [intOf]; omega⟩
    · have hj16 : j = 16 := by have := HA.out; omega
      subst hj16
      have d1 : decide ((a : Int) < 64) = false := decide_eq_false (by omega)
      by_cases hin : inR f
      · have d2 : decide (0 < 16 ∧ inR f) = true := decide_eq_true ⟨by omega, hin⟩
        have HIN := Lib.hid hin
        rw [d2]
        clear hin d2
        go_wp2
        go_ret
        exact ⟨rfl, ⟨_, HSr.out⟩, HBr.out⟩
      · have d2 : decide (0 < 16 ∧ inR f) = false := decide_eq_false fun h => hin h.2
        have HIN := Lib.hid hin
        rw [d2]
        clear hin d2
        go_wp2
        go_ret
        exact ⟨rfl, ⟨_, HSr.out⟩, HBr.out⟩
end
end Go.Proofs.Ytjcbhomfggjmhaa.Mm
