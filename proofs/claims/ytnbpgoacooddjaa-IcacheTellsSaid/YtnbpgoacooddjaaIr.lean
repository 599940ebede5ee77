import Derived.Test.YtnbpgoacooddjaaIq
namespace Go.Proofs.Ytnbpgoacooddjaa.Mm
open Go.ChangeShapes Go.WideShapes Go.ChangeAt Go.RowKit Go.Maps Go.Deep
set_option linter.unusedVariables false
theorem NxS.arg {w : World} {base n : Nat} {a : Option Addr} {X : Nat → Nx} {w0 : World} (h : NxS w0 a n X) (hb : Below w0.heap.size w0 w) (hl : w0.heap.size ≤ base) : (n = 0 ∨ ∃ ab ao, a = some ⟨ab, ao, none⟩ ∧ ab < w.heap.size ∧ (∀ i, i < n → NxAt w ab (ao + i * 5) (X i)) ∧ (n ≤ 1 ∨ ab < base)) ∧ ∀ i, i < n → NxOk (X i) := by
  rcases h with h | ⟨b, o, e, hlt, hc⟩
  · exact ⟨.inl h, fun i hi => by omega⟩
  · refine ⟨.inr ⟨b, o, e, Nat.lt_of_lt_of_le hlt hb.size, fun i hi => (hc i hi).1.kept fun q => hb.cell (p := ⟨b, q, none⟩) hlt, .inr (by omega)⟩, fun i hi => (hc i hi).2⟩
theorem end_reads {S : Sd} {lo hi : Nat} (hn : S.n = 4) (hT : TgS lo hi S) (hC : CG lo hi S) (hW : ∀ d, d < 4 → S.Wt d = []) {k : Int} (hk : 0 ≤ k ∧ k ≤ 3) :
    (S.sync k).fetchV k 4160 true = lo ∧ rdy (S.sync k) k 4160 = 0 ∧ ((S.sync k).fetch k 4160 true).fetchV k 4164 false = hi ∧ rdy ((S.sync k).fetch k 4160 true) k 4164 = 0 ∧ (S.sync k).N = S.N ∧ ((S.sync k).fetch k 4160 true).N ≤ S.N + 1 := by
  have hc : isC S k := ⟨hk.1, by omega⟩
  have hs : S.sync k = { S with H := syncH S.H k } := if_pos hc
  rw [hs]
  obtain ⟨d, rfl⟩ := Int.eq_ofNat_of_zero_le hk.1
  have hd : d < 4 := by omega
  have hC1 : (S.C d 4160 = none ∨ S.C d 4160 = some lo) ∧ (S.C d 4164 = none ∨ S.C d 4164 = some hi) := by
    rcases hC d (by omega) with h | ⟨y, hy, _⟩
    · exact h
    · rw [hW d hd] at hy
      cases hy
  generalize hS : ({ S with H := syncH S.H (d : Int) } : Sd) = S1
  have hn1 : S1.n = 4 := by rw [← hS]; exact hn
  have hT1 : S1.T = S.T := by rw [← hS]
  have hC2 : S1.C = S.C := by rw [← hS]
  have hN1 : S1.N = S.N := by rw [← hS]
  have hH1 : S1.H (d : Int) 4160 = none := by rw [← hS]; exact if_pos rfl
  have hr : ∀ x, (wd S.T x).2 = 0 → ∀ S2 : Sd, S2.n = 4 → S2.T = S.T → rdy S2 (d : Int) x = 0 := fun x hx S2 h1 h2 => by
    unfold rdy
    rw [if_pos ⟨by omega, by omega⟩, h2, hx]
  have r1 := hr 4160 (by rw [hT.1]) S1 hn1 hT1
  have hf : S1.fetch (d : Int) 4160 true = S1.fill (d : Int) 4160 := by
    unfold Sd.fetch
    rw [if_pos r1, if_neg (fun h => by rw [hH1] at h; cases h.2)]
  have f := fill_H S1 (d : Int) 4160
  have r2 := hr 4164 (by rw [hT.2]) (S1.fill (d : Int) 4160) (f.2.2.1.trans hn1) (f.2.1.trans hT1)
  have hC3 : (S1.fill (d : Int) 4160).C (d : Int) 4164 = S.C (d : Int) 4164 := by
    unfold Sd.fill
    split
    · rw [hC2]
    · show (if (d : Int) = d ∧ 4164 = 4160 then _ else S1.C (d : Int) 4164) = _
      rw [if_neg (fun h => absurd h.2 (by decide)), hC2]
  rw [hf]
  refine ⟨?_, r1, ?_, r2, hN1, by have := fill_N S1 (d : Int) 4160; omega⟩
  · unfold Sd.fetchV
    rw [if_pos r1, if_pos rfl, hH1, Option.getD_none]
    unfold Sd.val
    rw [hC2, hT1, hT.1]
    rcases hC1.1 with h | h <;> rw [h]
    · exact Option.getD_none
    · exact Option.getD_some
  · unfold Sd.fetchV
    rw [if_pos r2, if_neg (by decide)]
    unfold Sd.val
    rw [hC3, f.2.1, hT1, hT.2]
    rcases hC1.2 with h | h <;> rw [h]
    · exact Option.getD_none
    · exact Option.getD_some
set_option maxRecDepth 100000 in
set_option maxHeartbeats 40000000 in
theorem tells_walk (w : World) (a0 : Option Addr) (n0 cap0 : Nat) (X0 : Nat → Nx) (hX0 : NxS w a0 n0 X0) (hn0 : n0 ≤ 140737488355328) (a1 : Option Addr) (n1 cap1 : Nat) (X1 : Nat → Nx) (hX1 : NxS w a1 n1 X1) (hn1 : n1 ≤ 140737488355328)
    (a2 : Option Addr) (n2 cap2 : Nat) (X2 : Nat → Nx) (hX2 : NxS w a2 n2 X2) (hn2 : n2 ≤ 140737488355328) (a3 : Option Addr) (n3 cap3 : Nat) (X3 : Nat → Nx) (hX3 : NxS w a3 n3 X3) (hn3 : n3 ≤ 140737488355328) (v : Nat) (hv : v < 18446744073709551616) (core : Int) :
    Calls Try.prog 11 #[.slice a0 n0 cap0, .slice a1 n1 cap1, .slice a2 n2 cap2, .slice a3 n3 cap3, .int .u64 v, .int .i64 core] w fun e w' => e = .returned (.bool true) ∧ Below w.heap.size w w' := by
  have HK := Lib.hid (known42_c w)
  have HX0 := Lib.hid hX0
  have HX1 := Lib.hid hX1
  have HX2 := Lib.hid hX2
  have HX3 := Lib.hid hX3
  clear hX0 hX1 hX2 hX3
  go_enter Try.func11, Try.ntmps11
  go_upto_region 3 with (go_at_call 42; refine HK.out.mono ?_; rintro e w1 ⟨rfl, hb⟩; have HB1 := Lib.hid hb; clear hb)
  have e1 : IntKind.i64.wrap ((n0 : Int) + (n1 : Int)) = (n0 : Int) + (n1 : Int) := by rw [IntKind.wrap_i64]; omega
  have e2 : IntKind.i64.wrap ((n0 : Int) + (n1 : Int) + (n2 : Int)) = (n0 : Int) + (n1 : Int) + (n2 : Int) := by rw [IntKind.wrap_i64]; omega
  have e3 : IntKind.i64.wrap ((n0 : Int) + (n1 : Int) + (n2 : Int) + (n3 : Int)) = (n0 : Int) + (n1 : Int) + (n2 : Int) + (n3 : Int) := by rw [IntKind.wrap_i64]; omega
  by_cases hbad : 200 < n0 + n1 + n2 + n3
  · have d1 : decide ((200 : Int) < (n0 : Int) + (n1 : Int) + (n2 : Int) + (n3 : Int)) = true := decide_eq_true (by omega)
    go_wp2
    go_ret
    exact ⟨rfl, HB1.out⟩
  · have d1 : decide ((200 : Int) < (n0 : Int) + (n1 : Int) + (n2 : Int) + (n3 : Int)) = false := decide_eq_false (by omega)
    have HRG := Lib.hid (regs_c w1)
    have HNN : Hid (n0 + n1 + n2 + n3 ≤ 200) := Lib.hid (by omega)
    clear hbad
    go_upto_region 8 with (first
      | (go_at_call 44; refine HRG.out.mono ?_; rintro e w2 ⟨⟨u, rfl, hs⟩, hb⟩; have HSR := Lib.hid hs; have HB2 := Lib.hid (HB1.out.trans (hb.mono HB1.out.size)); clear hs hb)
      | (go_at_call 43; refine (new_two w2 u HSR.out).mono ?_; rintro e w3 ⟨⟨mb, vv, B, C, rfl, hm⟩, hb⟩; have HM3 := Lib.hid hm; have HB3 := Lib.hid (HB2.out.trans (hb.mono HB2.out.size)); clear hm hb))
    have HFM : Hid (∀ k, (fun k => w2.heap.size ≤ k ∧ k < w3.heap.size) k → w.heap.size ≤ k ∧ k < w3.heap.size) := Lib.hid (fun k hk => ⟨Nat.le_trans HB2.out.size hk.1, hk.2⟩)
    have HFL : Hid (∀ k, (fun k => w2.heap.size ≤ k ∧ k < w3.heap.size) k → k < w3.heap.size) := Lib.hid (fun k hk => hk.2)
    generalize (fun k => w2.heap.size ≤ k ∧ k < w3.heap.size) = FM at HM3 HFM HFL
    clear e1 e2 e3 d1 HK HRG
    go_upto_region 11 with (go_at_call 45; refine (side_c HM3.out iM_cfg (c := 4) (by omega) (by omega)).mono ?_; rintro e w4 ⟨⟨p, L, V, rfl, hs, hlm⟩, hb⟩; have HS4 := Lib.hid hs; have HLM := Lib.hid hlm.symm; have HM4 := Lib.hid (HM3.out.past hb); have HB4 := Lib.hid (HB3.out.trans (hb.mono HB3.out.size)); clear hs hb hlm)
    have HLO : Hid (w.heap.size ≤ w3.heap.size) := Lib.hid HB3.out.size
    have hlm := HLM.out
    subst hlm
    have HN5 := Lib.hid (noise_c (base := w.heap.size) (K := 0) (n := n0) true HS4.out HM4.out HFM.out HLO.out iM_cfg (bd0 iM 4) (by have := HNN.out; omega) X0 (HX0.out.arg HB4.out (Nat.le_refl _)).2 a0 cap0 (HX0.out.arg HB4.out (Nat.le_refl _)).1)
    go_upto_region 12 with (go_at_call 50; refine HN5.out.mono ?_; rintro e w5 ⟨rfl, M5, S5, V5, _, hc5, hm, hs, hbd, hsn, hb⟩; have HC5 := Lib.hid hc5; have HM5 := Lib.hid hm; have HS5 := Lib.hid hs; have HD5 := Lib.hid hbd; have HE5 : Hid (S5.n = 4) := Lib.hid hsn; have HB5 := Lib.hid (HB4.out.trans hb); clear hc5 hm hs hbd hsn hb)
    have HHS : Hid (Hs M5 4160 8 0 64) := Lib.hid (by obtain ⟨q1, ⟨q2, q3, q4, q5⟩, _⟩ := HC5.out; exact ⟨by omega, by rw [q2], by rw [q3]; omega, by rw [q3]; omega⟩)
    go_upto_region 14 with (go_at_call 51; refine (write_y HM5.out (u := v) HHS.out (by decide) HC5.out.2.1.2.2.1 hv).mono ?_; rintro e w6 ⟨rfl, hm, hk⟩; have HM6 := Lib.hid hm; have HS6 := Lib.hid (HS5.out.kp hk HFL.out); have HB6 := Lib.hid (HB5.out.trans (hk.below (B := w.heap.size) HB5.out.size (fun k hf => (HFM.out k hf).1))); clear hm hk)
    have HC6 : Hid (Cfg2 (M5.ld 0 64 (byts v 8))) := Lib.hid (ld_cfg2 HC5.out _ _ _)
    have HTM : Hid (TG (M5.ld 0 64 (byts v 8)) (v % 4294967296) (v / 4294967296)) := Lib.hid (TG.wrote hv)
    generalize M5.ld 0 64 (byts v 8) = M6 at HM6 HC6 HTM
    have HN7 := Lib.hid (noise_c (base := w.heap.size) (K := 0 + n0) (n := n1) false HS6.out HM6.out HFM.out HLO.out HC6.out HD5.out (by have := HNN.out; omega) X1 (HX1.out.arg HB6.out (Nat.le_refl _)).2 a1 cap1 (HX1.out.arg HB6.out (Nat.le_refl _)).1)
    go_upto_region 15 with (go_at_call 50; refine HN7.out.mono ?_; rintro e w7 ⟨rfl, M7, S7, V7, hq, hc7, hm, hs, hbd, hsn, hb⟩; obtain rfl := (hq rfl).1; have HM7 := Lib.hid hm; have HS7 := Lib.hid hs; have HD7 := Lib.hid hbd; have HE7 : Hid (S7.n = 4) := Lib.hid (hsn.trans HE5.out); have HB7 := Lib.hid (HB6.out.trans hb); clear hm hs hbd hsn hb hq hc7)
    go_upto_region 17 with (go_at_call 52; refine (clean_c HS7.out HM7.out (fun k hk => (HFM.out k hk).2) HC6.out.cfg (x := 4160) (by omega)).mono ?_; rintro e w8 ⟨rfl, hs, hb⟩; have HS8 := Lib.hid hs; have HM8 := Lib.hid (HM7.out.kept hb.size (fun k hf => hb.block k (HFM.out k hf).2)); have HB8 := Lib.hid (HB7.out.trans (hb.mono HB3.out.size)); clear hs hb)
    have HT8 : Hid (TgS (v % 4294967296) (v / 4294967296) (S7.tell M7 4160)) := Lib.hid (TG.told HTM.out)
    have HD8 : Hid (Bd (0 + n0 + n1) (S7.tell M7 4160)) := Lib.hid (HD7.out.same rfl rfl HD7.out.n (Nat.le_refl _))
    have HE8 : Hid ((S7.tell M7 4160).n = 4) := Lib.hid HE7.out
    generalize S7.tell M7 4160 = S8 at HS8 HT8 HD8 HE8
    have HN9 := Lib.hid (noise_c (base := w.heap.size) (K := 0 + n0 + n1) (n := n2) false HS8.out HM8.out HFM.out HLO.out HC6.out HD8.out (by have := HNN.out; omega) X2 (HX2.out.arg HB8.out (Nat.le_refl _)).2 a2 cap2 (HX2.out.arg HB8.out (Nat.le_refl _)).1)
    go_upto_region 18 with (go_at_call 50; refine HN9.out.mono ?_; rintro e w9 ⟨rfl, M9, S9, V9, hq, hc9, hm, hs, hbd, hsn, hb⟩; obtain ⟨rfl, rfl⟩ := hq rfl; have HM9 := Lib.hid hm; have HS9 := Lib.hid hs; have HD9 := Lib.hid hbd; have HE9 := Lib.hid (hsn.trans HE8.out); have HB9 := Lib.hid (HB8.out.trans hb); clear hm hs hbd hsn hb hq hc9)
    have HT9 := Lib.hid (TgS.actN HTM.out HT8.out X2 n2)
    generalize actN M9 X2 S8 n2 = S9 at HS9 HT9 HD9 HE9
    have HIC : Hid (isC S9 1) := Lib.hid ⟨by omega, by have := HE9.out; omega⟩
    have HIR : Hid ((if isC S9 1 then 0 else 1 : Nat) = 0) := Lib.hid (if_pos HIC.out)
    have HIV := Lib.hid (inval_c HS9.out 1 (x := 4168) (by omega) (fun d hd => Nat.le_trans (HD9.out.l d hd) (by have := HNN.out; omega)))
    rw [HIR.out] at HIV
    go_upto_region 20 with (go_at_call 53; refine HIV.out.mono ?_; rintro e w10 ⟨rfl, ⟨V10, hs⟩, hb⟩; have HS10 := Lib.hid hs; have HM10 := Lib.hid (HM9.out.kept hb.size (fun k hf => hb.block k (HFM.out k hf).2)); have HB10 := Lib.hid (HB9.out.trans (hb.mono HB3.out.size)); clear hs hb)
    have HD10 : Hid (Bd (0 + n0 + n1 + n2 + 1) (S9.inval 1 4168)) := Lib.hid (by
      have := HD9.out.act iM (x := ⟨7, 1, 4168, 0, 0⟩) ⟨⟨by show (-9223372036854775808 : Int) ≤ 1; omega, by show (1 : Int) ≤ _; omega, by show 4168 < _; omega⟩, by show (0 : Int) ≤ _; omega, by show 0 < _; omega⟩
      exact this)
    have HT10 : Hid (TgS (v % 4294967296) (v / 4294967296) (S9.inval 1 4168)) := Lib.hid (TgS.act HTM.out HT9.out ⟨7, 1, 4168, 0, 0⟩)
    have HG10 : Hid (CG (v % 4294967296) (v / 4294967296) (S9.inval 1 4168)) := Lib.hid (CG.inval 1 HIC.out)
    have HE10 : Hid ((S9.inval 1 4168).n = 4) := Lib.hid ((act_n iM ⟨7, 1, 4168, 0, 0⟩ S9).trans HE9.out)
    generalize S9.inval 1 4168 = S10 at HS10 HT10 HD10 HE10 HG10
    have HNB := Lib.hid (noise_c (base := w.heap.size) (K := 0 + n0 + n1 + n2 + 1) (n := n3) false HS10.out HM10.out HFM.out HLO.out HC6.out HD10.out (by have := HNN.out; omega) X3 (HX3.out.arg HB10.out (Nat.le_refl _)).2 a3 cap3 (HX3.out.arg HB10.out (Nat.le_refl _)).1)
    go_upto_region 21 with (go_at_call 50; refine HNB.out.mono ?_; rintro e w11 ⟨rfl, M11, S11, V11, hq, hc11, hm, hs, hbd, hsn, hb⟩; obtain ⟨rfl, rfl⟩ := hq rfl; have HS11 := Lib.hid hs; have HD11 := Lib.hid hbd; have HE11 := Lib.hid (hsn.trans HE10.out); have HB11 := Lib.hid (HB10.out.trans hb); clear hm hs hbd hsn hb hq hc11)
    have HT11 := Lib.hid (TgS.actN HTM.out HT10.out X3 n3)
    have HG11 := Lib.hid (CG.actN HTM.out HT10.out HG10.out X3 n3)
    generalize actN M11 X3 S10 n3 = S11 at HS11 HT11 HD11 HE11 HG11
    have HD11 : Hid (Bd 201 S11) := Lib.hid (HD11.out.same rfl rfl (by have := HD11.out.n; have := HNN.out; omega) (by have := HNN.out; omega))
    clear HX0 HX1 HX2 HX3 HN5 HN7 HN9 HNB HIV HIR HIC HM3 HM4 HM5 HM6 HM7 HM8 HM9 HM10 HS4 HS5 HS6 HS7 HS8 HS9 HS10 HC5 HC6 HHS HT8 HT9 HT10 HG10 HD5 HD7 HD8 HD9 HD10 HE5 HE7 HE8 HE9 HE10 HB1 HB2 HB4 HB5 HB6 HB7 HB8 HB9 HB10 HSR HTM HNN hn0 hn1 hn2 hn3
    have HLS : Hid (w.heap.size ≤ w3.heap.size) := Lib.hid HB3.out.size
    clear HB3 HLO
    go_wp2
    go_loopw [17, 18] (fun s17 _ wr => ∃ (c : Nat) (S' : Sd) (V' : Nat → Value), c ≤ 4 ∧ s17 = .int .i64 c ∧ Hid (SdC wr w3.heap.size p L V' S') ∧ Hid (Bd 201 S') ∧ Hid (S'.n = 4) ∧ Hid (TgS (v % 4294967296) (v / 4294967296) S') ∧ Hid (CG (v % 4294967296) (v / 4294967296) S') ∧ Hid (∀ d, d < c → S'.Wt d = []) ∧ Hid (Below w.heap.size w wr)) (fun s17 _ _ => 5 - (intOf s17).toNat)
    case atStart => exact ⟨0, S11, V11, by omega, rfl, HS11, HD11, HE11, HT11, HG11, Lib.hid (fun d hd => by omega), HB11⟩
    case round =>
      clear HS11 HD11 HE11 HT11 HG11 HB11
      obtain ⟨c, S', V', hc, rfl, HS, HD, HE, HT, HG, HW, HB⟩ := hrel
      by_cases hlt : c < 4
      · have gc : (c : Int) < 4 := by omega
        go_upto_region 25 with (fail)
        go_loopw [18] (fun s18 wi => ∃ (i : Nat) (S2 : Sd) (V2 : Nat → Value), s18 = .int .i64 i ∧ (S2.Wt c).length + i ≤ 201 ∧ Hid (SdC wi w3.heap.size p L V2 S2) ∧ Hid (Bd 201 S2) ∧ Hid (S2.n = 4) ∧ Hid (TgS (v % 4294967296) (v / 4294967296) S2) ∧ Hid (CG (v % 4294967296) (v / 4294967296) S2) ∧ Hid (∀ d, d < c → S2.Wt d = []) ∧ Hid (Below w.heap.size w wi)) (fun s18 _ => 300 - (intOf s18).toNat)
        case atStart => exact ⟨0, S', V', rfl, by have := HD.out.l c (by have := HE.out; omega); omega, HS, HD, HE, HT, HG, HW, HB⟩
        case round =>
          clear HS HD HE HT HG HW HB
          obtain ⟨i, S2, V2, rfl, hlen, HS, HD, HE, HT, HG, HW, HB⟩ := hrel
          have gi : (i : Int) < 205 := by omega
          have HWC := Lib.hid (waiting_c HS.out (c : Int))
          have HWN : Hid (S2.waitN (c : Int) = (S2.Wt c).length) := Lib.hid (if_pos ⟨by omega, by have := HE.out; omega⟩)
          rw [HWN.out] at HWC
          by_cases h0 : (S2.Wt c).length = 0
          · rw [h0] at HWC
            have HWZ : Hid (S2.Wt c = []) := Lib.hid (List.eq_nil_of_length_eq_zero h0)
            clear h0 hlen
            go_wp2_with (go_at_call 54; refine HWC.out.mono ?_; rintro e w7 ⟨rfl, h1⟩; obtain rfl := h1.symm)
            refine ⟨⟨c + 1, S2, V2, by omega, by go_num, HS, HD, HE, HT, HG, Lib.hid (fun d hd => by
              rcases Nat.lt_or_ge d c with h1 | h1
              · exact HW.out d h1
              · obtain rfl : d = c := by omega
                exact HWZ.out), HB⟩, by simp [intOf]; omega⟩
          · have gw : 0 < (S2.Wt c).length := by omega
            have HDW := Lib.hid (deliver_wt (S := S2) (c := c) 0 (by have := HE.out; omega) (by omega))
            have HL : Hid ((S2.Wt c).length + i ≤ 201 ∧ 0 < (S2.Wt c).length) := Lib.hid ⟨hlen, by omega⟩
            clear h0 hlen
            have HDC := Lib.hid (deliver_c HS.out (c : Int) 0 (by omega) (fun d hd => Nat.le_trans (HD.out.l d hd) (by omega)) HD.out.y)
            generalize (S2.Wt c).length = nw at HWC HWN gw HDW HL
            go_wp2_with (first
              | (go_at_call 54; refine HWC.out.mono ?_; rintro e w7 ⟨rfl, h1⟩; obtain rfl := h1.symm)
              | (go_at_call 55; refine HDC.out.mono ?_; rintro e w8 ⟨rfl, ⟨V3, hs⟩, hb⟩; have HS3 := Lib.hid hs; have HB3 := Lib.hid (HB.out.trans (hb.mono HLS.out)); clear hs hb))
            exact ⟨⟨i + 1, S2.deliver (c : Int) 0, V3, by go_num, by have := HL.out; rw [HDW.out.1]; omega, HS3, Lib.hid (HD.out.deliver _ _), Lib.hid ((deliver_n _ _ _).trans HE.out), Lib.hid (HT.out.deliver _ _), Lib.hid (HG.out.deliver _ _ (fun h => by omega)), Lib.hid (fun d hd => by rw [HDW.out.2 d (by omega)]; exact HW.out d hd), HB3⟩, by simp [intOf]; omega⟩
      · obtain rfl : c = 4 := by omega
        clear hlt hc
        by_cases g1 : core < 0
        · have HKK : Hid ((0 : Int) ≤ 0 ∧ (0 : Int) ≤ 3) := Lib.hid (by omega)
          have HO1 : Hid (Okk 0 4160) := Lib.hid ⟨by omega, by omega, by omega⟩
          have HO2 : Hid (Okk 0 4164) := Lib.hid ⟨by omega, by omega, by omega⟩
          have HER := Lib.hid (end_reads HE.out HT.out HG.out HW.out (k := 0) HKK.out)
          have HNB : Hid (S'.N ≤ 402) := Lib.hid HD.out.n
          have HIZ : Hid ((if isC S' 0 then 0 else 1 : Nat) = 0) := Lib.hid (if_pos ⟨HKK.out.1, by have := HE.out; have := HKK.out.2; omega⟩)
          have HSY := Lib.hid (sync_c HS.out 0)
          rw [HIZ.out] at HSY
          have ov : (bits BinOp.or IntKind.u64 ((v : Int) % 4294967296) ((v : Int) / 4294967296 * 4294967296) == (v : Int)) = true := by
            rw [show (v : Int) % 4294967296 = ((v % 4294967296 : Nat) : Int) by omega, show (v : Int) / 4294967296 * 4294967296 = ((v / 4294967296 : Nat) : Int) * 4294967296 by omega, or_v hv]
            simp
          go_wp2_with (first
            | (go_at_call 56; refine HSY.out.mono ?_; rintro e w7 ⟨rfl, hs, hb⟩; have HS7 := Lib.hid hs; have HB7 := Lib.hid (HB.out.trans (hb.mono HLS.out)); have HF1 := Lib.hid (fetch_c HS7.out (c := 0) (x := 4160) true HO1.out (by have := HER.out.2.2.2.2.1; have := HNB.out; omega)); rw [HER.out.1, HER.out.2.1] at HF1; clear hs hb)
            | (go_at_call 57; refine HF1.out.mono ?_; rintro e w8 ⟨rfl, hs, hb⟩; have HS8 := Lib.hid hs; have HB8 := Lib.hid (HB7.out.trans (hb.mono HLS.out)); have HF2 := Lib.hid (fetch_c HS8.out (c := 0) (x := 4164) false HO2.out (by have := HER.out.2.2.2.2.2; have := HNB.out; omega)); rw [HER.out.2.2.1, HER.out.2.2.2.1] at HF2; clear hs hb HF1)
            | (go_at_call 57; refine HF2.out.mono ?_; rintro e w9 ⟨rfl, hs, hb⟩; have HB9 := Lib.hid (HB8.out.trans (hb.mono HLS.out)); clear hs hb))
          go_ret
          exact ⟨rfl, HB9.out⟩
        · by_cases g2 : 3 < core
          · have HKK : Hid ((0 : Int) ≤ 0 ∧ (0 : Int) ≤ 3) := Lib.hid (by omega)
            have HO1 : Hid (Okk 0 4160) := Lib.hid ⟨by omega, by omega, by omega⟩
            have HO2 : Hid (Okk 0 4164) := Lib.hid ⟨by omega, by omega, by omega⟩
            have HER := Lib.hid (end_reads HE.out HT.out HG.out HW.out (k := 0) HKK.out)
            have HNB : Hid (S'.N ≤ 402) := Lib.hid HD.out.n
            have HIZ : Hid ((if isC S' 0 then 0 else 1 : Nat) = 0) := Lib.hid (if_pos ⟨HKK.out.1, by have := HE.out; have := HKK.out.2; omega⟩)
            have HSY := Lib.hid (sync_c HS.out 0)
            rw [HIZ.out] at HSY
            have ov : (bits BinOp.or IntKind.u64 ((v : Int) % 4294967296) ((v : Int) / 4294967296 * 4294967296) == (v : Int)) = true := by
              rw [show (v : Int) % 4294967296 = ((v % 4294967296 : Nat) : Int) by omega, show (v : Int) / 4294967296 * 4294967296 = ((v / 4294967296 : Nat) : Int) * 4294967296 by omega, or_v hv]
              simp
            go_wp2_with (first
              | (go_at_call 56; refine HSY.out.mono ?_; rintro e w7 ⟨rfl, hs, hb⟩; have HS7 := Lib.hid hs; have HB7 := Lib.hid (HB.out.trans (hb.mono HLS.out)); have HF1 := Lib.hid (fetch_c HS7.out (c := 0) (x := 4160) true HO1.out (by have := HER.out.2.2.2.2.1; have := HNB.out; omega)); rw [HER.out.1, HER.out.2.1] at HF1; clear hs hb)
              | (go_at_call 57; refine HF1.out.mono ?_; rintro e w8 ⟨rfl, hs, hb⟩; have HS8 := Lib.hid hs; have HB8 := Lib.hid (HB7.out.trans (hb.mono HLS.out)); have HF2 := Lib.hid (fetch_c HS8.out (c := 0) (x := 4164) false HO2.out (by have := HER.out.2.2.2.2.2; have := HNB.out; omega)); rw [HER.out.2.2.1, HER.out.2.2.2.1] at HF2; clear hs hb HF1)
              | (go_at_call 57; refine HF2.out.mono ?_; rintro e w9 ⟨rfl, hs, hb⟩; have HB9 := Lib.hid (HB8.out.trans (hb.mono HLS.out)); clear hs hb))
            go_ret
            exact ⟨rfl, HB9.out⟩
          · have HKK : Hid ((0 : Int) ≤ core ∧ core ≤ 3) := Lib.hid (by omega)
            have HO1 : Hid (Okk core 4160) := Lib.hid ⟨by omega, by omega, by omega⟩
            have HO2 : Hid (Okk core 4164) := Lib.hid ⟨by omega, by omega, by omega⟩
            have HER := Lib.hid (end_reads HE.out HT.out HG.out HW.out (k := core) HKK.out)
            have HNB : Hid (S'.N ≤ 402) := Lib.hid HD.out.n
            have HIZ : Hid ((if isC S' core then 0 else 1 : Nat) = 0) := Lib.hid (if_pos ⟨HKK.out.1, by have := HE.out; have := HKK.out.2; omega⟩)
            have HSY := Lib.hid (sync_c HS.out core)
            rw [HIZ.out] at HSY
            have ov : (bits BinOp.or IntKind.u64 ((v : Int) % 4294967296) ((v : Int) / 4294967296 * 4294967296) == (v : Int)) = true := by
              rw [show (v : Int) % 4294967296 = ((v % 4294967296 : Nat) : Int) by omega, show (v : Int) / 4294967296 * 4294967296 = ((v / 4294967296 : Nat) : Int) * 4294967296 by omega, or_v hv]
              simp
            go_wp2_with (first
              | (go_at_call 56; refine HSY.out.mono ?_; rintro e w7 ⟨rfl, hs, hb⟩; have HS7 := Lib.hid hs; have HB7 := Lib.hid (HB.out.trans (hb.mono HLS.out)); have HF1 := Lib.hid (fetch_c HS7.out (c := core) (x := 4160) true HO1.out (by have := HER.out.2.2.2.2.1; have := HNB.out; omega)); rw [HER.out.1, HER.out.2.1] at HF1; clear hs hb)
              | (go_at_call 57; refine HF1.out.mono ?_; rintro e w8 ⟨rfl, hs, hb⟩; have HS8 := Lib.hid hs; have HB8 := Lib.hid (HB7.out.trans (hb.mono HLS.out)); have HF2 := Lib.hid (fetch_c HS8.out (c := core) (x := 4164) false HO2.out (by have := HER.out.2.2.2.2.2; have := HNB.out; omega)); rw [HER.out.2.2.1, HER.out.2.2.2.1] at HF2; clear hs hb HF1)
              | (go_at_call 57; refine HF2.out.mono ?_; rintro e w9 ⟨rfl, hs, hb⟩; have HB9 := Lib.hid (HB8.out.trans (hb.mono HLS.out)); clear hs hb))
            go_ret
            exact ⟨rfl, HB9.out⟩
end Go.Proofs.Ytnbpgoacooddjaa.Mm
