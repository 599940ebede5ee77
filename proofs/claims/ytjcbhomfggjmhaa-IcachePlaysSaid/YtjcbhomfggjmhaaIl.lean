import Derived.Test.YtjcbhomfggjmhaaIk
namespace Go.Proofs.Ytjcbhomfggjmhaa.Mm
open Go.ChangeShapes Go.WideShapes Go.ChangeAt Go.RowKit Go.Maps
set_option linter.unusedVariables false
/-! ### The law's known -/
def k0 : Sd := S0 iM 2
def k1 : Sd := k0.refill 1 4096
def m1 : Me := iM.ld 0 0 (byts 7 8)
def k2 : Sd := k1.fetch 0 4096 false
def k3 : Sd := k2.tell m1 4096
def k4 : Sd := k3.inval 0 4096
def k5 : Sd := k4.deliver 0 0
def k6 : Sd := k5.deliver 1 0
def k7 : Sd := k6.fetch 1 4096 false
theorem kf1 : k1.fetchV 0 4096 false = 0 ∧ rdy k1 0 4096 = 0 ∧ k0.N < 1000000000 ∧ k1.N < 1000000000 := by decide +kernel
theorem kf2 : cntS k4 0 k4.n = 2 ∧ decide (k4.waitN 0 ≠ 0) = true ∧ decide (k5.waitN 1 ≠ 0) = true ∧ k6.N < 1000000000 := by decide +kernel
theorem kf3 : k6.fetchV 1 4096 false = 7 ∧ rdy k6 1 4096 = 0 ∧ cntS k7 0 k7.n = 0 := by decide +kernel
theorem kn : k3.n = 2 ∧ k4.n = 2 ∧ k5.n = 2 ∧ k7.n = 2 := by decide +kernel
theorem two_all {P : Nat → Prop} (h0 : P 0) (h1 : P 1) : ∀ d, d < 2 → P d := fun d hd => by
  have : d = 0 ∨ d = 1 := by omega
  rcases this with rfl | rfl
  · exact h0
  · exact h1
theorem kl3 : ∀ d, d < k3.n → (k3.Wt d).length ≤ 1000000 := by rw [kn.1]; exact two_all (by decide +kernel) (by decide +kernel)
theorem kl4 : ∀ d, d < k4.n → (k4.Wt d).length ≤ 1000000 := by rw [kn.2.1]; exact two_all (by decide +kernel) (by decide +kernel)
theorem kl5 : ∀ d, d < k5.n → (k5.Wt d).length ≤ 1000000 := by rw [kn.2.2.1]; exact two_all (by decide +kernel) (by decide +kernel)
theorem kl7 : ∀ d, d < k7.n → (k7.Wt d).length ≤ 1000000 := by rw [kn.2.2.2]; exact two_all (by decide +kernel) (by decide +kernel)
theorem kw4 : ∀ d, d < k4.n → ∀ y ∈ k4.Wt d, y.2 < 18446744073709551616 := by rw [kn.2.1]; exact two_all (by decide +kernel) (by decide +kernel)
theorem kw5 : ∀ d, d < k5.n → ∀ y ∈ k5.Wt d, y.2 < 18446744073709551616 := by rw [kn.2.2.1]; exact two_all (by decide +kernel) (by decide +kernel)
theorem okk01 (c : Int) (h : c = 0 ∨ c = 1) : Okk c 4096 := ⟨by omega, by omega, by omega⟩
set_option maxRecDepth 100000 in
set_option maxHeartbeats 8000000 in
theorem known42_c (w : World) : Calls Try.prog 4 #[] w fun e w' => e = .returned (.bool true) ∧ Below w.heap.size w w' := by
  have HR := Lib.hid (regs_c w)
  go_enter Try.func4, Try.ntmps4
  go_upto_region 4 with (first
    | (go_at_call 6; refine HR.out.mono ?_; rintro e w1 ⟨⟨u, rfl, hs⟩, hb⟩; have HSR := Lib.hid hs; have HB1 := Lib.hid hb; clear hs hb)
    | (go_at_call 5; refine (new_two w1 u HSR.out).mono ?_; rintro e w2 ⟨⟨mb, v, B, C, rfl, hm⟩, hb⟩; have HM2 := Lib.hid hm; have HB2 := Lib.hid (HB1.out.trans (hb.mono HB1.out.size)); clear hm hb))
  have HLO : Hid (∀ k, (fun k => w1.heap.size ≤ k ∧ k < w2.heap.size) k → k < w2.heap.size) := Lib.hid (fun k hk => hk.2)
  have HGE : Hid (∀ k, (fun k => w1.heap.size ≤ k ∧ k < w2.heap.size) k → w.heap.size ≤ k) := Lib.hid (fun k hk => Nat.le_trans HB1.out.size hk.1)
  generalize (fun k => w1.heap.size ≤ k ∧ k < w2.heap.size) = FM at HM2 HLO HGE
  go_upto_region 7 with (go_at_call 10; refine (side_c HM2.out iM_cfg (c := 2) (by omega) (by omega)).mono ?_; rintro e w3 ⟨⟨p, L, V, rfl, hs, hlm⟩, hb⟩; have HS3 : Hid (SdC w3 (fun k => k < w2.heap.size) p L V k0) := Lib.hid hs; have HLM := Lib.hid hlm; have HM3 := Lib.hid (HM2.out.past hb); have HB3 := Lib.hid (HB2.out.trans (hb.mono HB2.out.size)); clear hs hb hlm)
  go_upto_region 8 with (go_at_call 14; refine (refill_c HS3.out (c := 1) (x := 4096) (okk01 1 (.inr rfl)) kf1.2.2.1).mono ?_; rintro e w4 ⟨rfl, hs, hb⟩; have HS4 : Hid (SdC w4 (fun k => k < w2.heap.size) p L V k1) := Lib.hid hs; have HB4 := Lib.hid (HB3.out.trans ((hb.below' HS3.out.zl).mono HB2.out.size)); have HM4 := Lib.hid (HM3.out.kept hb.size (fun k hf => hb.block k (HLO.out k hf) (HM3.out.fl k hf))); clear hs hb)
  go_upto_region 9 with (go_at_call 15; refine (write_y HM4.out (u := 7) (x := 4096) (k := 0) (o := 0) ⟨by decide, rfl, by decide, by decide⟩ rfl rfl (by omega)).mono ?_; rintro e w5 ⟨rfl, hm, hk⟩; have HM5 : Hid (MeC 64 67 w5 FM mb m1 v B C) := Lib.hid hm; have HS5 := Lib.hid (HS4.out.kp hk HLO.out); have HB5 := Lib.hid (HB4.out.trans (hk.below (B := w.heap.size) HB4.out.size HGE.out)); clear hm hk)
  have HF6 := Lib.hid (fetch_c HS5.out (c := 0) (x := 4096) false (okk01 0 (.inl rfl)) kf1.2.2.2)
  rw [kf1.1, kf1.2.1] at HF6
  go_upto_region 10 with (go_at_call 16; refine HF6.out.mono ?_; rintro e w6 ⟨rfl, hs, hb⟩; have HS6 : Hid (SdC w6 (fun k => k < w2.heap.size) p L V k2) := Lib.hid hs; have HB6 := Lib.hid (HB5.out.trans ((hb.below' HS5.out.zl).mono HB2.out.size)); have HM6 := Lib.hid (HM5.out.kept hb.size (fun k hf => hb.block k (HLO.out k hf) (HM5.out.fl k hf))); clear hs hb)
  have HF7 := Lib.hid (clean_c HS6.out (by rw [HLM.out]; exact HM6.out) HLO.out (ld_cfg2 iM_cfg 0 (byts 7 8) 0).cfg (x := 4096) (by omega))
  go_upto_region 11 with (go_at_call 17; refine HF7.out.mono ?_; rintro e w7 ⟨rfl, hs, hb⟩; have HS7 : Hid (SdC w7 (fun k => k < w2.heap.size) p L V k3) := Lib.hid hs; have HB7 := Lib.hid (HB6.out.trans ((hb.below' HS6.out.zl).mono HB2.out.size)); clear hs hb)
  go_upto_region 12 with (go_at_call 18; refine (inval_c HS7.out 0 (x := 4096) (by omega) kl3).mono ?_; rintro e w8 ⟨rfl, ⟨V8, hs⟩, hb⟩; have HS8 : Hid (SdC w8 (fun k => k < w2.heap.size) p L V8 k4) := Lib.hid hs; have HB8 := Lib.hid (HB7.out.trans ((hb.below' HS7.out.zl).mono HB2.out.size)); clear hs hb)
  have HP9 := Lib.hid (pending_c HS8.out 0 kl4)
  rw [kf2.1] at HP9
  go_upto_region 13 with (go_at_call 19; refine HP9.out.mono ?_; rintro e w9 ⟨rfl, hb⟩; have HS9 := Lib.hid (HS8.out.past hb); have HB9 := Lib.hid (HB8.out.trans (hb.mono HB8.out.size)); clear hb)
  have HD10 := Lib.hid (deliver_c HS9.out 0 0 (by omega) kl4 kw4)
  rw [kf2.2.1] at HD10
  go_upto_region 14 with (first
    | (go_at_call 20; refine HD10.out.mono ?_; rintro e w10 ⟨rfl, ⟨V10, hs⟩, hb⟩; have HS10 : Hid (SdC w10 (fun k => k < w2.heap.size) p L V10 k5) := Lib.hid hs; have HB10 := Lib.hid (HB9.out.trans ((hb.below' HS9.out.zl).mono HB2.out.size)); have HD11 := Lib.hid (deliver_c HS10.out 1 0 (by omega) kl5 kw5); rw [kf2.2.2.1] at HD11; clear hs hb HD10)
    | (go_at_call 20; refine HD11.out.mono ?_; rintro e w11 ⟨rfl, ⟨V11, hs⟩, hb⟩; have HS11 : Hid (SdC w11 (fun k => k < w2.heap.size) p L V11 k6) := Lib.hid hs; have HB11 := Lib.hid (HB10.out.trans ((hb.below' HS10.out.zl).mono HB2.out.size)); clear hs hb))
  have HF12 := Lib.hid (fetch_c HS11.out (c := 1) (x := 4096) false (okk01 1 (.inr rfl)) kf2.2.2.2)
  rw [kf3.1, kf3.2.1] at HF12
  go_upto_region 15 with (go_at_call 16; refine HF12.out.mono ?_; rintro e w12 ⟨rfl, hs, hb⟩; have HS12 : Hid (SdC w12 (fun k => k < w2.heap.size) p L V11 k7) := Lib.hid hs; have HB12 := Lib.hid (HB11.out.trans ((hb.below' HS11.out.zl).mono HB2.out.size)); clear hs hb)
  have HP13 := Lib.hid (pending_c HS12.out 0 kl7)
  rw [kf3.2.2] at HP13
  go_wp2_with (go_at_call 19; refine HP13.out.mono ?_; rintro e w13 ⟨rfl, hb⟩; have HB13 := Lib.hid (HB12.out.trans (hb.mono HB12.out.size)); clear hb)
  go_ret
  exact ⟨rfl, HB13.out⟩
end Go.Proofs.Ytjcbhomfggjmhaa.Mm
