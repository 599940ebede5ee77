import Derived.Test.YtjcbhomfggjmhaaIc
namespace Go.Proofs.Ytjcbhomfggjmhaa.Mm
open Go.ChangeShapes Go.WideShapes Go.ChangeAt Go.RowKit Go.Maps
set_option linter.unusedVariables false
theorem info23z : (Try.prog.info? 35).map (fun i => (i.zero, i.size, i.bytes)) = some (some (.int .u64 0), 1, 8) := by kernel_rfl
/-- The words of a line that begins at f. -/
def wlL (f n : Nat) : List Value := (List.range n).map fun j => .int .u64 ((f + 4 * j : Nat) : Int)
theorem wlL_succ (f n : Nat) : wlL f (n + 1) = wlL f n ++ [.int .u64 ((f + 4 * n : Nat) : Int)] := by unfold wlL; rw [List.range_succ, List.map_append]; rfl
set_option maxRecDepth 100000 in
set_option maxHeartbeats 4000000 in
theorem words_c (w : World) {x : Nat} (hx : x < 18446744073709551616) : Calls Try.prog 56 #[.int .u64 x] w fun e w' => (∃ v', e = .returned v' ∧ w'.ownsRow w.heap.size 35 1 v' 16 (wlL (x - x % 64) 16)) ∧ Below w.heap.size w w' := by
  obtain ⟨i0, hi, hz0, hz1, hz2⟩ := info_parts info23z
  obtain ⟨w1, hr, hown, hgr⟩ := run_make_own (P := Try.prog) w w.heap.size 106 35 i0 _ 1 Try.underlying106 hi hz0 hz1 .i64 .i64 16 (by rw [hz2]; omega) (by unfold maxLen; omega) (Nat.le_refl _)
  have HR : Hid ((Instr.makeSlice 106 (.int .i64 0) (.int .i64 16)).run Try.prog w = _) := Lib.hid hr
  have HB1 : Hid (Below w.heap.size w w1) := Lib.hid ⟨hgr.os, hgr.tape, hgr.output, hgr.size, fun k hk => hgr.block k hk (by simp)⟩
  have HO1 := Lib.hid hown
  clear hr hown hgr
  have hf : IntKind.u64.wrap ((x : Int) - (x : Int) % 64) = ((x - x % 64 : Nat) : Int) := by rw [IntKind.wrap_u64]; omega
  have HF : Hid ((x - x % 64) + 64 ≤ 18446744073709551616) := Lib.hid (by omega)
  generalize x - x % 64 = f at hf HF ⊢
  go_enter Try.func56, Try.ntmps56
  go_wp2
  rw [HR.out]
  clear HR
  go_wp2
  go_loopw [3, 5] (fun s3 s5 wr => ∃ j a : Nat, j ≤ 16 ∧ a ≤ 64 ∧ s5 = .int .u64 a ∧ Hid (a = 4 * j) ∧ Hid (wr.ownsRow w.heap.size 35 1 s3 j (wlL f j)) ∧ Hid (Below w.heap.size w wr)) (fun _ s5 _ => 65 - (intOf s5).toNat)
  case atStart => exact ⟨0, 0, by omega, by omega, rfl, Lib.hid rfl, HO1, HB1⟩
  case round =>
    obtain ⟨j, a, hj, ha, rfl, HA, HO, HB⟩ := hrel
    by_cases hlt : a < 64
    · have hw : IntKind.u64.wrap ((f : Int) + (a : Int)) = (f : Int) + (a : Int) := by have := HF.out; rw [IntKind.wrap_u64]; omega
      have d1 : decide ((a : Int) < 64) = true := decide_eq_true (by omega)
      have d2 : decide (a < 64) = true := decide_eq_true hlt
      have hW : Below wr.heap.size wr (wr.alloc (.cells #[.int .u64 ((f : Int) + (a : Int))] 35)) := (Below.refl _ _).alloc (Nat.le_refl _) _
      have HOx := Lib.hid (own_past HO.out hW)
      have HWs : Hid (Below w.heap.size w (wr.alloc (.cells #[.int .u64 ((f : Int) + (a : Int))] 35))) := Lib.hid (HB.out.trans (hW.mono HB.out.size))
      have HN : Hid (∀ q u, ([.int .u64 ((f : Int) + (a : Int))] : List Value)[q]? = some u → (wr.alloc (.cells #[.int .u64 ((f : Int) + (a : Int))] 35)).cell? ((⟨wr.heap.size, 0, none⟩ : Addr).add q) = some u) := Lib.hid (fun q u hu => by
        rw [Go.WideShapes.add_plain, Nat.zero_add, World.cell?_alloc_at _ _ _ _ rfl, ← Array.getElem?_toList]
        exact hu)
      have hj2 : j < 16 := by have := HA.out; omega
      clear hW
      go_wp2_with (at_builtin; refine wpList_append_own _ rfl _ _ 106 rfl w.heap.size 35 i0 _ 1 8 Try.underlying106 hi hz0 hz1 hz2 rfl (by decide) _ j (wlL f j) rfl HOx.out ⟨wr.heap.size, 0, none⟩ 1 1 _ rfl rfl HN.out (fun u hu => by simp only [List.mem_cons, List.not_mem_nil, or_false] at hu; subst hu; rfl) (by unfold maxLen; omega) (by omega) (by have := HB.out.size; simp; omega) ?_; intro v' w2 ho hg hne; have HO2 := Lib.hid ho; have HG2 := Lib.hid hg; clear ho hg hne)
      refine ⟨⟨j + 1, a + 4, by omega, by have := HA.out; omega, by go_num, Lib.hid (by have := HA.out; omega), Lib.hid ?_, Lib.hid ?_⟩, by simp [intOf]; omega⟩
      · rw [wlL_succ, ← HA.out, Int.natCast_add]
        exact HO2.out
      · exact HWs.out.grown HG2.out HWs.out.size (fun q hq => (HO.out.lt q hq).1)
    · have hj16 : j = 16 := by have := HA.out; omega
      subst hj16
      have d1 : decide ((a : Int) < 64) = false := decide_eq_false (by omega)
      go_wp2
      go_ret
      exact ⟨⟨_, rfl, HO.out⟩, HB.out⟩
/-! ### Telling a line -/
def inR (x : Nat) : Prop := 4096 ≤ x ∧ x < 4352
instance (x : Nat) : Decidable (inR x) := inferInstanceAs (Decidable (_ ∧ _))
/-- T with the first j words of the line that begins at f as they are in M. -/
def tellY (M T : Me) (f j : Nat) : Me := { T with y := fun k i => if k = 0 ∧ f ≤ 4096 + i ∧ 4096 + i < f + 4 * j then M.y 0 i else T.y k i }
theorem tellY_cfg {M T : Me} {f j : Nat} (h : Cfg T) : Cfg (tellY M T f j) := h
theorem tellY_byt {M T : Me} {f j : Nat} (hM : ∀ k o, M.y k o < 256) (hT : ∀ k o, T.y k o < 256) : ∀ k o, (tellY M T f j).y k o < 256 := fun k o => by
  show (if _ then _ else _) < 256
  split
  · exact hM _ _
  · exact hT _ _
theorem tellY_zero (M T : Me) (f : Nat) : tellY M T f 0 = T := by
  unfold tellY
  congr
  funext k i
  rw [if_neg (by omega)]
theorem tellY_out {M T : Me} (h : Cfg T) {f j j' : Nat} (h64 : f % 64 = 0) (hj : j ≤ 16) (hj' : j' ≤ 16) (hf : ¬ inR f) : Alike (tellY M T f j) (tellY M T f j') :=
  ⟨rfl, fun _ _ => rfl, fun _ _ => rfl, fun _ _ => rfl, fun _ _ => rfl, fun k o hk ho => by
    have ho : o < T.S k := ho
    show (if _ then _ else _) = if _ then _ else _
    have no : ∀ i, i ≤ 16 → ¬ (k = 0 ∧ f ≤ 4096 + o ∧ 4096 + o < f + 4 * i) := by
      rintro i hi ⟨rfl, h1, h2⟩
      rw [h.2.2.1] at ho
      unfold inR at hf
      omega
    rw [if_neg (no j hj), if_neg (no j' hj')]⟩
/-- One word more. -/
theorem tellY_in {M T : Me} (hM : ∀ k o, M.y k o < 256) (hc : Cfg T) {f j b0 b1 b2 b3 : Nat} (h64 : f % 64 = 0) (hj : j < 16) (hf : inR f)
    (e : (wd M (f + 4 * j)).1 % 256 = b0 ∧ (wd M (f + 4 * j)).1 / 256 % 256 = b1 ∧ (wd M (f + 4 * j)).1 / 65536 % 256 = b2 ∧ (wd M (f + 4 * j)).1 / 16777216 % 256 = b3) :
    Alike ((tellY M T f j).ld 0 (f + 4 * j - 4096) [b0, b1, b2, b3]) (tellY M T f (j + 1)) := by
  obtain ⟨s1, s2, s3, s4, s5⟩ := ld_same 0 [b0, b1, b2, b3] (tellY M T f j) (f + 4 * j - 4096)
  refine ⟨s1, fun k _ => by rw [s2]; rfl, fun k _ => by rw [s3]; rfl, fun k _ => by rw [s4]; rfl, fun k _ => by rw [s5]; rfl, fun k o hk ho => ?_⟩
  rw [ld_y]
  unfold inR at hf
  have ew : (wd M (f + 4 * j)).1 = rd (fun i => M.y 0 (f + 4 * j - 4096 + i)) 4 := by unfold wd; rw [if_pos (by omega)]
  rw [ew] at e
  obtain ⟨q0, q1, q2, q3⟩ := byte_rd (fun i => M.y 0 (f + 4 * j - 4096 + i)) (fun _ => hM _ _)
  obtain ⟨e0, e1, e2, e3⟩ := e
  show _ = if k = 0 ∧ f ≤ 4096 + o ∧ 4096 + o < f + 4 * (j + 1) then M.y 0 o else T.y k o
  have hL : ([b0, b1, b2, b3] : List Nat).length = 4 := rfl
  rw [hL]
  by_cases h1 : k = 0 ∧ f + 4 * j - 4096 ≤ o ∧ o < f + 4 * j - 4096 + 4
  · rw [if_pos h1, if_pos (by omega)]
    obtain ⟨r, hr, hr4⟩ : ∃ r, o = f + 4 * j - 4096 + r ∧ r < 4 := ⟨o - (f + 4 * j - 4096), by omega, by omega⟩
    rw [hr, Nat.add_sub_cancel_left]
    have : r = 0 ∨ r = 1 ∨ r = 2 ∨ r = 3 := by omega
    rcases this with rfl | rfl | rfl | rfl
    · show b0 = _; rw [← e0, q0]
    · show b1 = _; rw [← e1, q1]
    · show b2 = _; rw [← e2, q2]
    · show b3 = _; rw [← e3, q3]
  · rw [if_neg h1]
    show (if k = 0 ∧ f ≤ 4096 + o ∧ 4096 + o < f + 4 * j then M.y 0 o else T.y k o) = _
    by_cases h2 : k = 0 ∧ f ≤ 4096 + o ∧ 4096 + o < f + 4 * j
    · rw [if_pos h2, if_pos (by omega)]
    · rw [if_neg h2, if_neg (by omega)]
def Sd.tell (S : Sd) (M : Me) (x : Nat) : Sd := { S with T := tellY M S.T (x - x % 64) 16 }
section
variable {w : World} {lo : Nat → Prop} {p : Nat} {L : Pl} {V : Nat → Value} {S : Sd} {FM : Nat → Prop} {M : Me} {vm : Value} {Bm Cm : Nat → Nat}
set_option maxRecDepth 100000 in
set_option maxHeartbeats 8000000 in
theorem tell_c (h : SdC w lo p L V S) (hm : MeC 64 67 w FM L.m M vm Bm Cm) (hF : ∀ k, FM k → lo k) (hM : Cfg M) {x : Nat} (hx : x < 18446744073709551616) :
    Calls Try.prog 54 #[.pointer (some ⟨p, 0, none⟩), .int .u64 x] w fun e w' => e = .returned (.bool (decide (inR x))) ∧ SdC w' lo p L V (S.tell M x) ∧ Sv lo w w' := by
  have HW := Lib.hid (words_c w hx)
  have H := Lib.hid h
  have HM := Lib.hid hm
  have HCM := Lib.hid hM
  have HFM := Lib.hid hF
  have HR : Hid (inR x ↔ inR (x - x % 64)) := Lib.hid (by unfold inR; omega)
  have HST : Hid (S.tell M x = { S with T := tellY M S.T (x - x % 64) 16 }) := Lib.hid rfl
  have H64 : Hid ((x - x % 64) % 64 = 0) := Lib.hid (by omega)
  have HXL : Hid (x - x % 64 + 64 ≤ 18446744073709551616) := Lib.hid (by omega)
  clear h hm hM hF
  go_enter Try.func54, Try.ntmps54
  go_wp2_with (go_at_call 56; refine HW.out.mono ?_; rintro e w1 ⟨⟨v', rfl, ho⟩, hb⟩; obtain ⟨g, cp, rfl, hgw, hg⟩ := own_pos ho (by omega); have HO := Lib.hid ho; have HB1 := Lib.hid hb; clear ho hb)
  generalize hf : x - x % 64 = f at HR HST H64 HXL HO
  have HS1 := Lib.hid (H.out.past HB1.out)
  have HBl : Hid (Sv lo w w1) := Lib.hid (Sv.of HB1.out)
  have HM1 := Lib.hid (HM.out.past HB1.out)
  have HGF : Hid (¬ L.FT g) := Lib.hid (fun hf => by have := H.out.told.fl g hf; omega)
  clear hf HW
  go_loopw [5, 7, 8, 9, 13] (fun s5 _ _ _ s13 wr => ∃ j : Nat, j ≤ 16 ∧ s13 = .int .i64 j ∧ s5 = .bool (decide (0 < j ∧ inR f)) ∧ Hid (SdC wr lo p L V { S with T := tellY M S.T f j }) ∧ Hid (Kp L.FT w1 wr)) (fun _ _ _ _ s13 _ => 17 - (intOf s13).toNat)
  case atStart => exact ⟨0, by omega, rfl, by rw [decide_eq_false (fun h => by omega)], Lib.hid (by rw [tellY_zero]; exact HS1.out), Lib.hid (Kp.refl _ _)⟩
  case round =>
    obtain ⟨j, hj, rfl, rfl, HSr, HKr⟩ := hrel
    have HMr := Lib.hid (HM1.out.kp HKr.out (fun q h1 h2 => H.out.lt q h2 (HFM.out q h1)))
    by_cases hlt : j < 16
    · have c0 : wr.cell? ⟨g, j, none⟩ = some (.int .u64 ((f + 4 * j : Nat) : Int)) := (own_cells (own_kept HO.out fun q hq => HKr.out.block q (HO.out.lt q hq).2 (by injection hq with hq; subst hq; exact HGF.out))).1 j _ (by unfold wlL; rw [List.getElem?_map, List.getElem?_range hlt]; rfl)
      obtain ⟨y, hy⟩ : ∃ y, f + 4 * j = y := ⟨_, rfl⟩
      rw [hy] at c0
      have HY := Lib.hid hy
      have hy2 : y < 18446744073709551616 := by have := HXL.out; omega
      have gj : (j : Int) < 16 := by omega
      have c1 := HSr.out.cells.1
      have c2 := HSr.out.cells.2.1
      have HWC := Lib.hid (word_cfg HMr.out HCM.out hy2)
      clear hy
      by_cases hin : inR f
      · have hwd : (wd M y).2 = 0 := by have := HY.out; have := H64.out; unfold inR at hin; unfold wd; rw [if_pos (by omega)]
        obtain ⟨W, hW⟩ : ∃ W, (wd M y).1 = W := ⟨_, rfl⟩
        have HWV := Lib.hid hW
        rw [hwd, hW] at HWC
        clear hwd hW
        have HIN := Lib.hid hin
        have hbd : ∀ q, Below wr.heap.size wr ((wr.drewN q).alloc (.cells #[.int .u8 ((W : Int) % 256), .int .u8 ((W : Int) / 256 % 256), .int .u8 ((W : Int) / 65536 % 256), .int .u8 ((W : Int) / 16777216 % 256)] 5)) := fun q => (below_drewN (Below.refl _ _) q).alloc (by simp) _
        have HSx := Lib.hid (fun q => HSr.out.past (hbd q))
        have HKx := Lib.hid (fun q => HKr.out.trans (Kp.of_below (FP := L.FT) (hbd q)) fun _ hf => .inl hf)
        have HB4 : Hid (∀ q, Bys ((wr.drewN q).alloc (.cells #[.int .u8 ((W : Int) % 256), .int .u8 ((W : Int) / 256 % 256), .int .u8 ((W : Int) / 65536 % 256), .int .u8 ((W : Int) / 16777216 % 256)] 5)) (.slice (some ⟨wr.heap.size, 0, none⟩) 4 4) [W % 256, W / 256 % 256, W / 65536 % 256, W / 16777216 % 256]) := Lib.hid (fun q => ⟨_, 4, rfl, Nat.le_refl _, fun _ => ⟨⟨wr.heap.size, 0, none⟩, rfl, by simp, fun i c hi => by
          rw [Go.WideShapes.add_plain, Nat.zero_add, World.cell?_alloc_at _ _ _ _ (by simp)]
          have hi4 : i < 4 := (List.getElem?_eq_some_iff.1 hi).1
          have : i = 0 ∨ i = 1 ∨ i = 2 ∨ i = 3 := by omega
          rcases this with rfl | rfl | rfl | rfl <;> injection hi with hi <;> subst hi <;> rfl⟩⟩)
        have HHS : Hid (Hs (tellY M S.T f j) y 4 0 (y - 4096)) := Lib.hid ((tellY_cfg H.out.cfg).hs (by have := HY.out; have := H64.out; unfold inR at hin; omega))
        have HAL : Hid (Alike ((tellY M S.T f j).ld 0 (y - 4096) [W % 256, W / 256 % 256, W / 65536 % 256, W / 16777216 % 256]) (tellY M S.T f (j + 1))) := Lib.hid (by
          have := tellY_in (M := M) (T := S.T) (f := f) (j := j) HM1.out.ok.byt H.out.cfg H64.out hlt hin ⟨rfl, rfl, rfl, rfl⟩
          rw [HY.out, HWV.out] at this
          exact this)
        have HBY := Lib.hid (tellY_byt (f := f) (j := j + 1) HM1.out.ok.byt H.out.told.ok.byt)
        clear hin hbd
        go_wp2_with (first
          | (go_at_call 68; refine HWC.out.mono ?_; rintro e w2 ⟨rfl, q, rfl⟩; have c2b : (wr.drewN q).cell? ⟨p, 1, none⟩ = _ := c2)
          | (go_at_call 8; refine (load_y (HSx.out q).told HHS.out (HB4.out q) (fun c hc => by simp only [List.mem_cons, List.not_mem_nil, or_false] at hc; rcases hc with rfl | rfl | rfl | rfl <;> omega)).mono ?_; rintro e w3 ⟨rfl, hm3, hk3⟩; have HS3 := Lib.hid ((HSx.out q).setT (tellY_cfg H.out.cfg) (hm3.alike HAL.out HBY.out) hk3); have HK3 := Lib.hid ((HKx.out q).trans hk3 fun _ hf => .inl hf); clear hm3 hk3))
        exact ⟨⟨j + 1, by omega, by go_num, by rw [decide_eq_true (show 0 < j + 1 ∧ inR f from ⟨by omega, HIN.out⟩)], HS3, HK3⟩, by simp [intOf]; omega⟩
      · have HIN := Lib.hid hin
        have hwd : wd M y = (0, 8) := by have := HY.out; have := H64.out; unfold inR at hin; unfold wd; rw [if_neg (by omega)]
        rw [hwd] at HWC
        have HS3 : Hid (SdC wr lo p L V { S with T := tellY M S.T f (j + 1) }) := Lib.hid (HSr.out.setT (tellY_cfg H.out.cfg) (HSr.out.told.alike (tellY_out H.out.cfg H64.out (by omega) (by omega) hin) (tellY_byt HM1.out.ok.byt H.out.told.ok.byt)) (Kp.refl _ _))
        clear hwd hin
        go_wp2_with (go_at_call 68; refine HWC.out.mono ?_; rintro e w2 ⟨rfl, q, rfl⟩)
        exact ⟨⟨j + 1, by omega, by go_num, by simp [HIN.out], Lib.hid (HS3.out.past (below_drewN (Below.refl _ _) q)), Lib.hid (HKr.out.trans (Kp.of_below (FP := L.FT) (below_drewN (Below.refl _ _) q)) fun _ hf => .inl hf)⟩, by simp [intOf]; omega⟩
    · have hj16 : j = 16 := by omega
      subst hj16
      have HD : Hid (decide (0 < 16 ∧ inR f) = decide (inR x)) := Lib.hid (decide_eq_decide.2 ⟨fun h => HR.out.2 h.2, fun h => ⟨by omega, HR.out.1 h⟩⟩)
      rw [HD.out]
      go_wp2
      go_ret
      exact ⟨rfl, by rw [HST.out]; exact HSr.out, HBl.out.trans (Sv.kp HKr.out H.out.lt)⟩
/-- What Flow and Clean tell. -/
theorem flow_c (h : SdC w lo p L V S) (hm : MeC 64 67 w FM L.m M vm Bm Cm) (hF : ∀ k, FM k → lo k) (hM : Cfg M) {x : Nat} (hx : x < 18446744073709551616) :
    Calls Try.prog 35 #[.pointer (some ⟨p, 0, none⟩), .int .u64 x] w fun e w' => (∃ r, e = .returned (.int .i64 r)) ∧ SdC w' lo p L V (S.tell M x) ∧ Sv lo w w' := by
  have HT := Lib.hid (tell_c h hm hF hM hx)
  clear h
  cases hd : decide (inR x) with
  | true =>
    rw [hd] at HT
    clear hd
    go_enter Try.func35, Try.ntmps35
    go_wp2_with (go_at_call 54; refine HT.out.mono ?_; rintro e w1 ⟨rfl, hs, hb⟩; have HS := Lib.hid hs; have HB := Lib.hid hb; clear hs hb)
    go_ret
    first | exact ⟨⟨_, rfl⟩, HS.out, HB.out⟩ | exact ⟨HS.out, HB.out⟩
  | false =>
    rw [hd] at HT
    clear hd
    go_enter Try.func35, Try.ntmps35
    go_wp2_with (go_at_call 54; refine HT.out.mono ?_; rintro e w1 ⟨rfl, hs, hb⟩; have HS := Lib.hid hs; have HB := Lib.hid hb; clear hs hb)
    go_ret
    first | exact ⟨⟨_, rfl⟩, HS.out, HB.out⟩ | exact ⟨HS.out, HB.out⟩
theorem clean_c (h : SdC w lo p L V S) (hm : MeC 64 67 w FM L.m M vm Bm Cm) (hF : ∀ k, FM k → lo k) (hM : Cfg M) {x : Nat} (hx : x < 18446744073709551616) :
    Calls Try.prog 17 #[.pointer (some ⟨p, 0, none⟩), .int .u64 x] w fun e w' => e = .returned (.int .i64 0) ∧ SdC w' lo p L V (S.tell M x) ∧ Sv lo w w' := by
  have HT := Lib.hid (tell_c h hm hF hM hx)
  clear h
  go_enter Try.func17, Try.ntmps17
  go_wp2_with (go_at_call 54; refine HT.out.mono ?_; rintro e w1 ⟨rfl, hs, hb⟩; have HS := Lib.hid hs; have HB := Lib.hid hb; clear hs hb)
  go_ret
  exact ⟨rfl, HS.out, HB.out⟩
end
end Go.Proofs.Ytjcbhomfggjmhaa.Mm
