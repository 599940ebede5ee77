import Derived.Test.YtjcbhomfggjmhaaRu
import Derived.Test.YtjcbhomfggjmhaaRv
import Derived.Deep.Slices
import Derived.Deep.Fields
namespace Go.Proofs.Ytjcbhomfggjmhaa.Mm
open Go.ChangeShapes Go.WideShapes Go.ChangeAt Go.RowKit Go.Maps Go.Deep
set_option linter.unusedVariables false
theorem bo_load2 (w : World) (F1 F2 : Nat → Prop) (p1 p2 : Nat) (M : Me) (h : Bo w F1 F2 p1 p2 M) (x m cs : Nat) (sp : Option Addr) (l : Nat → Nat) (hx : x < 18446744073709551616) (hm : m < 9223372036854775808) (hcs : m ≤ cs) (hs : SrcB w sp m l F1 F2) (hl : ∀ j, l j < 256) :
    ∃ (r : Int) (M' : Me), (M' = M ∨ ∃ k o l, M' = M.ld k o l) ∧ Calls Try.prog 8 #[.pointer (some ⟨p1, 0, none⟩), .int .u64 x, .slice sp m cs] w fun e w1 => e = .returned (.int .i64 r) ∧ Kp F1 w w1 ∧ (∃ v B C, MeC 64 67 w1 F1 p1 M' v B C) ∧
      Calls Try.prog 9 #[.pointer (some ⟨p2, 0, none⟩), .int .u64 x, .slice sp m cs] w1 fun e w2 => e = .returned (.int .i64 r) ∧ Bo w2 F1 F2 p1 p2 M' ∧ Kp (fun k => F1 k ∨ F2 k) w w2 := by
  obtain ⟨⟨v, B, C, h1⟩, ⟨v2, B2, C2, h2⟩, h3⟩ := h
  have hlen : ((List.range m).map l).length = m := by simp
  by_cases hf : ∃ k o, Hs M x m k o
  · obtain ⟨k, o, hh⟩ := hf
    refine ⟨0, M.ld k o ((List.range m).map l), .inr ⟨_, _, _, rfl⟩, (load_y h1 (by rw [hlen]; exact hh) (hs.bys hcs) (fun c hc => by obtain ⟨i, _, rfl⟩ := List.mem_map.1 hc; exact hl i)).mono fun e w1 ⟨he, hm1, hk⟩ => ⟨he, hk, ⟨v, B, C, hm1⟩, ?_⟩⟩
    have h2' := h2.kp hk (fun q hq hq1 => h3 q hq1 hq)
    have hs' := hs.kp hk (fun k hk => .inl hk)
    refine (rload_y h2' hh hcs (fun h0 => ?_) hl).mono fun e w2 ⟨he2, hm2, hk2⟩ => ⟨he2, ⟨⟨v, B, C, hm1.kp hk2 h3⟩, ⟨v2, B2, C2, hm2⟩, h3⟩, (hk.mono fun q hq => .inl hq).trans (hk2.mono (FP' := fun k => F1 k ∨ F2 k) fun q hq => .inr hq) fun q hq => .inl hq⟩
    obtain ⟨sb, so, e, _, n2, hlt, hc⟩ := hs' h0
    exact ⟨sb, so, e, n2, hlt, hc⟩
  · have hno : ∀ k o, ¬ Hs M x m k o := fun k o hh => hf ⟨k, o, hh⟩
    refine ⟨8, M, .inl rfl, (load_n h1 hx (by rw [hlen]; exact hno) (hs.bys hcs) (by rw [hlen]; omega)).mono fun e w1 ⟨he, q, hq⟩ => ?_⟩
    subst hq
    have hb := below_drewN (Below.refl w.heap.size w) q
    refine ⟨he, Kp.of_below hb, ⟨v, B, C, h1.past hb⟩, (rload_n (h2.past hb) hx hm hno).mono fun e w2 ⟨he, hb2⟩ => ?_⟩
    have hbb := hb.trans (hb2.mono hb.size)
    exact ⟨he, ⟨⟨v, B, C, h1.past hbb⟩, ⟨v2, B2, C2, h2.past hbb⟩, h3⟩, Kp.of_below hbb⟩
/-- A slice of acts that comes in. -/
def NxS (w : World) (a : Option Addr) (n : Nat) (X : Nat → Nx) : Prop := n = 0 ∨ ∃ b o, a = some ⟨b, o, none⟩ ∧ b < w.heap.size ∧ ∀ i, i < n → NxAt w b (o + i * 5) (X i) ∧ NxOk (X i)
theorem NxS.past {w w' : World} {a : Option Addr} {n : Nat} {X : Nat → Nx} (h : NxS w a n X) (hb : Below w.heap.size w w') : NxS w' a n X := by
  rcases h with h | ⟨b, o, e, hl, hc⟩
  · exact .inl h
  · exact .inr ⟨b, o, e, Nat.lt_of_lt_of_le hl hb.size, fun i hi => ⟨(hc i hi).1.kept fun q => hb.cell (p := ⟨b, q, none⟩) hl, (hc i hi).2⟩⟩
theorem nx_open {H : Type} {enc : TypeId × Value → H} {w : World} {base : Nat} {spare : Nat → Bool} {held : Bool} {a : Option Addr} {n cap : Nat} {d : DataW H} {p : List MemPlace} (h : DataW.Trod enc Try.prog w base spare held 23 (.slice a n cap) d p) : n ≤ 9223372036854775807 ∧ ∃ X, NxS w a n X := by
  obtain ⟨fuel, hf⟩ := h
  rcases open_slice_fields Try.underlying23 Try.underlying45 (by kernel_rfl) (by kernel_rfl) hf with ⟨hcs, _⟩ | ⟨x, l, c, m, D, Pl, hcs, _, hl, hm, hmm, _, hi⟩
  · simp [Value.cells] at hcs
    obtain ⟨rfl, rfl, rfl⟩ := hcs
    exact ⟨by omega, fun _ => ⟨0, 0, 0, 0, 0⟩, .inl rfl⟩
  · simp [Value.cells] at hcs
    obtain ⟨rfl, rfl, rfl⟩ := hcs
    refine ⟨by unfold maxLen at hm; omega, ?_⟩
    have hlm : n ≤ m := by rw [hmm]; split <;> omega
    obtain ⟨b, off, spot⟩ := x
    by_cases hn0 : n = 0
    · exact ⟨fun _ => ⟨0, 0, 0, 0, 0⟩, .inl hn0⟩
    have hspot : spot = none := by
      obtain ⟨ys, k, _, _, _, hfs⟩ := hi 0 (by omega)
      obtain ⟨v0, y0, c0, _, t0⟩ := hfs 0 _ rfl
      simpa [Addr.add] using World.cell?_spot c0
    subst hspot
    have hb : b < w.heap.size := by
      obtain ⟨ys, k, _, _, _, hfs⟩ := hi 0 (by omega)
      obtain ⟨v0, y0, c0, _, t0⟩ := hfs 0 _ rfl
      exact World.block_lt_of_cell? w ⟨b, off, none⟩ (by simpa [Addr.add] using c0)
    obtain ⟨F, hF, _⟩ := choose_nat (⟨0, 0, 0, 0, 0⟩ : Nx) (n := n) (p := fun i z => NxAt w b (off + i * 5) z ∧ NxOk z) (fun i hin => by
      obtain ⟨ys, k, _, _, _, hfs⟩ := hi i (by omega)
      obtain ⟨v0, y0, c0, _, t0⟩ := hfs 0 _ rfl
      obtain ⟨v1, y1, c1, _, t1⟩ := hfs 1 _ rfl
      obtain ⟨v2, y2, c2, _, t2⟩ := hfs 2 _ rfl
      obtain ⟨v3, y3, c3, _, t3⟩ := hfs 3 _ rfl
      obtain ⟨v4, y4, c4, _, t4⟩ := hfs 4 _ rfl
      obtain ⟨q0, h0, _⟩ := DataW.trod_int Try.underlying3 t0
      obtain ⟨q1, h1, _, w1⟩ := DataW.trod_int Try.underlying3 t1
      obtain ⟨q2, h2, _, w2⟩ := DataW.trod_int Try.underlying35 t2
      obtain ⟨q3, h3, _, w3⟩ := DataW.trod_int Try.underlying3 t3
      obtain ⟨q4, h4, _, w4⟩ := DataW.trod_int Try.underlying35 t4
      injection h0 with h0
      injection h1 with h1
      injection h2 with h2
      injection h3 with h3
      injection h4 with h4
      subst h0 h1 h2 h3 h4
      obtain ⟨q2, rfl, b2⟩ := nat_of_wf64 w2
      obtain ⟨q4, rfl, b4⟩ := nat_of_wf64 w4
      rw [Go.WideShapes.add_plain, ← Nat.add_assoc] at c0 c1 c2 c3 c4
      have hw1 := w1
      simp [Lit.wf, IntKind.min, IntKind.max, IntKind.signed, IntKind.bits] at hw1
      exact ⟨⟨q0, q1, q2, q3, q4⟩, ⟨c0, c1, c2, c3, c4⟩, ⟨⟨by show -9223372036854775808 ≤ q1; omega, by show q1 ≤ 9223372036854775807; omega, b2⟩, le_of_wfi w3, b4⟩⟩)
    exact ⟨F, .inr ⟨b, off, rfl, hb, hF⟩⟩
theorem rnew_two (w : World) (u : Value) (hb : RgSrc w u 2 rA rS (fun _ => true) rX) :
    Calls Try.prog 7 #[u] w fun e w' => (∃ mb v B C, e = .returned (.tuple #[.pointer (some ⟨mb, 0, none⟩), .int .i64 0]) ∧ MeC 70 72 w' (fun k => w.heap.size ≤ k ∧ k < w'.heap.size) mb iM v B C) ∧ Below w.heap.size w w' := by
  have hD : RightD rA rS 2 := by
    refine ⟨fun i hi => ?_, fun i k hi hk hne => ?_⟩
    · have : i = 0 ∨ i = 1 := by omega
      rcases this with rfl | rfl
      · exact ⟨by decide, by decide, by decide, by decide, by decide⟩
      · exact ⟨by decide, by decide, by decide, by decide, by decide⟩
    · have h1 : i = 0 ∨ i = 1 := by omega
      have h2 : k = 0 ∨ k = 1 := by omega
      rcases h1 with rfl | rfl <;> rcases h2 with rfl | rfl
      · exact absurd rfl hne
      · exact .inl (by decide)
      · exact .inr (by decide)
      · exact absurd rfl hne
  refine (rnew_c w u 2 _ _ _ _ hb (fun i => by unfold rA; split <;> decide) (fun i => by unfold rS; split <;> decide) (by omega)).mono ?_
  rintro e w' ⟨hbw, ⟨hR, mb, A, S, W, X, v, B, C, rfl, hd, hu, hm⟩ | ⟨hn, _⟩⟩
  · have hq := Dat.uniq hd (Dat.refl 2 rA rS (fun _ => true) rX) hu (fun i j hij hj => by
      have h1 : i = 0 := by omega
      have h2 : j = 1 := by omega
      subst h1 h2
      decide)
    exact ⟨⟨mb, v, B, C, rfl, hm.alike ⟨rfl, fun k hk => (hq k hk).1, fun k hk => (hq k hk).2.1, fun k hk => (hq k hk).2.2.1, fun k hk => (hq k hk).2.2.2, fun _ _ _ _ => rfl⟩ fun _ _ => by show 0 < 256; omega⟩, hbw⟩
  · exact absurd hD hn
theorem side_no (w : World) (q : Value) (c : Int) (hc : c < 1 ∨ 4 < c) : Calls Try.prog 10 #[q, .int .i64 c] w fun e w' => e = .returned (.tuple #[.pointer none, .int .i64 1]) ∧ w' = w := by
  by_cases h1 : c < 1
  · have d1 : decide (c < 1) = true := decide_eq_true h1
    clear hc
    go_enter Try.func10, Try.ntmps10
    go_wp2
    refine bodyPost_ret (v := .tuple #[.pointer none, .int .i64 1]) (by simp [results, Try.results10, go_sem]) rfl ⟨rfl, rfl⟩
  · have h2 : 4 < c := by omega
    have d1 : decide (c < 1) = false := decide_eq_false h1
    have d2 : decide (4 < c) = true := decide_eq_true h2
    clear hc
    go_enter Try.func10, Try.ntmps10
    go_wp2
    refine bodyPost_ret (v := .tuple #[.pointer none, .int .i64 1]) (by simp [results, Try.results10, go_sem]) rfl ⟨rfl, rfl⟩
theorem bd0 (M : Me) (c : Nat) : Bd 0 (S0 M c) := ⟨Nat.le_refl _, fun _ _ => Nat.le_refl _, fun _ _ y hy => by cases hy⟩
theorem bdr0 (M : Me) {c : Nat} (h4 : c ≤ 4) : BdR 0 (R0 M c) := ⟨Nat.le_refl _, Nat.le_refl _, Nat.le_refl _, Nat.le_refl _, (fun y hy => by cases hy), h4⟩
theorem eqv0 {M : Me} (hM : Cfg2 M) (c : Nat) : Eqv (S0 M c) (R0 M c) := by
  refine ⟨rfl, fun x => ?_, fun _ _ => rfl, fun _ _ => rfl, fun _ _ => rfl, fun y hy => (by cases hy), List.Pairwise.nil, List.Pairwise.nil, List.Pairwise.nil, hM.cfg, T0_cfg M, fun y hy => (by cases hy)⟩
  show wd (T0 M) x = if (wd M x).2 = 0 then (((none : Option Nat)).getD (wd M x).1, 0) else (0, 8)
  have e : wd (T0 M) x = wd M x := by unfold wd; rfl
  rw [e]
  rcases wd_code M x with h0 | h8
  · rw [if_pos h0, ← h0]
    rfl
  · rw [h8, if_neg (by decide)]
    unfold wd at h8 ⊢
    split at h8
    · cases h8
    · next hn => rw [if_neg hn]
/-- Both sides are made. -/
theorem twc0 {wa wb wc : World} {p1 p2 ps pr lo : Nat} {F1 F2 : Nat → Prop} {M : Me} {L : Pl} {LR : Rl} {V VR : Nat → Value} {c : Nat} (hbo : Bo wc F1 F2 p1 p2 M) (hs : SdC wb (fun k => k < wa.heap.size) ps L V (S0 M c)) (hlm : L.m = p1) (hr : RsC wc (fun k => k < wb.heap.size) pr LR VR (R0 M c)) (hb : Below wb.heap.size wb wc)
    (f1 : ∀ k, F1 k → lo ≤ k ∧ k < wa.heap.size) (f2 : ∀ k, F2 k → lo ≤ k ∧ k < wa.heap.size) (hlo : lo ≤ wa.heap.size) (hab : wa.heap.size ≤ wb.heap.size) : TwC wc ⟨ps, L, pr, LR, p1, p2, F1, F2, lo⟩ V VR (S0 M c) (R0 M c) M := by
  have os : ∀ k, OwnS ps L V (S0 M c).n k → ¬ k < wa.heap.size ∧ k < wb.heap.size := fun k hk => hs.own hk
  have or : ∀ k, OwnR pr LR VR k → ¬ k < wb.heap.size ∧ k < wc.heap.size := fun k hk => hr.own hk
  exact ⟨(hs.past hb).rez (fun k hk hn => hn.2 hk) (fun k hk => hk.1), hr.rez (fun k hk hn => hn.2 hk) (fun k hk => hk.1), fun k h1 h2 => (or k h2).1 (os k h1).2, hbo, fun k hk => ⟨fun h1 => (os k h1).1 (f1 k hk).2, fun h1 => (or k h1).1 (Nat.lt_of_lt_of_le (f1 k hk).2 hab)⟩, fun k hk => ⟨fun h1 => (os k h1).1 (f2 k hk).2, fun h1 => (or k h1).1 (Nat.lt_of_lt_of_le (f2 k hk).2 hab)⟩, hlm, fun k hk => by have := (os k hk).1; show lo ≤ k; omega, fun k hk => by have := (or k hk).1; show lo ≤ k; omega, fun k hk => (f1 k hk).1, fun k hk => (f2 k hk).1, by have := hb.size; show lo ≤ wc.heap.size; omega⟩
set_option maxRecDepth 100000 in
set_option maxHeartbeats 20000000 in
theorem plays_walk (w : World) (cores : Int) (hc1 : -9223372036854775808 ≤ cores) (hc2 : cores ≤ 9223372036854775807) (sp : Option Addr) (m cs : Nat) (F : Nat → Nat) (hm : m < 9223372036854775808) (hcs : m ≤ cs) (hF : ∀ j, F j < 256) (hsp : 0 < m → ∃ sb so, sp = some ⟨sb, so, none⟩ ∧ sb < w.heap.size ∧ ∀ j, j < m → w.cell? ⟨sb, so + j, none⟩ = some (.int .u8 (F j : Nat)))
    (a : Option Addr) (n cap : Nat) (X : Nat → Nx) (hX : NxS w a n X) (hn : n ≤ 9223372036854775807) :
    Calls Try.prog 3 #[.int .i64 cores, .slice sp m cs, .slice a n cap] w fun e w' => e = .returned (.bool true) ∧ Below w.heap.size w w' := by
  have HK := Lib.hid (known42_c w)
  have HX := Lib.hid hX
  have HSP := Lib.hid hsp
  have HFB := Lib.hid hF
  clear hX hsp hF
  go_enter Try.func3, Try.ntmps3
  go_upto_region 3 with (go_at_call 4; refine HK.out.mono ?_; rintro e w1 ⟨rfl, hb⟩; have HB1 := Lib.hid hb; clear hb)
  by_cases g0 : 200 < n
  · have d0 : decide ((200 : Int) < (n : Int)) = true := decide_eq_true (by omega)
    go_wp2
    go_ret
    exact ⟨rfl, HB1.out⟩
  · have d0 : decide ((200 : Int) < (n : Int)) = false := decide_eq_false (by omega)
    by_cases g1 : 256 < m
    · have d1 : decide ((256 : Int) < (m : Int)) = true := decide_eq_true (by omega)
      go_wp2
      go_ret
      exact ⟨rfl, HB1.out⟩
    · have d1 : decide ((256 : Int) < (m : Int)) = false := decide_eq_false (by omega)
      have HN2 : Hid (n ≤ 200) := Lib.hid (by omega)
      clear g0
      have HRG := Lib.hid (regs_c w1)
      go_upto_region 6 with (first
        | (go_at_call 6; refine HRG.out.mono ?_; rintro e w2 ⟨⟨u, rfl, hs⟩, hb⟩; have HSR := Lib.hid hs; have HB2 := Lib.hid (HB1.out.trans (hb.mono HB1.out.size)); clear hs hb)
        | (go_at_call 5; refine (new_two w2 u HSR.out).mono ?_; rintro e w3 ⟨⟨p1, v1, B1, C1, rfl, hm1⟩, hb⟩; have HM3 := Lib.hid hm1; have HB3 := Lib.hid (HB2.out.trans (hb.mono HB2.out.size)); clear hm1 hb))
      have HRG2 := Lib.hid (regs_c w3)
      clear HRG
      go_upto_region 9 with (first
        | (go_at_call 6; refine HRG2.out.mono ?_; rintro e w4 ⟨⟨u2, rfl, hs⟩, hb⟩; have HSR2 := Lib.hid hs; have HB34 := Lib.hid hb; clear hs hb)
        | (go_at_call 7; refine (rnew_two w4 u2 HSR2.out).mono ?_; rintro e w5 ⟨⟨p2, v2, B2, C2, rfl, hm2⟩, hb⟩; have HM5 := Lib.hid hm2; have HB45 := Lib.hid hb; clear hm2 hb))
      have HB35 : Hid (Below w3.heap.size w3 w5) := Lib.hid (HB34.out.trans (HB45.out.mono HB34.out.size))
      have HB5 := Lib.hid (HB3.out.trans (HB35.out.mono HB3.out.size))
      have HBO5 : Hid (Bo w5 (fun k => w2.heap.size ≤ k ∧ k < w3.heap.size) (fun k => w4.heap.size ≤ k ∧ k < w5.heap.size) p1 p2 iM) := Lib.hid ⟨⟨_, _, _, HM3.out.past HB35.out⟩, ⟨_, _, _, HM5.out⟩, fun k hk hk2 => by have := HB34.out.size; omega⟩
      have HF1 : Hid (∀ k, (fun k => w2.heap.size ≤ k ∧ k < w3.heap.size) k → w.heap.size ≤ k ∧ k < w5.heap.size) := Lib.hid (fun k hk => by have h1 : w2.heap.size ≤ k ∧ k < w3.heap.size := hk; have := HB2.out.size; have := HB35.out.size; omega)
      have HF2 : Hid (∀ k, (fun k => w4.heap.size ≤ k ∧ k < w5.heap.size) k → w.heap.size ≤ k ∧ k < w5.heap.size) := Lib.hid (fun k hk => by have h1 : w4.heap.size ≤ k ∧ k < w5.heap.size := hk; have := HB3.out.size; have := HB34.out.size; omega)
      generalize (fun k => w2.heap.size ≤ k ∧ k < w3.heap.size) = F1 at HBO5 HF1
      generalize (fun k => w4.heap.size ≤ k ∧ k < w5.heap.size) = F2 at HBO5 HF2
      clear HM3 HM5 HSR HSR2 HRG2
      have hsb : SrcB w5 sp m F F1 F2 := fun h0 => by
        obtain ⟨sb, so, e, hl, hc⟩ := HSP.out h0
        refine ⟨sb, so, e, fun h1 => ?_, fun h1 => ?_, Nat.lt_of_lt_of_le hl HB5.out.size, fun j hj => (HB5.out.cell (p := ⟨sb, so + j, none⟩) hl).trans (hc j hj)⟩
        · have := (HF1.out sb h1).1; omega
        · have := (HF2.out sb h1).1; omega
      obtain ⟨r8, M1, hM1, hp8⟩ := bo_load2 w5 F1 F2 p1 p2 iM HBO5.out 4096 m cs sp F (by omega) hm hcs hsb HFB.out
      have HP8 := Lib.hid hp8
      have HM1 : Hid (Cfg2 M1) := Lib.hid (by rcases hM1 with rfl | ⟨k, o, l, rfl⟩; exact iM_cfg; exact ld_cfg2 iM_cfg o l k)
      clear hsb hp8 hM1
      go_upto_region 11 with (first
        | (go_at_call 8; refine HP8.out.mono ?_; rintro e w6 ⟨rfl, _, _, hd⟩; have HD9 := Lib.hid hd; clear hd)
        | (go_at_call 9; refine HD9.out.mono ?_; rintro e w7 ⟨rfl, hbo, hk⟩; have HBO7 := Lib.hid hbo; have HSZ7 := Lib.hid hk.size; have HB7 := Lib.hid (HB5.out.trans (hk.below HB5.out.size (fun k hf => hf.elim (fun h1 => (HF1.out k h1).1) (fun h1 => (HF2.out k h1).1)))); clear hbo hk))
      by_cases hcor : cores < 1 ∨ 4 < cores
      · have HN10 := Lib.hid (side_no w7 (.pointer (some ⟨p1, 0, none⟩)) cores hcor)
        have HN11 := Lib.hid (rnew10_no w7 (.pointer (some ⟨p2, 0, none⟩)) cores hcor)
        clear hcor
        go_wp2_with (first
          | (go_at_call 10; refine HN10.out.mono ?_; rintro e w8 ⟨rfl, h1⟩; obtain rfl := h1.symm)
          | (go_at_call 11; refine HN11.out.mono ?_; rintro e w9 ⟨rfl, h1⟩; obtain rfl := h1.symm))
        go_ret
        exact ⟨rfl, HB7.out⟩
      · obtain ⟨c, rfl⟩ := Int.eq_ofNat_of_zero_le (a := cores) (by omega)
        have h1c : 1 ≤ c := by omega
        have h4c : c ≤ 4 := by omega
        obtain ⟨v, B, C, hmp⟩ := HBO7.out.pr
        have HS10 := Lib.hid (side_c hmp HM1.out h1c h4c)
        clear hmp hcor
        go_upto_region 12 with (go_at_call 10; refine HS10.out.mono ?_; rintro e w8 ⟨⟨ps, L, V, rfl, hs, hlm⟩, hb⟩; have HS8 := Lib.hid hs; have HLM := Lib.hid hlm; have HB78 := Lib.hid hb; have HBO8 := Lib.hid (HBO7.out.past hb); clear hs hlm hb)
        obtain ⟨vd, Bd', Cd, hmd⟩ := HBO8.out.dc
        have HR11 := Lib.hid (rnew10_c hmd h1c h4c)
        clear hmd
        go_upto_region 13 with (go_at_call 11; refine HR11.out.mono ?_; rintro e w9 ⟨⟨pr, LR, VR, rfl, hs⟩, hb⟩; have HR9 := Lib.hid hs; have HB89 := Lib.hid hb; have HBO9 := Lib.hid (HBO8.out.past hb); clear hs hb)
        have HTW : Hid (TwC w9 ⟨ps, L, pr, LR, p1, p2, F1, F2, w.heap.size⟩ V VR (S0 M1 c) (R0 M1 c) M1) := Lib.hid (twc0 HBO9.out HS8.out HLM.out HR9.out HB89.out (fun k hk => by have := HF1.out k hk; have := HSZ7.out; omega) (fun k hk => by have := HF2.out k hk; have := HSZ7.out; omega) HB7.out.size HB78.out.size)
        have HB9 := Lib.hid ((HB7.out.trans (HB78.out.mono HB7.out.size)).trans (HB89.out.mono (Nat.le_trans HB7.out.size HB78.out.size)))
        clear HS10 HR11 HBO5 HBO7 HBO8 HBO9 HS8 HR9 HP8 HD9
        have gc : (c : Int) ≤ 4 := by omega
        go_wp2
        go_loopw [14, 15] (fun s14 _ wr => ∃ (i : Nat) (S : Sd) (R : Rs) (M : Me) (Vi VRi : Nat → Value), i ≤ n ∧ s14 = .int .i64 i ∧ Hid (TwC wr ⟨ps, L, pr, LR, p1, p2, F1, F2, w.heap.size⟩ Vi VRi S R M) ∧ Hid (Eqv S R) ∧ Hid (Bd i S) ∧ Hid (BdR i R) ∧ Hid (Cfg2 M) ∧ Hid (Below w.heap.size w wr)) (fun s14 _ _ => n + 1 - (intOf s14).toNat)
        case atStart => exact ⟨0, _, _, M1, V, VR, by omega, rfl, HTW, Lib.hid (eqv0 HM1.out c), Lib.hid (bd0 M1 c), Lib.hid (bdr0 M1 h4c), HM1, HB9⟩
        case round =>
          clear HTW HB9
          obtain ⟨i, S, R, M, Vi, VRi, hi, rfl, HT, HE, HBD, HBR, HMi, HB⟩ := hrel
          by_cases hlt : i < n
          · obtain ⟨ab, ao, rfl, hab, hac⟩ : ∃ b o, a = some ⟨b, o, none⟩ ∧ b < w.heap.size ∧ ∀ i, i < n → NxAt w b (o + i * 5) (X i) ∧ NxOk (X i) := by
              rcases HX.out with h | h
              · omega
              · exact h
            have HAT : Hid (∀ W, Below w.heap.size w W → NxAt W ab (ao + i * 5) (X i)) := Lib.hid (fun W hb => (hac i hlt).1.kept fun q => hb.cell (p := ⟨ab, q, none⟩) hab)
            have HOK := Lib.hid (hac i hlt).2
            have gi : (i : Int) < n := by omega
            have HI2 : Hid (i < 200) := Lib.hid (by have := HN2.out; omega)
            generalize X i = x at HAT HOK
            obtain ⟨c0, c1, c2, c3, c4⟩ := HAT.out _ HB.out
            clear hac
            have HST : Hid (Calls Try.prog 12 #[.pointer (some ⟨ps, 0, none⟩), .pointer (some ⟨pr, 0, none⟩), .pointer (some ⟨p1, 0, none⟩), .pointer (some ⟨p2, 0, none⟩), .agg #[.int .i64 x.op, .int .i64 x.core, .int .u64 (x.ad : Nat), .int .i64 x.N, .int .u64 (x.v : Nat)]] wr (StepEnd wr ⟨ps, L, pr, LR, p1, p2, F1, F2, w.heap.size⟩ Vi VRi S i M x)) := Lib.hid (step_c HT.out HE.out HBD.out HBR.out HI2.out HMi.out HOK.out)
            go_upto_region 22 with (go_at_call 12; refine HST.out.mono ?_; rintro e ws ⟨rfl, ⟨Vs, VRs, Rs', Ms, ht, he, hbr, hm⟩, hb⟩; have HTs := Lib.hid ht; have HEs := Lib.hid he; have HBRs := Lib.hid hbr; have HMs := Lib.hid hm; have HBs : Hid (Below w.heap.size w ws) := Lib.hid (HB.out.trans hb); clear ht he hbr hm hb)
            clear c0 c1 c2 c3 c4 HST
            have HBDs := Lib.hid (HBD.out.act M HOK.out)
            have HB2s : Hid (Bd 200 (S.act M x)) := Lib.hid ⟨by have := HBDs.out.n; have := HI2.out; omega, fun d hd => by have := HBDs.out.l d hd; have := HI2.out; omega, HBDs.out.y⟩
            have HLK : Hid (∀ (W : World) (k : Int) (y : Nat), Below ws.heap.size ws W → Okk k y → Calls Try.prog 13 #[.pointer (some ⟨ps, 0, none⟩), .pointer (some ⟨pr, 0, none⟩), .int .i64 k, .int .u64 (y : Nat)] W fun r w' => r = .returned (.bool true) ∧ Below W.heap.size W w') := Lib.hid (fun W k y hb hk => looks_c (HTs.out.past hb) HEs.out HB2s.out hk)
            have h4 := HOK.out.k.2.2
            go_wp2
            go_loopw [15] (fun s15 wk => ∃ j : Nat, j ≤ c + 2 ∧ s15 = .int .i64 ((j : Int) - 1) ∧ Hid (Below ws.heap.size ws wk)) (fun s15 _ => c + 3 - (intOf s15 + 1).toNat)
            case atStart => exact ⟨0, by omega, rfl, Lib.hid (Below.refl _ _)⟩
            case round =>
              obtain ⟨j, hj, rfl, HBk⟩ := hrel
              obtain ⟨c0, c1, c2, c3, c4⟩ := HAT.out _ (HBs.out.trans (HBk.out.mono HBs.out.size))
              by_cases hjc : j < c + 2
              · have d1 : decide ((j : Int) - 1 ≤ (c : Int)) = true := decide_eq_true (by omega)
                have d2 : (j : Int) - 1 ≤ (c : Int) := by omega
                have d3 : (j : Int) ≤ (c : Int) + 1 := by omega
                have HK1 : Hid (Okk ((j : Int) - 1) x.ad) := Lib.hid ⟨by omega, by omega, h4⟩
                have HK2 : Hid (Okk ((j : Int) - 1) 4096) := Lib.hid ⟨by omega, by omega, by omega⟩
                have HL1 := Lib.hid (HLK.out _ _ _ HBk.out HK1.out)
                go_wp2_with (first
                  | (go_at_call 13; refine HL1.out.mono ?_; rintro e wp ⟨rfl, hb⟩; have HBp := Lib.hid (HBk.out.trans (hb.mono HBk.out.size)); have HL2 := Lib.hid (HLK.out _ _ _ HBp.out HK2.out); clear hb HL1)
                  | (go_at_call 13; refine HL2.out.mono ?_; rintro e wq ⟨rfl, hb⟩; have HBq := Lib.hid (HBp.out.trans (hb.mono HBp.out.size)); clear hb HL2))
                exact ⟨⟨j + 1, by omega, by go_num, HBq⟩, by simp [intOf]; omega⟩
              · have hjn : j = c + 2 := by omega
                have d1 : decide ((j : Int) - 1 ≤ (c : Int)) = false := decide_eq_false (by omega)
                have d2 : ¬ ((j : Int) - 1 ≤ (c : Int)) := by omega
                have d3 : ¬ ((j : Int) ≤ (c : Int) + 1) := by omega
                clear hjn
                go_wp2
                exact ⟨⟨i + 1, _, _, Ms, Vs, VRs, by omega, by go_num, Lib.hid (HTs.out.past HBk.out), HEs, HBDs, HBRs, HMs, Lib.hid (HBs.out.trans (HBk.out.mono HBs.out.size))⟩, by simp [intOf]; omega⟩
          · have hin : i = n := by omega
            rw [hin]
            clear hlt hi hin
            go_wp2
            go_ret
            exact ⟨rfl, HB.out⟩
end Go.Proofs.Ytjcbhomfggjmhaa.Mm
