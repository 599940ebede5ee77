import Derived.Test.YtjcbhomfggjmhaaRs
namespace Go.Proofs.Ytjcbhomfggjmhaa.Mm
open Go.ChangeShapes Go.WideShapes Go.ChangeAt Go.RowKit Go.Maps
set_option linter.unusedVariables false
theorem bo_write2 (w : World) (F1 F2 : Nat → Prop) (p1 p2 : Nat) (M : Me) (h : Bo w F1 F2 p1 p2 M) (x u : Nat) (hx : x < 18446744073709551616) (hu : u < 18446744073709551616) :
    ∃ (r : Int) (M' : Me), (M' = M ∨ ∃ k o l, M' = M.ld k o l) ∧ Calls Try.prog 15 #[.pointer (some ⟨p1, 0, none⟩), .int .u64 x, .int .u64 u] w fun e w1 => e = .returned (.int .i64 r) ∧ Kp F1 w w1 ∧ (∃ v B C, MeC 64 67 w1 F1 p1 M' v B C) ∧
      Calls Try.prog 41 #[.pointer (some ⟨p2, 0, none⟩), .int .u64 x, .int .u64 u] w1 fun e w2 => e = .returned (.int .i64 r) ∧ Bo w2 F1 F2 p1 p2 M' ∧ Kp (fun k => F1 k ∨ F2 k) w w2 := by
  obtain ⟨⟨v, B, C, h1⟩, ⟨v2, B2, C2, h2⟩, h3⟩ := h
  have hok := h1.ok
  have refuse : ∀ {w1 : World}, Below w.heap.size w w1 → (Calls Try.prog 41 #[.pointer (some ⟨p2, 0, none⟩), .int .u64 x, .int .u64 u] w1 fun e w2 => e = .returned (.int .i64 8) ∧ Below w1.heap.size w1 w2) → Calls Try.prog 41 #[.pointer (some ⟨p2, 0, none⟩), .int .u64 x, .int .u64 u] w1 fun e w2 => e = .returned (.int .i64 8) ∧ Bo w2 F1 F2 p1 p2 M ∧ Kp (fun k => F1 k ∨ F2 k) w w2 := fun {w1} hb hc => hc.mono fun e w2 ⟨he, hb2⟩ =>
    have hbb := hb.trans (hb2.mono hb.size)
    ⟨he, ⟨⟨v, B, C, h1.past hbb⟩, ⟨v2, B2, C2, h2.past hbb⟩, h3⟩, Kp.of_below hbb⟩
  by_cases hf : ∃ k o, Hs M x 0 k o
  · obtain ⟨k, o, hs⟩ := hf
    by_cases h8 : x % 8 = 0
    · have hs8 := hs.eight hok h8
      cases hW : M.W k with
      | true =>
        refine ⟨0, M.ld k o (byts u 8), .inr ⟨_, _, _, rfl⟩, (write_y h1 hs8 h8 hW hu).mono fun e w1 ⟨he, hm, hk⟩ => ⟨he, hk, ⟨v, B, C, hm⟩, ?_⟩⟩
        have h2' := h2.kp hk (fun q hq hq1 => h3 q hq1 hq)
        exact (rwrite_y h2' hs8 h8 hW hu).mono fun e w2 ⟨he2, hm2, hk2⟩ => ⟨he2, ⟨⟨v, B, C, hm.kp hk2 h3⟩, ⟨v2, B2, C2, hm2⟩, h3⟩, (hk.mono fun q hq => .inl hq).trans (hk2.mono (FP' := fun k => F1 k ∨ F2 k) fun q hq => .inr hq) fun q hq => .inl hq⟩
      | false =>
        refine ⟨8, M, .inl rfl, (write_m h1 hs (.inr hW)).mono fun e w1 ⟨he, q, hq⟩ => ?_⟩
        subst hq
        have hb := below_drewN (Below.refl w.heap.size w) q
        exact ⟨he, Kp.of_below hb, ⟨v, B, C, h1.past hb⟩, refuse hb (rwrite_x (h2.past hb) hs8 h8 hW)⟩
    · refine ⟨8, M, .inl rfl, (write_m h1 hs (.inl h8)).mono fun e w1 ⟨he, q, hq⟩ => ?_⟩
      subst hq
      have hb := below_drewN (Below.refl w.heap.size w) q
      exact ⟨he, Kp.of_below hb, ⟨v, B, C, h1.past hb⟩, refuse hb (rwrite_m (h2.past hb) hx h8)⟩
  · refine ⟨8, M, .inl rfl, (write_n h1 hx (fun k o hs => hf ⟨k, o, hs⟩)).mono fun e w1 ⟨he, q, hq⟩ => ?_⟩
    subst hq
    have hb := below_drewN (Below.refl w.heap.size w) q
    exact ⟨he, Kp.of_below hb, ⟨v, B, C, h1.past hb⟩, refuse hb (rwrite_n (h2.past hb) hx (fun k o hs => hf ⟨k, o, hs.less⟩))⟩
/-- A block of nobody's. -/
def Fre (w : World) (H : Wh) (V VR : Nat → Value) (n b : Nat) : Prop := b < w.heap.size ∧ ¬ OwnS H.ps H.L V n b ∧ ¬ OwnR H.pr H.LR VR b ∧ ¬ H.F1 b ∧ ¬ H.F2 b
section
variable {w w' : World} {H : Wh} {V VR V' VR' : Nat → Value} {S S' : Sd} {R R' : Rs} {M M' : Me} {K : Nat} {x : Nx}
theorem Fre.past {n b : Nat} (h : Fre w H V VR n b) (hb : w.heap.size ≤ w'.heap.size) : Fre w' H V VR n b := ⟨Nat.lt_of_lt_of_le h.1 hb, h.2⟩
theorem TwC.fresh (h : TwC w H V VR S R M) {o : Obj} : Fre (w.alloc o) H V VR S.n w.heap.size :=
  ⟨by simp, fun h1 => by have := (h.hs.own h1).2; omega, fun h1 => by have := (h.hr.own h1).2; omega, fun h1 => by have := h.bo.lt.1 _ h1; omega, fun h1 => by have := h.bo.lt.2 _ h1; omega⟩
/-- How it stands behind an act of the program's side. -/
def PEnd (w : World) (H : Wh) (V VR : Nat → Value) (S S' : Sd) (R : Rs) (M : Me) (w' : World) : Prop := ∃ V', TwC w' H V' VR S' R M ∧ Below H.lo w w' ∧ ∀ b, Fre w H V VR S.n b → Fre w' H V' VR S'.n b ∧ w'.heap[b]? = w.heap[b]?
/-- How it stands behind an act of the document's side. -/
def DEnd (w : World) (H : Wh) (V VR : Nat → Value) (S : Sd) (R R' : Rs) (M : Me) (w' : World) : Prop := ∃ VR', TwC w' H V VR' S R' M ∧ Below H.lo w w' ∧ ∀ b, Fre w H V VR S.n b → Fre w' H V VR' S.n b ∧ w'.heap[b]? = w.heap[b]?
theorem TwC.pend (h : TwC w H V VR S R M) (hs : SdC w' (NotS w H.ps H.L V S.n) H.ps H.L V' S') (hv : Sv (NotS w H.ps H.L V S.n) w w') : PEnd w H V VR S S' R M w' := by
  obtain ⟨h1, h2⟩ := h.s hs hv
  refine ⟨V', h1, h2, fun b hb => ?_⟩
  have hz : NotS w H.ps H.L V S.n b := ⟨hb.1, hb.2.1⟩
  exact ⟨⟨Nat.lt_of_lt_of_le hb.1 hv.size, fun h3 => (hs.own h3).1 hz, hb.2.2⟩, hv.block b hz hb.1⟩
theorem TwC.dend (h : TwC w H V VR S R M) (hs : RsC w' (NotR w H.pr H.LR VR) H.pr H.LR VR' R') (hv : Sv (NotR w H.pr H.LR VR) w w') : DEnd w H V VR S R R' M w' := by
  obtain ⟨h1, h2⟩ := h.r hs hv
  refine ⟨VR', h1, h2, fun b hb => ?_⟩
  have hz : NotR w H.pr H.LR VR b := ⟨hb.1, hb.2.2.1⟩
  exact ⟨⟨Nat.lt_of_lt_of_le hb.1 hv.size, hb.2.1, fun h3 => (hs.own h3).1 hz, hb.2.2.2⟩, hv.block b hz hb.1⟩
theorem TwC.f1z (h : TwC w H V VR S R M) : ∀ k, H.F1 k → NotS w H.ps H.L V S.n k := fun k hk => ⟨h.bo.lt.1 k hk, (h.f1 k hk).1⟩
theorem TwC.f2z (h : TwC w H V VR S R M) : ∀ k, H.F2 k → NotR w H.pr H.LR VR k := fun k hk => ⟨h.bo.lt.2 k hk, (h.f2 k hk).2⟩
/-! ### The program's acts -/
theorem p_fetch (h : TwC w H V VR S R M) (e : Eqv S R) (hN : S.N < 1000000000) (hx : NxOk x) (ah : Bool) : Calls Try.prog 16 #[.pointer (some ⟨H.ps, 0, none⟩), .int .i64 x.core, .int .u64 (x.ad : Nat), .bool ah] w fun r w' => r = .returned (.tuple #[.int .u32 (R.rfetchV x.core x.ad ah : Nat), .int .i64 (R.rdy x.core x.ad : Nat)]) ∧ PEnd w H V VR S (S.fetch x.core x.ad ah) R M w' := by
  rw [← (e.fetch x.core x.ad ah).2, ← e.rdy]
  exact (fetch_c h.hs ah hx.k hN).mono fun r w' ⟨a, b, c⟩ => ⟨a, h.pend b c⟩
theorem p_ahead (h : TwC w H V VR S R M) (e : Eqv S R) (hN : S.N < 1000000000) (hx : NxOk x) : Calls Try.prog 30 #[.pointer (some ⟨H.ps, 0, none⟩), .int .i64 x.core, .int .u64 (x.ad : Nat)] w fun r w' => r = .returned (.int .i64 (R.rdy x.core x.ad : Nat)) ∧ PEnd w H V VR S (S.ahead x.core x.ad) R M w' := by
  rw [← e.rdy]
  exact (ahead_c h.hs hx.k hN).mono fun r w' ⟨a, b, c⟩ => ⟨a, h.pend b c⟩
theorem p_refill (h : TwC w H V VR S R M) (e : Eqv S R) (hN : S.N < 1000000000) (hx : NxOk x) : Calls Try.prog 14 #[.pointer (some ⟨H.ps, 0, none⟩), .int .i64 x.core, .int .u64 (x.ad : Nat)] w fun r w' => r = .returned (.int .i64 (R.rdy x.core x.ad : Nat)) ∧ PEnd w H V VR S (S.refill x.core x.ad) R M w' := by
  rw [← e.rdy]
  exact (refill_c h.hs hx.k hN).mono fun r w' ⟨a, b, c⟩ => ⟨a, h.pend b c⟩
theorem p_evict (h : TwC w H V VR S R M) (e : Eqv S R) (hx : NxOk x) : Calls Try.prog 33 #[.pointer (some ⟨H.ps, 0, none⟩), .int .i64 x.core, .int .u64 (x.ad : Nat)] w fun r w' => r = .returned (.bool (lk R.cache x.core x.ad).isSome) ∧ PEnd w H V VR S { S with C := upd S.C x.core x.ad none } R M w' := by
  rw [← e.c]
  exact (evict_c h.hs hx.k).mono fun r w' ⟨a, b, c⟩ => ⟨a, h.pend b c⟩
theorem flow2_c (h : TwC w H V VR S R M) (hM : Cfg M) (hx : NxOk x) : Calls Try.prog 35 #[.pointer (some ⟨H.ps, 0, none⟩), .int .u64 (x.ad : Nat)] w fun r w' => r = .returned (.int .i64 (if inR x.ad then 0 else 8 : Nat)) ∧ PEnd w H V VR S (S.tell M x.ad) R M w' := by
  obtain ⟨v, B, C, hm⟩ := h.bo.pr
  have HT := Lib.hid (tell_c h.hs (by rw [h.lm]; exact hm) h.f1z hM hx.k.2.2)
  have HP : Hid (∀ w', SdC w' (NotS w H.ps H.L V S.n) H.ps H.L V (S.tell M x.ad) → Sv (NotS w H.ps H.L V S.n) w w' → PEnd w H V VR S (S.tell M x.ad) R M w') := Lib.hid fun w' hs hv => h.pend (w' := w') hs hv
  clear h hm
  by_cases hi : inR x.ad
  · rw [decide_eq_true hi] at HT
    have HI := Lib.hid hi
    rw [if_pos HI.out]
    clear hi
    go_enter Try.func35, Try.ntmps35
    go_wp2_with (go_at_call 54; refine HT.out.mono ?_; rintro e w1 ⟨rfl, hs, hb⟩; have HS := Lib.hid hs; have HB := Lib.hid hb; clear hs hb)
    go_ret
    exact ⟨rfl, HP.out _ HS.out HB.out⟩
  · rw [decide_eq_false hi] at HT
    have HI := Lib.hid hi
    rw [if_neg HI.out]
    clear hi
    go_enter Try.func35, Try.ntmps35
    go_wp2_with (go_at_call 54; refine HT.out.mono ?_; rintro e w1 ⟨rfl, hs, hb⟩; have HS := Lib.hid hs; have HB := Lib.hid hb; clear hs hb)
    go_ret
    exact ⟨rfl, HP.out _ HS.out HB.out⟩
theorem p_clean (h : TwC w H V VR S R M) (hM : Cfg M) (hx : NxOk x) : Calls Try.prog 17 #[.pointer (some ⟨H.ps, 0, none⟩), .int .u64 (x.ad : Nat)] w fun r w' => r = .returned (.int .i64 0) ∧ PEnd w H V VR S (S.tell M x.ad) R M w' := by
  obtain ⟨v, B, C, hm⟩ := h.bo.pr
  exact (clean_c h.hs (by rw [h.lm]; exact hm) h.f1z hM hx.k.2.2).mono fun r w' ⟨a, b, c⟩ => ⟨a, h.pend b c⟩
theorem p_inval (h : TwC w H V VR S R M) (e : Eqv S R) (hx : NxOk x) (hb : Bd 200 S) : Calls Try.prog 18 #[.pointer (some ⟨H.ps, 0, none⟩), .int .i64 x.core, .int .u64 (x.ad : Nat)] w fun r w' => r = .returned (.int .i64 (if isR R x.core then 0 else 1 : Nat)) ∧ PEnd w H V VR S (S.inval x.core x.ad) R M w' := by
  have hq : (if isR R x.core then 0 else 1 : Nat) = if isC S x.core then 0 else 1 := by
    by_cases hc : isC S x.core
    · rw [if_pos hc, if_pos ((e.is _).1 hc)]
    · rw [if_neg hc, if_neg (fun h2 => hc ((e.is _).2 h2))]
  rw [hq]
  exact (inval_c h.hs x.core hx.k.2.2 (fun d hd => by have := hb.l d hd; omega)).mono fun r w' ⟨a, ⟨V', b⟩, c⟩ => ⟨a, h.pend b c⟩
theorem p_deliver (h : TwC w H V VR S R M) (e : Eqv S R) (hx : NxOk x) (hb : Bd 200 S) : Calls Try.prog 20 #[.pointer (some ⟨H.ps, 0, none⟩), .int .i64 x.core, .int .i64 x.N] w fun r w' => r = .returned (.bool (decide (wfor R.wt x.core R.wt.length ≠ 0))) ∧ PEnd w H V VR S (S.deliver x.core x.N) R M w' := by
  rw [← e.wait]
  exact (deliver_c h.hs x.core x.N hx.n (fun d hd => by have := hb.l d hd; omega) hb.y).mono fun r w' ⟨a, ⟨V', b⟩, c⟩ => ⟨a, h.pend b c⟩
theorem p_sync (h : TwC w H V VR S R M) (e : Eqv S R) (c : Int) : Calls Try.prog 39 #[.pointer (some ⟨H.ps, 0, none⟩), .int .i64 c] w fun r w' => r = .returned (.int .i64 (if isR R c then 0 else 1 : Nat)) ∧ PEnd w H V VR S (S.sync c) R M w' := by
  have hq : (if isR R c then 0 else 1 : Nat) = if isC S c then 0 else 1 := by
    by_cases hc : isC S c
    · rw [if_pos hc, if_pos ((e.is _).1 hc)]
    · rw [if_neg hc, if_neg (fun h2 => hc ((e.is _).2 h2))]
  rw [hq]
  exact (sync_c h.hs c).mono fun r w' ⟨a, b, c⟩ => ⟨a, h.pend b c⟩
/-! ### The document's acts -/
theorem d_fetch (h : TwC w H V VR S R M) (hT : Cfg R.T) (hb : BdR 200 R) (hx : NxOk x) (ah : Bool) : Calls Try.prog 29 #[.pointer (some ⟨H.pr, 0, none⟩), .int .i64 x.core, .int .u64 (x.ad : Nat), .bool ah] w fun r w' => r = .returned (.tuple #[.int .u32 (R.rfetchV x.core x.ad ah : Nat), .int .i64 (R.rdy x.core x.ad : Nat)]) ∧ DEnd w H V VR S R (R.rfetch x.core x.ad ah) M w' :=
  (rfetch_c h.hr hT x.core ah hx.k.2.2 (by have := hb.c; omega)).mono fun r w' ⟨a, ⟨V', b⟩, c⟩ => ⟨a, h.dend b c⟩
theorem d_ahead (h : TwC w H V VR S R M) (hT : Cfg R.T) (hb : BdR 200 R) (hx : NxOk x) : Calls Try.prog 31 #[.pointer (some ⟨H.pr, 0, none⟩), .int .i64 x.core, .int .u64 (x.ad : Nat)] w fun r w' => r = .returned (.int .i64 (R.rdy x.core x.ad : Nat)) ∧ DEnd w H V VR S R (if R.rdy x.core x.ad = 0 then R.rahead x.core x.ad else R) M w' :=
  (rahead_c h.hr hT x.core hx.k.2.2 (by have := hb.c; omega) (by have := hb.a; omega)).mono fun r w' ⟨a, ⟨V', b⟩, c⟩ => ⟨a, h.dend b c⟩
theorem d_refill (h : TwC w H V VR S R M) (hT : Cfg R.T) (hb : BdR 200 R) (hx : NxOk x) : Calls Try.prog 32 #[.pointer (some ⟨H.pr, 0, none⟩), .int .i64 x.core, .int .u64 (x.ad : Nat)] w fun r w' => r = .returned (.int .i64 (R.rdy x.core x.ad : Nat)) ∧ DEnd w H V VR S R (if R.rdy x.core x.ad = 0 then R.fill x.core x.ad else R) M w' :=
  (rrefill_c h.hr hT x.core hx.k.2.2 (by have := hb.c; omega)).mono fun r w' ⟨a, ⟨V', b⟩, c⟩ => ⟨a, h.dend b c⟩
theorem d_evict (h : TwC w H V VR S R M) : Calls Try.prog 34 #[.pointer (some ⟨H.pr, 0, none⟩), .int .i64 x.core, .int .u64 (x.ad : Nat)] w fun r w' => r = .returned (.bool (lk R.cache x.core x.ad).isSome) ∧ DEnd w H V VR S R { R with cache := dropC R.cache x.core x.ad } M w' :=
  (revict_c h.hr x.core x.ad).mono fun r w' ⟨a, ⟨V', b⟩, c⟩ => ⟨a, h.dend b c⟩
theorem d_flow (h : TwC w H V VR S R M) (hM : Cfg M) (hb : BdR 200 R) (hx : NxOk x) : Calls Try.prog 36 #[.pointer (some ⟨H.pr, 0, none⟩), .pointer (some ⟨H.px, 0, none⟩), .int .u64 (x.ad : Nat)] w fun r w' => r = .returned (.int .i64 (if inR x.ad then 0 else 8 : Nat)) ∧ DEnd w H V VR S R (R.flow M x.ad) M w' := by
  obtain ⟨v, B, C, hm⟩ := h.bo.dc
  exact (rflow_c h.hr hm h.f2z hM hx.k.2.2 (by have := hb.t; omega)).mono fun r w' ⟨a, ⟨V', b⟩, c⟩ => ⟨a, h.dend b c⟩
theorem d_inval (h : TwC w H V VR S R M) (hb : BdR 200 R) (hx : NxOk x) : Calls Try.prog 37 #[.pointer (some ⟨H.pr, 0, none⟩), .int .i64 x.core, .int .u64 (x.ad : Nat)] w fun r w' => r = .returned (.int .i64 (if isR R x.core then 0 else 1 : Nat)) ∧ DEnd w H V VR S R (R.rinval x.core x.ad) M w' :=
  (rinval_c h.hr x.core hx.k.2.2 (by have := hb.w; omega)).mono fun r w' ⟨a, ⟨V', b⟩, c⟩ => ⟨a, h.dend b c⟩
theorem d_deliver (h : TwC w H V VR S R M) (hb : BdR 200 R) (hx : NxOk x) : Calls Try.prog 38 #[.pointer (some ⟨H.pr, 0, none⟩), .int .i64 x.core, .int .i64 x.N] w fun r w' => r = .returned (.bool (decide (wfor R.wt x.core R.wt.length ≠ 0))) ∧ ∃ R', DelTo R x.core x.N R' ∧ DEnd w H V VR S R R' M w' :=
  (rdeliver_c h.hr hb.ac x.core x.N hx.n).mono fun r w' ⟨a, ⟨V', R', d, b⟩, c⟩ => ⟨a, R', d, h.dend b c⟩
theorem d_sync (h : TwC w H V VR S R M) (c : Int) : Calls Try.prog 40 #[.pointer (some ⟨H.pr, 0, none⟩), .int .i64 c] w fun r w' => r = .returned (.int .i64 (if isR R c then 0 else 1 : Nat)) ∧ DEnd w H V VR S R (R.rsync c) M w' :=
  (rsync_c h.hr c).mono fun r w' ⟨a, ⟨V', b⟩, c⟩ => ⟨a, h.dend b c⟩
end
end Go.Proofs.Ytjcbhomfggjmhaa.Mm
