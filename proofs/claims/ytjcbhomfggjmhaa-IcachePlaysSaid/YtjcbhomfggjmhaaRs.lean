import Derived.Test.YtjcbhomfggjmhaaRp
import Derived.Test.YtjcbhomfggjmhaaIm
namespace Go.Proofs.Ytjcbhomfggjmhaa.Mm
open Go.ChangeShapes Go.WideShapes Go.ChangeAt Go.RowKit Go.Maps
set_option linter.unusedVariables false
/-! ### Both sides, and both memories, beside one another -/
def NotS (w : World) (p : Nat) (L : Pl) (V : Nat → Value) (n : Nat) : Nat → Prop := fun k => k < w.heap.size ∧ ¬ OwnS p L V n k
def NotR (w : World) (p : Nat) (L : Rl) (V : Nat → Value) : Nat → Prop := fun k => k < w.heap.size ∧ ¬ OwnR p L V k
/-- What stays while both are made and turned: who they are. -/
structure Wh where
  ps : Nat
  L : Pl
  pr : Nat
  LR : Rl
  pm : Nat
  px : Nat
  F1 : Nat → Prop
  F2 : Nat → Prop
  lo : Nat
structure TwC (w : World) (H : Wh) (V VR : Nat → Value) (S : Sd) (R : Rs) (M : Me) : Prop where
  hs : SdC w (NotS w H.ps H.L V S.n) H.ps H.L V S
  hr : RsC w (NotR w H.pr H.LR VR) H.pr H.LR VR R
  ap : ∀ k, OwnS H.ps H.L V S.n k → ¬ OwnR H.pr H.LR VR k
  bo : Bo w H.F1 H.F2 H.pm H.px M
  f1 : ∀ k, H.F1 k → ¬ OwnS H.ps H.L V S.n k ∧ ¬ OwnR H.pr H.LR VR k
  f2 : ∀ k, H.F2 k → ¬ OwnS H.ps H.L V S.n k ∧ ¬ OwnR H.pr H.LR VR k
  lm : H.L.m = H.pm
  los : ∀ k, OwnS H.ps H.L V S.n k → H.lo ≤ k
  lor : ∀ k, OwnR H.pr H.LR VR k → H.lo ≤ k
  lo1 : ∀ k, H.F1 k → H.lo ≤ k
  lo2 : ∀ k, H.F2 k → H.lo ≤ k
  lol : H.lo ≤ w.heap.size
section
variable {w w' : World} {H : Wh} {V VR V' VR' : Nat → Value} {S S' : Sd} {R R' : Rs} {M M' : Me}
theorem Bo.lt {F1 F2 : Nat → Prop} {p1 p2 : Nat} (h : Bo w F1 F2 p1 p2 M) : (∀ k, F1 k → k < w.heap.size) ∧ ∀ k, F2 k → k < w.heap.size := by
  obtain ⟨⟨v, B, C, h1⟩, ⟨v2, B2, C2, h2⟩, _⟩ := h
  exact ⟨h1.fl, h2.fl⟩
theorem Bo.sv {F1 F2 Z : Nat → Prop} {p1 p2 : Nat} (h : Bo w F1 F2 p1 p2 M) (hs : Sv Z w w') (h1 : ∀ k, F1 k → Z k) (h2 : ∀ k, F2 k → Z k) : Bo w' F1 F2 p1 p2 M := by
  obtain ⟨⟨v, B, C, a1⟩, ⟨v2, B2, C2, a2⟩, a3⟩ := h
  exact ⟨⟨v, B, C, a1.kept hs.size fun k hk => hs.block k (h1 k hk) (a1.fl k hk)⟩, ⟨v2, B2, C2, a2.kept hs.size fun k hk => hs.block k (h2 k hk) (a2.fl k hk)⟩, a3⟩
theorem TwC.past (h : TwC w H V VR S R M) (hb : Below w.heap.size w w') : TwC w' H V VR S R M :=
  ⟨(h.hs.past hb).rez (fun k hk hn => hn.2 hk) (fun k hk => hk.1), (h.hr.past hb).rez (fun k hk hn => hn.2 hk) (fun k hk => hk.1), h.ap, h.bo.past hb, h.f1, h.f2, h.lm, h.los, h.lor, h.lo1, h.lo2, Nat.le_trans h.lol hb.size⟩
/-- The program's side has turned. -/
theorem TwC.s (h : TwC w H V VR S R M) (hs : SdC w' (NotS w H.ps H.L V S.n) H.ps H.L V' S') (hv : Sv (NotS w H.ps H.L V S.n) w w') : TwC w' H V' VR S' R M ∧ Below H.lo w w' := by
  have hr : ∀ k, OwnR H.pr H.LR VR k → NotS w H.ps H.L V S.n k := fun k hk => ⟨(h.hr.own hk).2, fun h2 => h.ap k h2 hk⟩
  have h1 : ∀ k, H.F1 k → NotS w H.ps H.L V S.n k := fun k hk => ⟨h.bo.lt.1 k hk, (h.f1 k hk).1⟩
  have h2 : ∀ k, H.F2 k → NotS w H.ps H.L V S.n k := fun k hk => ⟨h.bo.lt.2 k hk, (h.f2 k hk).1⟩
  refine ⟨⟨hs.rez (fun k hk hn => hn.2 hk) (fun k hk => hk.1), (h.hr.sv hv hr).rez (fun k hk hn => hn.2 hk) (fun k hk => hk.1), fun k hk hk2 => (hs.own hk).1 (hr k hk2), h.bo.sv hv h1 h2, fun k hk => ⟨fun hk2 => (hs.own hk2).1 (h1 k hk), (h.f1 k hk).2⟩, fun k hk => ⟨fun hk2 => (hs.own hk2).1 (h2 k hk), (h.f2 k hk).2⟩, h.lm, fun k hk => ?_, h.lor, h.lo1, h.lo2, Nat.le_trans h.lol hv.size⟩, ⟨hv.os, hv.tape, hv.output, hv.size, fun k hk => hv.block k ⟨Nat.lt_of_lt_of_le hk h.lol, fun h3 => by have := h.los k h3; omega⟩ (Nat.lt_of_lt_of_le hk h.lol)⟩⟩
  refine Nat.le_of_not_lt fun hlt => (hs.own hk).1 ⟨Nat.lt_of_lt_of_le hlt h.lol, fun h3 => ?_⟩
  have := h.los k h3
  omega
/-- The document's side has turned. -/
theorem TwC.r (h : TwC w H V VR S R M) (hs : RsC w' (NotR w H.pr H.LR VR) H.pr H.LR VR' R') (hv : Sv (NotR w H.pr H.LR VR) w w') : TwC w' H V VR' S R' M ∧ Below H.lo w w' := by
  have hr : ∀ k, OwnS H.ps H.L V S.n k → NotR w H.pr H.LR VR k := fun k hk => ⟨(h.hs.own hk).2, h.ap k hk⟩
  have h1 : ∀ k, H.F1 k → NotR w H.pr H.LR VR k := fun k hk => ⟨h.bo.lt.1 k hk, (h.f1 k hk).2⟩
  have h2 : ∀ k, H.F2 k → NotR w H.pr H.LR VR k := fun k hk => ⟨h.bo.lt.2 k hk, (h.f2 k hk).2⟩
  refine ⟨⟨(h.hs.sv hv hr).rez (fun k hk hn => hn.2 hk) (fun k hk => hk.1), hs.rez (fun k hk hn => hn.2 hk) (fun k hk => hk.1), fun k hk hk2 => (hs.own hk2).1 (hr k hk), h.bo.sv hv h1 h2, fun k hk => ⟨(h.f1 k hk).1, fun hk2 => (hs.own hk2).1 (h1 k hk)⟩, fun k hk => ⟨(h.f2 k hk).1, fun hk2 => (hs.own hk2).1 (h2 k hk)⟩, h.lm, h.los, fun k hk => ?_, h.lo1, h.lo2, Nat.le_trans h.lol hv.size⟩, ⟨hv.os, hv.tape, hv.output, hv.size, fun k hk => hv.block k ⟨Nat.lt_of_lt_of_le hk h.lol, fun h3 => by have := h.lor k h3; omega⟩ (Nat.lt_of_lt_of_le hk h.lol)⟩⟩
  refine Nat.le_of_not_lt fun hlt => (hs.own hk).1 ⟨Nat.lt_of_lt_of_le hlt h.lol, fun h3 => ?_⟩
  have := h.lor k h3
  omega
/-- Both memories have turned. -/
theorem TwC.m (h : TwC w H V VR S R M) (hb : Bo w' H.F1 H.F2 H.pm H.px M') (hk : Kp (fun k => H.F1 k ∨ H.F2 k) w w') : TwC w' H V VR S R M' ∧ Below H.lo w w' := by
  have hns : ∀ k, OwnS H.ps H.L V S.n k → ¬ (H.F1 k ∨ H.F2 k) := fun k hk hf => hf.elim (fun e => (h.f1 k e).1 hk) (fun e => (h.f2 k e).1 hk)
  have hnr : ∀ k, OwnR H.pr H.LR VR k → ¬ (H.F1 k ∨ H.F2 k) := fun k hk hf => hf.elim (fun e => (h.f1 k e).2 hk) (fun e => (h.f2 k e).2 hk)
  have hv : Sv (fun k => ¬ (H.F1 k ∨ H.F2 k)) w w' := Sv.kp hk fun k hf hn => hn hf
  exact ⟨⟨(h.hs.sv hv hns).rez (fun k hk hn => hn.2 hk) (fun k hk => hk.1), (h.hr.sv hv hnr).rez (fun k hk hn => hn.2 hk) (fun k hk => hk.1), h.ap, hb, h.f1, h.f2, h.lm, h.los, h.lor, h.lo1, h.lo2, Nat.le_trans h.lol hk.size⟩, hk.below h.lol (fun k hf => hf.elim (h.lo1 k) (h.lo2 k))⟩
end
/-! ### The document's side is made -/
theorem rnew10_no (w : World) (q : Value) (c : Int) (hc : c < 1 ∨ 4 < c) : Calls Try.prog 11 #[q, .int .i64 c] w fun e w' => e = .returned (.tuple #[.pointer none, .int .i64 1]) ∧ w' = w := by
  by_cases h1 : c < 1
  · have d1 : decide (c < 1) = true := decide_eq_true h1
    clear hc
    go_enter Try.func11, Try.ntmps11
    go_wp2
    refine bodyPost_ret (v := .tuple #[.pointer none, .int .i64 1]) (by simp [results, Try.results11, go_sem]) rfl ⟨rfl, rfl⟩
  · have h2 : 4 < c := by omega
    have d1 : decide (c < 1) = false := decide_eq_false h1
    have d2 : decide (4 < c) = true := decide_eq_true h2
    clear hc
    go_enter Try.func11, Try.ntmps11
    go_wp2
    refine bodyPost_ret (v := .tuple #[.pointer none, .int .i64 1]) (by simp [results, Try.results11, go_sem]) rfl ⟨rfl, rfl⟩
def R0 (M : Me) (c : Nat) : Rs := ⟨c, M, [], [], [], []⟩
theorem rnew10_c {w : World} {FP : Nat → Prop} {p : Nat} {M : Me} {v : Value} {B C : Nat → Nat} (h : MeC 70 72 w FP p M v B C) {c : Nat} (h1 : 1 ≤ c) (h4 : c ≤ 4) :
    Calls Try.prog 11 #[.pointer (some ⟨p, 0, none⟩), .int .i64 c] w fun e w' => (∃ pr L V, e = .returned (.tuple #[.pointer (some ⟨pr, 0, none⟩), .int .i64 0]) ∧ RsC w' (fun k => k < w.heap.size) pr L V (R0 M c)) ∧ Below w.heap.size w w' := by
  have HT := Lib.hid (rtwin_c h)
  have d1 : decide ((c : Int) < 1) = false := decide_eq_false (by omega)
  have d2 : decide ((4 : Int) < (c : Int)) = false := decide_eq_false (by omega)
  have d3 : decide (c < 1) = false := decide_eq_false (by omega)
  have d4 : decide (4 < c) = false := decide_eq_false (by omega)
  clear h
  go_enter Try.func11, Try.ntmps11
  go_wp2_with (go_at_call 28; refine HT.out.mono ?_; rintro e w1 ⟨⟨v', B', C', rfl, hm⟩, hb⟩; have HM := Lib.hid hm; have HB := Lib.hid hb; clear hm hb)
  have hbl : Below w1.heap.size w1 (w1.alloc (.cells #[.pointer (some ⟨w.heap.size, 0, none⟩), .int .i64 c, .slice none 0 0, .slice none 0 0, .slice none 0 0, .slice none 0 0] 85)) := (Below.refl _ _).alloc (Nat.le_refl _) _
  have HR : Hid (RsC (w1.alloc (.cells #[.pointer (some ⟨w.heap.size, 0, none⟩), .int .i64 c, .slice none 0 0, .slice none 0 0, .slice none 0 0, .slice none 0 0] 85)) (fun k => k < w.heap.size) w1.heap.size ⟨w.heap.size, v', B', C', fun k => w.heap.size ≤ k ∧ k < w1.heap.size⟩ (fun _ => .slice none 0 0) (R0 M c)) := Lib.hid (by
    have hsz := HB.out.size
    refine ⟨heap_alloc_new _ _, HM.out.past hbl, fun k hk => ?_, fun i j _ _ _ _ => rfl, by show ¬ (w1.heap.size < w.heap.size); omega, fun k hk => by have hk : w.heap.size ≤ k ∧ k < w1.heap.size := hk; show ¬ (k < w.heap.size); omega, fun k hk q hq => (by cases hq), fun k hk => by have hk : k < w.heap.size := hk; simp; omega, fun hk => (by have hk : w.heap.size ≤ w1.heap.size ∧ w1.heap.size < w1.heap.size := hk; omega), fun k hk q hq => (by cases hq), fun k hk => ?_, ⟨by show 0 < c; omega, h4⟩⟩
    · have : k = 0 ∨ k = 1 ∨ k = 2 ∨ k = 3 := by omega
      rcases this with rfl | rfl | rfl | rfl <;> exact ⟨rfl, .inl ⟨rfl, rfl⟩⟩
    · have : k = 0 ∨ k = 1 ∨ k = 2 ∨ k = 3 := by omega
      rcases this with rfl | rfl | rfl | rfl <;> exact Nat.zero_le _)
  have HBF := Lib.hid (HB.out.alloc HB.out.size (.cells #[.pointer (some ⟨w.heap.size, 0, none⟩), .int .i64 c, .slice none 0 0, .slice none 0 0, .slice none 0 0, .slice none 0 0] 85))
  refine bodyPost_ret (v := .tuple #[.pointer (some ⟨w1.heap.size, 0, none⟩), .int .i64 0]) (by simp [results, Try.results11, go_sem]) rfl ⟨⟨_, _, _, rfl, HR.out⟩, HBF.out⟩
end Go.Proofs.Ytjcbhomfggjmhaa.Mm
namespace Go.Proofs.Ytjcbhomfggjmhaa.Mm
open Go.ChangeShapes Go.WideShapes Go.ChangeAt Go.RowKit Go.Maps
set_option linter.unusedVariables false
/-! ### What both sides have is the same -/
def wtF (l : List Iv) (d : Nat) : List (Int × Nat) := (l.filter fun y => y.f == d).map fun y => (y.b, y.l * 64)
structure Eqv (S : Sd) (R : Rs) : Prop where
  n : S.n = R.n
  t : ∀ x, wd S.T x = R.at x
  c : ∀ c x, S.C c x = lk R.cache c x
  h : ∀ c x, S.H c x = lk R.ahead c x
  w : ∀ d, d < S.n → S.Wt d = wtF R.wt d
  wf : ∀ y ∈ R.wt, y.f < R.n
  uc : Uq R.cache
  ua : Uq R.ahead
  ut : Uq R.told
  cf : Cfg R.T
  cs : Cfg S.T
  c4 : ∀ y ∈ R.cache, y.a % 4 = 0
/-- How much the document's side holds. -/
structure BdR (K : Nat) (R : Rs) : Prop where
  c : R.cache.length ≤ K
  a : R.ahead.length ≤ K
  t : R.told.length ≤ 16 * K
  w : R.wt.length ≤ 4 * K
  ac : ∀ y ∈ R.cache, y.a < 18446744073709551616
  n4 : R.n ≤ 4
theorem BdR.more {K K' : Nat} {R : Rs} (h : BdR K R) (hk : K ≤ K') : BdR K' R := ⟨by have := h.c; omega, by have := h.a; omega, by have := h.t; omega, by have := h.w; omega, h.ac, h.n4⟩
section
variable {S : Sd} {R : Rs} {K : Nat} {c : Int} {x : Nat}
theorem Eqv.is (h : Eqv S R) (c : Int) : isC S c ↔ isR R c := by unfold isC isR; rw [h.n]
theorem Eqv.rdy (h : Eqv S R) (c : Int) (x : Nat) : Mm.rdy S c x = R.rdy c x := by
  unfold Mm.rdy Rs.rdy
  by_cases hc : isC S c
  · rw [if_pos hc, if_pos ((h.is c).1 hc), h.t]
  · rw [if_neg hc, if_neg (fun h2 => hc ((h.is c).2 h2))]
theorem Eqv.val (h : Eqv S R) (c : Int) (x : Nat) : S.val c x = R.val c x := by
  unfold Sd.val Rs.val
  rw [h.c, h.t]
theorem rdy_four (h : R.rdy c x = 0) : x % 4 = 0 := by
  unfold Rs.rdy at h
  split at h
  · unfold Rs.at at h
    split at h
    · next h1 =>
      unfold wd at h1
      split at h1
      · next h2 => exact h2.2.2
      · cases h1
    · cases h
  · cases h
theorem Eqv.fill (h : Eqv S R) (c : Int) {x : Nat} (hx4 : x % 4 = 0) : Eqv (S.fill c x) (R.fill c x) := by
  have hc := h.c c x
  unfold Sd.fill Rs.fill
  cases hl : lk R.cache c x with
  | some u =>
    rw [hl] at hc
    rw [hc]
    exact h
  | none =>
    rw [hl] at hc
    rw [hc]
    have hv : S.val c x = (R.at x).1 := by rw [h.val]; unfold Rs.val; rw [hl]; rfl
    refine ⟨h.n, h.t, fun c' x' => ?_, h.h, h.w, h.wf, uq_snoc h.uc fun y hy => ?_, h.ua, h.ut, h.cf, h.cs, fun y hy => ?_⟩
    · show upd S.C c x (some (wd S.T x).1) c' x' = lk (R.cache ++ [⟨c, x, (R.at x).1⟩]) c' x'
      rw [lk_app, lk_one, h.t]
      unfold upd
      by_cases e : c' = c ∧ x' = x
      · rw [if_pos e, e.1, e.2, hl, if_pos ⟨rfl, rfl⟩]
        rfl
      · rw [if_neg e, h.c, if_neg (show ¬ (c = c' ∧ x = x') by omega), Option.or_none]
    · intro e
      have e : y.c = c ∧ y.a = x := e
      have : ∀ l : List Cl, y ∈ l → lk l c x ≠ none := by
        intro l
        induction l with
        | nil => intro h; cases h
        | cons z l ih =>
          intro hm
          rw [lk_cons]
          split
          · exact fun h => by cases h
          · next hz =>
            rcases List.mem_cons.1 hm with rfl | hm
            · exact absurd (by unfold Cl.hit; simp [e]) hz
            · exact ih hm
      exact this _ hy hl
    · have hy : y ∈ R.cache ++ [⟨c, x, (R.at x).1⟩] := hy
      rcases List.mem_append.1 hy with h5 | h5
      · exact h.c4 y h5
      · rw [List.mem_singleton.1 h5]; exact hx4
theorem BdR.fill (h : BdR K R) (c : Int) {x : Nat} (hx : x < 18446744073709551616) : BdR (K + 1) (R.fill c x) := by
  have h1 := h.c
  have h2 := h.a
  have h3 := h.t
  have h4 := h.w
  unfold Rs.fill
  cases lk R.cache c x with
  | some u => exact h.more (Nat.le_succ _)
  | none =>
    refine ⟨?_, by show R.ahead.length ≤ _; omega, by show R.told.length ≤ _; omega, by show R.wt.length ≤ _; omega, fun y hy => ?_, h.n4⟩
    · show (R.cache ++ [_]).length ≤ _
      rw [List.length_append]
      show R.cache.length + 1 ≤ _
      omega
    · have hy : y ∈ R.cache ++ [⟨c, x, (R.at x).1⟩] := hy
      rcases List.mem_append.1 hy with h5 | h5
      · exact h.ac y h5
      · rw [List.mem_singleton.1 h5]; exact hx
theorem Eqv.ahead (h : Eqv S R) (c : Int) (x : Nat) : Eqv (S.ahead c x) (if R.rdy c x = 0 then R.rahead c x else R) := by
  unfold Sd.ahead
  rw [h.rdy]
  by_cases h0 : R.rdy c x = 0
  · rw [if_pos h0, if_pos h0]
    have hf := h.fill c (rdy_four h0)
    obtain ⟨_, e2, _⟩ := fill_lk R c x
    refine ⟨hf.n, hf.t, hf.c, fun c' x' => ?_, hf.w, hf.wf, hf.uc, ?_, hf.ut, hf.cf, hf.cs, hf.c4⟩
    · show upd (S.fill c x).H c x (some (S.val c x)) c' x' = lk (dropC R.ahead c x ++ [⟨c, x, R.val c x⟩]) c' x'
      rw [lk_app, lk_one, lk_drop h.ua, h.val]
      unfold upd
      by_cases e : c' = c ∧ x' = x
      · rw [if_pos e, if_pos e, if_pos ⟨e.1.symm, e.2.symm⟩]
        rfl
      · rw [if_neg e, if_neg e, if_neg (show ¬ (c = c' ∧ x = x') by omega), Option.or_none, hf.h, e2]
    · exact uq_snoc (dropC_uq h.ua c x) (drop_out h.ua)
  · rw [if_neg h0, if_neg h0]
    exact h
theorem BdR.rahead (h : BdR K R) (c : Int) {x : Nat} (hx : x < 18446744073709551616) : BdR (K + 1) (if R.rdy c x = 0 then R.rahead c x else R) := by
  split
  · have hf := h.fill c hx
    obtain ⟨_, e2, _⟩ := fill_lk R c x
    refine ⟨hf.c, ?_, hf.t, hf.w, hf.ac, hf.n4⟩
    show (dropC R.ahead c x ++ [_]).length ≤ _
    rw [List.length_append]
    have := dropC_len R.ahead c x
    have := h.a
    show _ + 1 ≤ _
    omega
  · exact h.more (Nat.le_succ _)
theorem Eqv.fetch (h : Eqv S R) (c : Int) (x : Nat) (ah : Bool) : Eqv (S.fetch c x ah) (R.rfetch c x ah) ∧ S.fetchV c x ah = R.rfetchV c x ah := by
  unfold Sd.fetch Rs.rfetch Sd.fetchV Rs.rfetchV
  rw [h.rdy, h.h, h.val]
  refine ⟨?_, rfl⟩
  split
  · next h0 =>
    split
    · exact h
    · exact h.fill c (rdy_four h0)
  · exact h
theorem BdR.rfetch (h : BdR K R) (c : Int) {x : Nat} (hx : x < 18446744073709551616) (ah : Bool) : BdR (K + 1) (R.rfetch c x ah) := by
  unfold Rs.rfetch
  split
  · split
    · exact h.more (Nat.le_succ _)
    · exact h.fill c hx
  · exact h.more (Nat.le_succ _)
theorem Eqv.refill (h : Eqv S R) (c : Int) (x : Nat) : Eqv (S.refill c x) (if R.rdy c x = 0 then R.fill c x else R) := by
  unfold Sd.refill
  rw [h.rdy]
  split
  · next h0 => exact h.fill c (rdy_four h0)
  · exact h
theorem BdR.refill (h : BdR K R) (c : Int) {x : Nat} (hx : x < 18446744073709551616) : BdR (K + 1) (if R.rdy c x = 0 then R.fill c x else R) := by
  split
  · exact h.fill c hx
  · exact h.more (Nat.le_succ _)
theorem Eqv.evict (h : Eqv S R) (c : Int) (x : Nat) : Eqv { S with C := upd S.C c x none } { R with cache := dropC R.cache c x } := by
  refine ⟨h.n, h.t, fun c' x' => ?_, h.h, h.w, h.wf, dropC_uq h.uc c x, h.ua, h.ut, h.cf, h.cs, fun y hy => h.c4 y (dropC_mem hy)⟩
  show upd S.C c x none c' x' = lk (dropC R.cache c x) c' x'
  rw [lk_drop h.uc]
  unfold upd
  split
  · rfl
  · exact h.c c' x'
theorem BdR.evict (h : BdR K R) (c : Int) (x : Nat) : BdR (K + 1) { R with cache := dropC R.cache c x } := by
  have := dropC_len R.cache c x
  exact ⟨by show (dropC R.cache c x).length ≤ _; have := h.c; omega, by have := h.a; exact Nat.le_succ_of_le this, by have := h.t; show R.told.length ≤ _; omega, by have := h.w; show R.wt.length ≤ _; omega, fun y hy => h.ac y (dropC_mem hy), h.n4⟩
/-! ### Telling -/
/-- x is one of the first j words from f on. -/
def onL (f j x : Nat) : Prop := f ≤ x ∧ x < f + 4 * j ∧ (x - f) % 4 = 0
instance (f j x : Nat) : Decidable (onL f j x) := inferInstanceAs (Decidable (_ ∧ _))
theorem onL_succ (f j x : Nat) : onL f (j + 1) x ↔ onL f j x ∨ x = f + 4 * j := by unfold onL; omega
theorem rd_congr : ∀ (k : Nat) (f g : Nat → Nat), (∀ i, i < k → f i = g i) → rd f k = rd g k
  | 0, _, _, _ => rfl
  | k + 1, f, g, h => by rw [rd_shift, rd_shift, h 0 (by omega), rd_congr k _ _ fun i hi => h (i + 1) (by omega)]
theorem wd_tell (M T : Me) {f : Nat} (h64 : f % 64 = 0) (x : Nat) : wd (tellY M T f 16) x = if onL f 16 x then (if (wd T x).2 = 0 then ((wd M x).1, 0) else (0, 8)) else wd T x := by
  unfold wd
  by_cases h1 : 4096 ≤ x ∧ x < 4352 ∧ x % 4 = 0
  · rw [if_pos h1, if_pos h1, if_pos h1]
    by_cases h2 : onL f 16 x
    · rw [if_pos h2, if_pos rfl]
      unfold onL at h2
      congr 1
      refine rd_congr 4 _ _ fun j hj => ?_
      show (if 0 = 0 ∧ f ≤ 4096 + (x - 4096 + j) ∧ 4096 + (x - 4096 + j) < f + 4 * 16 then _ else _) = _
      rw [if_pos (by omega)]
    · rw [if_neg h2]
      congr 1
      refine rd_congr 4 _ _ fun j hj => ?_
      show (if 0 = 0 ∧ f ≤ 4096 + (x - 4096 + j) ∧ 4096 + (x - 4096 + j) < f + 4 * 16 then _ else _) = _
      rw [if_neg fun h3 => h2 (by unfold onL; omega)]
  · rw [if_neg h1, if_neg h1, if_neg h1]
    split <;> rfl
theorem flowT_uq (M : Me) {l : List Cl} (h : Uq l) (f : Nat) : ∀ j, Uq (flowT M l f j)
  | 0 => h
  | j + 1 => uq_snoc (dropC_uq (flowT_uq M h f j) _ _) (drop_out (flowT_uq M h f j))
theorem flowT_lk (M : Me) {l : List Cl} (h : Uq l) (f x : Nat) : ∀ j, lk (flowT M l f j) (-1) x = if onL f j x then some (wd M x).1 else lk l (-1) x
  | 0 => by rw [if_neg (by unfold onL; omega)]; rfl
  | j + 1 => by
    show lk (dropC (flowT M l f j) (-1) (f + 4 * j) ++ [⟨-1, f + 4 * j, (wd M (f + 4 * j)).1⟩]) (-1) x = _
    rw [lk_app, lk_one, lk_drop (flowT_uq M h f j), flowT_lk M h f x j]
    by_cases e : x = f + 4 * j
    · rw [if_pos ⟨rfl, e⟩, if_pos ⟨rfl, e.symm⟩, if_pos ((onL_succ f j x).2 (.inr e)), ← e]
      rfl
    · rw [if_neg (fun (h : (-1 : Int) = -1 ∧ x = f + 4 * j) => e h.2), if_neg (fun (h : (-1 : Int) = -1 ∧ f + 4 * j = x) => e h.2.symm), Option.or_none]
      by_cases h2 : onL f j x
      · rw [if_pos h2, if_pos ((onL_succ f j x).2 (.inl h2))]
      · rw [if_neg h2, if_neg (fun h3 => ((onL_succ f j x).1 h3).elim h2 e)]
theorem Eqv.tell (h : Eqv S R) {M : Me} (hM : Cfg M) (x : Nat) : Eqv (S.tell M x) (R.flow M x) := by
  have h64 : (x - x % 64) % 64 = 0 := by omega
  unfold Sd.tell Rs.flow flowR
  generalize x - x % 64 = f at h64
  have code : ∀ y, (wd R.T y).2 = 0 ↔ (wd S.T y).2 = 0 := fun y => by
    rw [h.t]
    unfold Rs.at
    split
    · next h1 => simp [h1]
    · next h1 => simp [h1]
  have cod2 : ∀ (T T' : Me) (y : Nat), (wd T y).2 = (wd T' y).2 := fun T T' y => by unfold wd; split <;> rfl
  by_cases hin : inR f
  · rw [if_pos hin]
    have u1 := flowT_uq M h.ut f 16
    have u2 := fun x => flowT_lk M h.ut f x 16
    generalize flowT M R.told f 16 = T at u1 u2 ⊢
    refine ⟨h.n, fun y => ?_, h.c, h.h, h.w, h.wf, h.uc, h.ua, u1, h.cf, tellY_cfg h.cs, h.c4⟩
    show wd (tellY M S.T f 16) y = (if (wd R.T y).2 = 0 then ((lk T (-1) y).getD (wd R.T y).1, 0) else (0, 8))
    rw [wd_tell M S.T h64, u2, h.t]
    by_cases h2 : onL f 16 y
    · rw [if_pos h2, if_pos h2]
      unfold Rs.at
      by_cases h3 : (wd R.T y).2 = 0
      · rw [if_pos h3, if_pos h3, if_pos rfl]
        rfl
      · rw [if_neg h3, if_neg h3, if_neg (by decide)]
    · rw [if_neg h2, if_neg h2]
      rfl
  · rw [if_neg hin]
    refine ⟨h.n, fun y => ?_, h.c, h.h, h.w, h.wf, h.uc, h.ua, h.ut, h.cf, tellY_cfg h.cs, h.c4⟩
    show wd (tellY M S.T f 16) y = R.at y
    rw [wd_tell M S.T h64, ← h.t]
    by_cases h2 : onL f 16 y
    · rw [if_pos h2]
      have h8 : wd S.T y = (0, 8) := by
        unfold wd
        rw [if_neg]
        rintro ⟨a, b, _⟩
        apply hin
        unfold onL at h2
        unfold inR
        omega
      rw [h8, if_neg (by decide)]
    · rw [if_neg h2]
theorem BdR.flow (h : BdR K R) (M : Me) (x : Nat) : BdR (K + 1) (R.flow M x) := by
  unfold Rs.flow flowR
  split
  · have := flowT_len M R.told (x - x % 64) 16
    generalize flowT M R.told (x - x % 64) 16 = T at this ⊢
    have h1 := h.c
    have h2 := h.a
    have h3 := h.t
    have h4 := h.w
    exact ⟨Nat.le_succ_of_le h1, Nat.le_succ_of_le h2, Nat.le_trans this (by omega), Nat.le_trans h4 (by omega), h.ac, h.n4⟩
  · exact h.more (Nat.le_succ _)
/-! ### Sync -/
theorem Eqv.sync (h : Eqv S R) (c : Int) : Eqv (S.sync c) (R.rsync c) := by
  unfold Sd.sync Rs.rsync
  by_cases hc : isC S c
  · rw [if_pos hc, if_pos ((h.is c).1 hc)]
    refine ⟨h.n, h.t, h.c, fun c' x' => ?_, h.w, h.wf, h.uc, h.ua.filter _, h.ut, h.cf, h.cs, h.c4⟩
    show syncH S.H c c' x' = lk (R.ahead.filter fun y => y.c != c) c' x'
    rw [lk_filter (fun y => y.c != c) (fun c' _ => c' != c) (fun _ _ => rfl)]
    unfold syncH
    by_cases e : c' = c
    · rw [if_pos e, if_neg (by simp [e])]
    · rw [if_neg e, if_pos (by simpa using e)]
      exact h.h c' x'
  · rw [if_neg hc, if_neg (fun h2 => hc ((h.is c).2 h2))]
    exact h
theorem BdR.sync (h : BdR K R) (c : Int) : BdR (K + 1) (R.rsync c) := by
  unfold Rs.rsync
  split
  · have h1 := h.c
    have h2 := h.a
    have h3 := h.t
    have h4 := h.w
    have := List.length_filter_le (fun y : Cl => y.c != c) R.ahead
    exact ⟨Nat.le_succ_of_le h1, Nat.le_trans this (Nat.le_succ_of_le h2), Nat.le_trans h3 (by omega), Nat.le_trans h4 (by omega), h.ac, h.n4⟩
  · exact h.more (Nat.le_succ _)
end
end Go.Proofs.Ytjcbhomfggjmhaa.Mm
namespace Go.Proofs.Ytjcbhomfggjmhaa.Mm
open Go.ChangeShapes Go.WideShapes Go.ChangeAt Go.RowKit Go.Maps
set_option linter.unusedVariables false
section
variable {S : Sd} {R R' : Rs} {K : Nat} {c : Int} {x : Nat}
theorem wtF_app (l m : List Iv) (d : Nat) : wtF (l ++ m) d = wtF l d ++ wtF m d := by unfold wtF; rw [List.filter_append, List.map_append]
theorem ivN_F (R : Rs) (c : Int) (x d : Nat) : ∀ j, wtF (ivN R c x j) d = if d < j then [(c, x / 64 * 64)] else []
  | 0 => by rw [if_neg (Nat.not_lt_zero d)]; rfl
  | j + 1 => by
    rw [ivN_succ, wtF_app, ivN_F R c x d j]
    by_cases h : d = j
    · subst h
      rw [if_neg (Nat.lt_irrefl d), if_pos (Nat.lt_succ_self d)]
      unfold wtF
      rw [List.filter_cons, if_pos (by simp)]
      rfl
    · have e : wtF [⟨j, c, x / 64⟩] d = [] := by
        unfold wtF
        rw [List.filter_cons, if_neg (by simp; omega)]
        rfl
      rw [e, List.append_nil]
      by_cases h2 : d < j
      · rw [if_pos h2, if_pos (by omega)]
      · rw [if_neg h2, if_neg (by omega)]
theorem ivN_mem {R : Rs} {c : Int} {x j : Nat} {y : Iv} (h : y ∈ ivN R c x j) : y.f < j := by
  unfold ivN at h
  obtain ⟨i, hi, rfl⟩ := List.mem_map.1 h
  exact List.mem_range.1 hi
theorem Eqv.inval (h : Eqv S R) (c : Int) (x : Nat) : Eqv (S.inval c x) (R.rinval c x) := by
  unfold Sd.inval Rs.rinval
  by_cases hc : isC S c
  · rw [if_pos hc, if_pos ((h.is c).1 hc)]
    refine ⟨h.n, h.t, h.c, h.h, fun d hd => ?_, fun y hy => ?_, h.uc, h.ua, h.ut, h.cf, h.cs, h.c4⟩
    · have hd : d < S.n := hd
      show (if d < S.n then S.Wt d ++ [(c, x - x % 64)] else S.Wt d) = wtF (R.wt ++ ivN R c x R.n) d
      rw [if_pos hd, wtF_app, ivN_F, if_pos (by rw [← h.n]; exact hd), h.w d hd]
      congr 3
      omega
    · have hy : y ∈ R.wt ++ ivN R c x R.n := hy
      rcases List.mem_append.1 hy with h1 | h1
      · exact h.wf y h1
      · exact ivN_mem h1
  · rw [if_neg hc, if_neg (fun h2 => hc ((h.is c).2 h2))]
    exact h
theorem BdR.inval (h : BdR K R) (c : Int) (x : Nat) : BdR (K + 1) (R.rinval c x) := by
  unfold Rs.rinval
  split
  · have h1 := h.c
    have h2 := h.a
    have h3 := h.t
    have h4 := h.w
    have h5 := h.n4
    refine ⟨Nat.le_succ_of_le h1, Nat.le_succ_of_le h2, Nat.le_trans h3 (by omega), ?_, h.ac, h.n4⟩
    show (R.wt ++ ivN R c x R.n).length ≤ _
    rw [List.length_append, ivN_len]
    omega
  · exact h.more (Nat.le_succ _)
/-! ### Deliver -/
theorem wfor_filter (l : List Iv) (c : Int) : ∀ j, j ≤ l.length → wfor l c j = ((l.take j).filter fun y => (y.f : Int) == c).length
  | 0, _ => rfl
  | j + 1, h => by
    show wfor l c j + (if ((l.getD j iz).f : Int) = c then 1 else 0) = _
    rw [wfor_filter l c j (by omega), filt_step (fun y : Iv => (y.f : Int) == c) iz l j (by omega), List.length_append]
    by_cases e : ((l.getD j iz).f : Int) = c
    · rw [if_pos e, if_pos (by simpa using e)]
      rfl
    · rw [if_neg e, if_neg (by simpa using e)]
      rfl
theorem filt_d (l : List Iv) (d : Nat) : (l.filter fun y => (y.f : Int) == (d : Int)) = l.filter fun y => y.f == d := by
  refine List.filter_congr fun y _ => ?_
  rw [Bool.eq_iff_iff, beq_iff_eq, beq_iff_eq]
  omega
theorem Eqv.wait (h : Eqv S R) (c : Int) : S.waitN c = wfor R.wt c R.wt.length := by
  rw [wfor_filter _ _ _ (Nat.le_refl _), List.take_length]
  unfold Sd.waitN
  by_cases hc : isC S c
  · rw [if_pos hc]
    obtain ⟨d, rfl⟩ := Int.eq_ofNat_of_zero_le hc.1
    have hd : d < S.n := by have := hc.2; omega
    show (S.Wt d).length = _
    rw [h.w d hd, filt_d]
    unfold wtF
    rw [List.length_map]
  · rw [if_neg hc, List.filter_eq_nil_iff.2 fun y hy e => ?_]
    · rfl
    · have h1 := h.wf y hy
      have h2 : (y.f : Int) = c := by simpa using e
      apply hc
      unfold isC
      rw [h.n]
      omega
theorem take_drop_at {l : List Iv} {k : Nat} (hk : k < l.length) : l = l.take k ++ l.getD k iz :: l.drop (k + 1) := by
  have e : l.getD k iz = l[k] := by rw [List.getD_eq_getElem?_getD, List.getElem?_eq_getElem hk]; rfl
  rw [e, ← List.drop_eq_getElem_cons hk, List.take_append_drop]
theorem Eqv.deliver (h : Eqv S R) {c n : Int} (hd : DelTo R c n R') : Eqv (S.deliver c n) R' := by
  have hw := h.wait c
  unfold Sd.deliver
  rcases hd with ⟨h0, rfl⟩ | ⟨h0, k, hk, hf, hi, rfl⟩
  · rw [if_pos (hw.trans h0)]
    exact h
  · rw [if_neg (fun e => h0 (hw.symm.trans e))]
    have hc : isC S c := by
      rw [← hw] at h0
      unfold Sd.waitN at h0
      split at h0
      · assumption
      · exact absurd rfl h0
    obtain ⟨d, rfl⟩ := Int.eq_ofNat_of_zero_le hc.1
    have hdn : d < S.n := by have := hc.2; omega
    have htn : (d : Int).toNat = d := rfl
    have hat : S.atK (d : Int) n = wfor R.wt (d : Int) k := by
      unfold Sd.atK
      have e1 : S.waitN (d : Int) = (S.Wt d).length := if_pos hc
      rw [htn, ← e1, hw, ← hi]
      rfl
    generalize hy : R.wt.getD k iz = y at hf
    have hyf : y.f = d := by omega
    have hl := take_drop_at hk
    rw [hy] at hl
    have hF : wtF R.wt d = wtF (R.wt.take k) d ++ (y.b, y.l * 64) :: wtF (R.wt.drop (k + 1)) d := by
      conv => lhs; rw [hl]
      rw [wtF_app]
      congr 1
      unfold wtF
      rw [List.filter_cons, if_pos (by simp [hyf])]
      rfl
    have hlen : (wtF (R.wt.take k) d).length = S.atK (d : Int) n := by
      rw [hat, wfor_filter _ _ _ (Nat.le_of_lt hk), filt_d]
      unfold wtF
      rw [List.length_map]
    have hg : (S.Wt d).getD (S.atK (d : Int) n) (0, 0) = (y.b, y.l * 64) := by
      rw [h.w d hdn, hF, ← hlen]
      simp
    have he : ∀ d', wtF (R.wt.eraseIdx k) d' = wtF (R.wt.take k) d' ++ wtF (R.wt.drop (k + 1)) d' := fun d' => by rw [List.eraseIdx_eq_take_drop_succ, wtF_app]
    rw [htn, hg]
    refine ⟨h.n, h.t, fun c' a => ?_, h.h, fun d' hd' => ?_, fun z hz => h.wf z (List.mem_of_mem_eraseIdx hz), h.uc.filter _, h.ua, h.ut, h.cf, h.cs, fun z hz => h.c4 z ((List.mem_filter.1 hz).1)⟩
    · show clrC S.C (d : Int) (y.l * 64 - y.l * 64 % 64) 16 c' a = lk (R.cache.filter (delQ (d : Int) y.l)) c' a
      rw [lk_filter (delQ (d : Int) y.l) (fun c' a => c' != (d : Int) || a / 64 != y.l) (fun _ _ => rfl)]
      unfold clrC
      rw [h.c]
      by_cases h1 : c' = (d : Int) ∧ a / 64 = y.l
      · have hr : (c' != (d : Int) || a / 64 != y.l) = false := by simp [h1]
        rw [hr, if_neg (show ¬ (false = true) by decide)]
        by_cases h4 : a % 4 = 0
        · rw [if_pos (by omega)]
        · rw [lk_out fun z hz e => h4 (by rw [← e.2]; exact h.c4 z hz)]
          split <;> rfl
      · rw [if_neg (fun h2 => h1 ⟨h2.1, by omega⟩)]
        by_cases h2 : c' = (d : Int)
        · have hr : (c' != (d : Int) || a / 64 != y.l) = true := by simp; exact .inr fun h3 => h1 ⟨h2, h3⟩
          rw [hr, if_pos rfl]
        · have hr : (c' != (d : Int) || a / 64 != y.l) = true := by simp; exact .inl h2
          rw [hr, if_pos rfl]
    · have hd' : d' < S.n := hd'
      show (if d' = d then (S.Wt d).eraseIdx (S.atK (d : Int) n) else S.Wt d') = wtF (R.wt.eraseIdx k) d'
      rw [he]
      by_cases e : d' = d
      · rw [if_pos e, e, h.w d hdn, hF, ← hlen, List.eraseIdx_append_of_length_le (Nat.le_refl _), Nat.sub_self]
        rfl
      · rw [if_neg e, h.w d' hd']
        conv => lhs; rw [hl]
        rw [wtF_app]
        congr 1
        unfold wtF
        rw [List.filter_cons, if_neg (by simp; omega)]
theorem BdR.deliver (h : BdR K R) {n : Int} (hd : DelTo R c n R') : BdR (K + 1) R' := by
  rcases hd with ⟨_, rfl⟩ | ⟨_, k, hk, _, _, rfl⟩
  · exact h.more (Nat.le_succ _)
  · have h1 := h.c
    have h2 := h.a
    have h3 := h.t
    have h4 := h.w
    have h5 := List.length_filter_le (delQ c (R.wt.getD k iz).l) R.cache
    have h6 := List.length_eraseIdx_le R.wt k
    generalize R.wt.eraseIdx k = W at h6 ⊢
    have h7 : ∀ y ∈ R.cache.filter (delQ c (R.wt.getD k iz).l), y.a < 18446744073709551616 := fun y hy => h.ac y ((List.mem_filter.1 hy).1)
    generalize R.cache.filter (delQ c (R.wt.getD k iz).l) = C at h5 h7 ⊢
    exact ⟨Nat.le_trans h5 (Nat.le_succ_of_le h1), Nat.le_succ_of_le h2, Nat.le_trans h3 (by omega), Nat.le_trans h6 (Nat.le_trans h4 (by omega)), h7, h.n4⟩
/-! ### Pending -/
theorem cntL_filter (l : List (Int × Nat)) (c : Int) : ∀ j, j ≤ l.length → cntL l c j = ((l.take j).filter fun y => y.1 == c).length
  | 0, _ => rfl
  | j + 1, h => by
    show cntL l c j + (if (l.getD j (0, 0)).1 = c then 1 else 0) = _
    rw [cntL_filter l c j (by omega), filt_step (fun y : Int × Nat => y.1 == c) (0, 0) l j (by omega), List.length_append]
    by_cases e : (l.getD j (0, 0)).1 = c
    · rw [if_pos e, if_pos (by simpa using e)]
      rfl
    · rw [if_neg e, if_neg (by simpa using e)]
      rfl
theorem wby_filter (l : List Iv) (c : Int) : ∀ j, j ≤ l.length → wby l c j = ((l.take j).filter fun y => y.b == c).length
  | 0, _ => rfl
  | j + 1, h => by
    show wby l c j + (if (l.getD j iz).b = c then 1 else 0) = _
    rw [wby_filter l c j (by omega), filt_step (fun y : Iv => y.b == c) iz l j (by omega), List.length_append]
    by_cases e : (l.getD j iz).b = c
    · rw [if_pos e, if_pos (by simpa using e)]
      rfl
    · rw [if_neg e, if_neg (by simpa using e)]
      rfl
def cnD (l : List Iv) (c : Int) (d : Nat) : Nat := ((l.filter fun y => y.f == d).filter fun y => y.b == c).length
def csD (l : List Iv) (c : Int) : Nat → Nat
  | 0 => 0
  | n + 1 => csD l c n + cnD l c n
theorem cnD_cons (y : Iv) (l : List Iv) (c : Int) (d : Nat) : cnD (y :: l) c d = cnD l c d + if y.f = d ∧ y.b = c then 1 else 0 := by
  unfold cnD
  rw [List.filter_cons]
  by_cases h1 : y.f = d
  · rw [if_pos (by simpa using h1), List.filter_cons]
    by_cases h2 : y.b = c
    · rw [if_pos (by simpa using h2), if_pos ⟨h1, h2⟩]
      rfl
    · rw [if_neg (by simpa using h2), if_neg (fun h => h2 h.2)]
      rfl
  · rw [if_neg (by simpa using h1), if_neg (fun h => h1 h.1)]
    rfl
theorem csD_cons (y : Iv) (l : List Iv) (c : Int) : ∀ n, csD (y :: l) c n = csD l c n + if y.f < n ∧ y.b = c then 1 else 0
  | 0 => by rw [if_neg (fun h => absurd h.1 (Nat.not_lt_zero _))]; rfl
  | n + 1 => by
    show csD (y :: l) c n + cnD (y :: l) c n = csD l c n + cnD l c n + _
    rw [csD_cons y l c n, cnD_cons]
    by_cases h2 : y.b = c
    · by_cases h1 : y.f < n
      · rw [if_pos ⟨h1, h2⟩, if_neg (by omega), if_pos ⟨by omega, h2⟩]; omega
      · by_cases h3 : y.f = n
        · rw [if_neg (fun h => h1 h.1), if_pos ⟨h3, h2⟩, if_pos ⟨by omega, h2⟩]; omega
        · rw [if_neg (fun h => h1 h.1), if_neg (fun h => h3 h.1), if_neg (by omega)]; omega
    · rw [if_neg (fun h => h2 h.2), if_neg (fun h => h2 h.2), if_neg (fun h => h2 h.2)]; omega
theorem csD_all (c : Int) (n : Nat) : ∀ l : List Iv, (∀ y ∈ l, y.f < n) → csD l c n = (l.filter fun y => y.b == c).length
  | [], _ => by
    have : ∀ n, csD [] c n = 0 := fun n => by
      induction n with
      | zero => rfl
      | succ n ih => show csD [] c n + cnD [] c n = 0; rw [ih]; rfl
    rw [this]
    rfl
  | y :: l, h => by
    rw [csD_cons, csD_all c n l fun z hz => h z (List.mem_cons_of_mem _ hz), List.filter_cons]
    by_cases h2 : y.b = c
    · rw [if_pos ⟨h y (List.mem_cons_self ..), h2⟩, if_pos (by simpa using h2)]
      rfl
    · rw [if_neg (fun h => h2 h.2), if_neg (by simpa using h2)]
      rfl
theorem Eqv.pend (h : Eqv S R) (c : Int) : cntS S c S.n = wby R.wt c R.wt.length := by
  rw [wby_filter _ _ _ (Nat.le_refl _), List.take_length, ← csD_all c S.n R.wt (fun y hy => by rw [h.n]; exact h.wf y hy)]
  have : ∀ n, n ≤ S.n → cntS S c n = csD R.wt c n := fun n => by
    induction n with
    | zero => intro _; rfl
    | succ n ih =>
      intro hn
      show cntS S c n + cntL (S.Wt n) c (S.Wt n).length = csD R.wt c n + cnD R.wt c n
      rw [ih (by omega), cntL_filter _ _ _ (Nat.le_refl _), List.take_length, h.w n (by omega)]
      congr 1
      unfold wtF cnD
      rw [List.filter_map, List.length_map]
      rfl
  exact this _ (Nat.le_refl _)
end
end Go.Proofs.Ytjcbhomfggjmhaa.Mm
