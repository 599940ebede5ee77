import Derived.Test.YtjcbhomfggjmhaaId
import Derived.Test.YtjcbhomfggjmhaaRd
namespace Go.Proofs.Ytjcbhomfggjmhaa.Mm
open Go.ChangeShapes Go.WideShapes Go.ChangeAt Go.RowKit Go.Maps
set_option linter.unusedVariables false
/-- One element of a row of one-cell elements is laid anew. -/
theorem own_set1 {w : World} {base n g cap j : Nat} {e : TypeId} {f : Nat → Value} (h : w.ownsRow base e 1 (.slice (some ⟨g, 0, none⟩) n cap) n ((List.range n).map f)) (hj : j < n) (v : Value) :
    (w.setCell ⟨g, j, none⟩ v).ownsRow base e 1 (.slice (some ⟨g, 0, none⟩) n cap) n ((List.range n).map fun i => if i = j then v else f i) := by
  rcases h.2 with ⟨h1, _⟩ | ⟨g', cap', cur, hv, hb, hg, hc, hm, hs, ht⟩
  · cases h1
  · injection hv with e1 e2 e3
    injection e1 with e1
    injection e1 with e1
    subst e1 e3
    refine ⟨by simp, .inr ⟨g, cap, cur.setIfInBounds j v, rfl, hb, ?_, hc, hm, by simp [hs], ?_⟩⟩
    · rw [setCell_eq_setRow w g j cur e (0, 0) v hg]
      exact setRow_heap _ _ _ _ _ _ hg
    · rw [Array.toList_setIfInBounds, Nat.mul_one] at *
      apply List.ext_getElem?
      intro i
      rw [List.getElem?_take]
      by_cases hi : i < n
      · rw [if_pos hi, List.getElem?_map, List.getElem?_range hi, List.getElem?_set]
        have hci : cur.toList[i]? = some (f i) := by
          have := congrArg (fun l => l[i]?) ht
          simp only [List.getElem?_take, if_pos hi, List.getElem?_map, List.getElem?_range hi] at this
          exact this
        by_cases hij : j = i
        · subst hij
          rw [if_pos rfl, if_pos (by rw [Array.length_toList]; omega)]
          simp
        · rw [if_neg hij, hci]
          simp [Ne.symm hij]
      · rw [if_neg hi, List.getElem?_eq_none (by simp; omega)]
section
variable {w w1 : World} {lo : Nat → Prop} {p : Nat} {L : Pl} {V : Nat → Value} {S : Sd}
/-- One row of what waits has turned, and is laid in its place. -/
theorem SdC.setW (h : SdC w lo p L V S) {c : Nat} (hc : c < S.n) {v' : Value} {l' : List (Int × Nat)} (hg : w.grownBy w1 (V c).ownBlock) (ho : w1.ownsRow 0 105 2 v' l'.length (invL l')) (hn : ∀ q, v'.ownBlock = some q → (V c).ownBlock = some q ∨ w.heap.size ≤ q) :
    SdC (w1.setCell ⟨L.wb, c, none⟩ v') lo p L (fun d => if d = c then v' else V d) { S with Wt := fun d => if d = c then l' else S.Wt d } ∧ Sv lo w (w1.setCell ⟨L.wb, c, none⟩ v') := by
  have hset : ∀ q, q ≠ L.wb → (w1.setCell ⟨L.wb, c, none⟩ v').heap[q]? = w1.heap[q]? := fun q hq => Below.heap_setCell _ _ _ _ hq
  have hkeep : ∀ q, q < w.heap.size → (V c).ownBlock ≠ some q → w1.heap[q]? = w.heap[q]? := fun q hq hne => hg.block q hq fun e => hne e.symm
  have hwb : ∃ cur, w.heap[L.wb]? = some (.cells cur 103 (0, 0)) := own_heap h.wr rfl
  have hV : ∀ q, (V c).ownBlock = some q → ∃ cur, w.heap[q]? = some (.cells cur 105 (0, 0)) := fun q hq => own_heap (h.rows c hc) hq
  have nocell : ∀ {q : Nat} {cur : Array Value} {e : TypeId}, w.heap[q]? = some (.cells cur e (0, 0)) → e ≠ 105 → (V c).ownBlock ≠ some q := fun hq hne e => by
    obtain ⟨cur, h2⟩ := hV _ e
    rw [hq] at h2
    injection h2 with h2
    injection h2 with _ h2
    exact hne h2
  have nomap : ∀ {q : Nat} {es : Array MapEntry} {k : Nat}, w.heap[q]? = some (.map es k) → (V c).ownBlock ≠ some q ∧ q ≠ L.wb := fun hq => ⟨fun e => (by
    obtain ⟨cur, h2⟩ := hV _ e
    rw [hq] at h2
    cases h2), fun e => (by
    obtain ⟨cur, h2⟩ := hwb
    rw [← e, hq] at h2
    cases h2)⟩
  obtain ⟨_, _, hc1⟩ := h.mc.heap
  obtain ⟨_, _, hh1⟩ := h.mh.heap
  obtain ⟨curw, hwb⟩ := hwb
  have hpw : p ≠ L.wb := fun e => by
    have := h.row
    rw [e, hwb] at this
    injection this with this
    injection this with _ this
    exact absurd this (by decide)
  have hw1 : w1.ownsRow 0 103 1 (.slice (some ⟨L.wb, 0, none⟩) S.n S.n) S.n ((List.range S.n).map V) := own_kept h.wr fun q hq => by injection hq with hq; subst hq; exact hkeep _ h.lw.2 (nocell hwb (by decide))
  have rowblk : ∀ d, d < S.n → ∀ q, (V d).ownBlock = some q → q ≠ L.wb := fun d hd q hq e => by
    obtain ⟨cur, h2⟩ := own_heap (h.rows d hd) hq
    rw [e, hwb] at h2
    injection h2 with h2
    injection h2 with _ h2
    exact absurd h2 (by decide)
  refine ⟨⟨?_, ?_, h.cfg, h.mc.kept ((hset _ (nomap hc1).2).trans (hkeep _ h.mc.lt (nomap hc1).1)), h.mh.kept ((hset _ (nomap hh1).2).trans (hkeep _ h.mh.lt (nomap hh1).1)), own_set1 hw1 hc v', fun d hd => ?_, fun a b ha hb hab e => ?_, h.ne, h.lp, h.lc, h.lh, h.lb, h.lt, fun d hd q hq => ?_, zl_up h.zl (Nat.le_trans hg.size (by simp)), h.ap, fun d hd q hq hf => ?_, h.n4⟩, ?_⟩
  · exact (hset p hpw).trans ((hkeep p h.pl (nocell h.row (by decide))).trans h.row)
  · exact h.told.kept (Nat.le_trans hg.size (by simp)) fun k hf => (hset k (fun e => h.ap.2.2.2 (e ▸ hf))).trans (hkeep k (h.told.fl k hf) (fun e => h.av c hc k e hf))
  · show World.ownsRow _ 0 105 2 (if d = c then v' else V d) (if d = c then l' else S.Wt d).length (invL (if d = c then l' else S.Wt d))
    by_cases e : d = c
    · rw [if_pos e, if_pos e]
      exact own_kept ho fun q hq => hset q (fun e2 => by
        rcases hn q hq with h3 | h3
        · exact rowblk c hc q h3 e2
        · have := h.lw.2; omega)
    · rw [if_neg e, if_neg e]
      exact own_kept (h.rows d hd) fun q hq => (hset q (rowblk d hd q hq)).trans (hkeep q ((h.rows d hd).lt q hq).2 (fun e2 => by
        have := h.apart d c hd hc e (hq.trans e2.symm)
        rw [hq] at this
        cases this))
  · have e : (if a = c then v' else V a).ownBlock = (if b = c then v' else V b).ownBlock := e
    show (if a = c then v' else V a).ownBlock = none
    by_cases e1 : a = c
    · have e2 : b ≠ c := fun e2 => hab (e1.trans e2.symm)
      rw [if_pos e1, if_neg e2] at e
      rw [if_pos e1]
      cases hq : v'.ownBlock with
      | none => rfl
      | some q =>
        rw [hq] at e
        rcases hn q hq with h3 | h3
        · have := h.apart c b hc hb (fun e3 => e2 e3.symm) (h3.trans e)
          rw [h3] at this
          cases this
        · have := ((h.rows b hb).lt q e.symm).2
          omega
    · by_cases e2 : b = c
      · rw [if_neg e1, if_pos e2] at e
        rw [if_neg e1]
        cases hq : (V a).ownBlock with
        | none => rfl
        | some q =>
          rw [hq] at e
          rcases hn q e.symm with h3 | h3
          · have := h.apart a c ha hc e1 (hq.trans h3.symm)
            rw [hq] at this
            cases this
          · have := ((h.rows a ha).lt q hq).2
            omega
      · rw [if_neg e1, if_neg e2] at e
        rw [if_neg e1]
        exact h.apart a b ha hb hab e
  · have hq : (if d = c then v' else V d).ownBlock = some q := hq
    by_cases e1 : d = c
    · rw [if_pos e1] at hq
      rcases hn q hq with h3 | h3
      · exact h.rz c hc q h3
      · exact fun hz => by have := h.zl q hz; omega
    · rw [if_neg e1] at hq
      exact h.rz d hd q hq
  · have hq : (if d = c then v' else V d).ownBlock = some q := hq
    by_cases e1 : d = c
    · rw [if_pos e1] at hq
      rcases hn q hq with h3 | h3
      · exact h.av c hc q h3 hf
      · have := h.told.fl q hf
        omega
    · rw [if_neg e1] at hq
      exact h.av d hd q hq hf
  · exact ((Sv.refl lo w).grown hg (fun q hq => h.rz c hc q hq)).setCell h.lb _
def Sd.waitN (S : Sd) (c : Int) : Nat := if isC S c then (S.Wt c.toNat).length else 0
theorem waiting_c (h : SdC w lo p L V S) (c : Int) : Calls Try.prog 48 #[.pointer (some ⟨p, 0, none⟩), .int .i64 c] w fun e w' => e = .returned (.int .i64 (S.waitN c : Nat)) ∧ w' = w := by
  have HI := Lib.hid (isCore_c h c)
  by_cases hc : isC S c
  · have hl : c.toNat < S.n := by unfold isC at hc; omega
    obtain ⟨k, rfl⟩ := Int.eq_ofNat_of_zero_le hc.1
    have hl : k < S.n := hl
    have c4 := h.cells.2.2.2.2
    have cw := (h.wcell hl).1
    have HR : Hid (S.waitN (k : Int) = (S.Wt k).length) := Lib.hid (if_pos hc)
    obtain ⟨a, cp, hv, _⟩ := own_form (h.rows k hl)
    have d : decide (isC S (k : Int)) = true := decide_eq_true hc
    have gk : (k : Int) < S.n := by omega
    rw [d] at HI
    rw [hv] at cw
    clear h hc d hv
    go_enter Try.func48, Try.ntmps48
    go_wp2_with (go_at_call 55; refine HI.out.mono ?_; rintro e w1 ⟨rfl, rfl⟩)
    go_ret
    exact ⟨by rw [HR.out]; rfl, rfl⟩
  · have HR : Hid (S.waitN c = 0) := Lib.hid (if_neg hc)
    have d : decide (isC S c) = false := decide_eq_false hc
    rw [d] at HI
    clear h hc d
    go_enter Try.func48, Try.ntmps48
    go_wp2_with (go_at_call 55; refine HI.out.mono ?_; rintro e w1 ⟨rfl, rfl⟩)
    go_ret
    exact ⟨by rw [HR.out]; rfl, rfl⟩
end
end Go.Proofs.Ytjcbhomfggjmhaa.Mm
namespace Go.Proofs.Ytjcbhomfggjmhaa.Mm
open Go.ChangeShapes Go.WideShapes Go.ChangeAt Go.RowKit Go.Maps
set_option linter.unusedVariables false
section
variable {w w1 : World} {lo : Nat → Prop} {p : Nat} {L : Rl} {V : Nat → Value} {R R' : Rs}
/-- One row of the document's side has turned, and is laid in its place. -/
theorem RsC.put (h : RsC w lo p L V R) {k : Nat} (hk : k < 4) {v' : Value} (hsz : w.heap.size ≤ w1.heap.size) (hkeep : ∀ q, q < w.heap.size → (V k).ownBlock ≠ some q → w1.heap[q]? = w.heap[q]?)
    (ho : w1.ownsRow 0 (tyR k) 3 v' (R'.len k) (R'.cel k)) (hn : ∀ q, v'.ownBlock = some q → (V k).ownBlock = some q ∨ w.heap.size ≤ q)
    (hR : R'.n = R.n ∧ R'.T = R.T) (hsame : ∀ i, i < 4 → i ≠ k → R'.len i = R.len i ∧ R'.cel i = R.cel i) (hs : R'.len k ≤ 1000000) :
    RsC (w1.setCell ⟨p, k + 2, none⟩ v') lo p L (fun i => if i = k then v' else V i) R' := by
  have hset : ∀ q, q ≠ p → (w1.setCell ⟨p, k + 2, none⟩ v').heap[q]? = w1.heap[q]? := fun q hq => Below.heap_setCell _ _ _ _ hq
  have tne : ∀ i, tyR i ≠ 85 := fun i => by unfold tyR; split <;> decide
  have rowblk : ∀ i, i < 4 → ∀ q, (V i).ownBlock = some q → q ≠ p := fun i hi q hq e => by
    obtain ⟨cur, h2⟩ := own_heap (h.rows i hi) hq
    rw [e, h.row] at h2
    injection h2 with h2
    injection h2 with _ h2
    exact tne i h2.symm
  have hrow : w1.heap[p]? = some (.cells #[.pointer (some ⟨L.t, 0, none⟩), .int .i64 R.n, V 0, V 1, V 2, V 3] 85 (0, 0)) := (hkeep p h.pl (fun e => rowblk k hk p e rfl)).trans h.row
  refine ⟨?_, ?_, fun i hi => ?_, fun a b ha hb hab e => ?_, h.lp, h.lt, fun i hi q hq => ?_, zl_up h.zl (Nat.le_trans hsz (by simp)), h.ap, fun i hi q hq hf => ?_, fun i hi => ?_, by rw [hR.1]; exact h.n4⟩
  · rw [setCell_eq_setRow w1 p (k + 2) _ 85 (0, 0) v' hrow]
    refine (setRow_heap _ _ _ _ _ _ hrow).trans ?_
    rw [hR.1]
    have : k = 0 ∨ k = 1 ∨ k = 2 ∨ k = 3 := by omega
    rcases this with rfl | rfl | rfl | rfl <;> rfl
  · rw [hR.2]
    exact h.mem.kept (Nat.le_trans hsz (by simp)) fun q hf => (hset q (fun e => h.ap (e ▸ hf))).trans (hkeep q (h.mem.fl q hf) (fun e => h.av k hk q e hf))
  · show World.ownsRow _ 0 (tyR i) 3 (if i = k then v' else V i) (R'.len i) (R'.cel i)
    by_cases e : i = k
    · rw [if_pos e, e]
      exact own_kept ho fun q hq => hset q (fun e2 => by
        rcases hn q hq with h3 | h3
        · exact rowblk k hk q h3 e2
        · have := h.pl; omega)
    · rw [if_neg e, (hsame i hi e).1, (hsame i hi e).2]
      exact own_kept (h.rows i hi) fun q hq => (hset q (rowblk i hi q hq)).trans (hkeep q ((h.rows i hi).lt q hq).2 (fun e2 => by
        have := h.apart i k hi hk e (hq.trans e2.symm)
        rw [hq] at this
        cases this))
  · have e : (if a = k then v' else V a).ownBlock = (if b = k then v' else V b).ownBlock := e
    show (if a = k then v' else V a).ownBlock = none
    by_cases e1 : a = k
    · have e2 : b ≠ k := fun e2 => hab (e1.trans e2.symm)
      rw [if_pos e1, if_neg e2] at e
      rw [if_pos e1]
      cases hq : v'.ownBlock with
      | none => rfl
      | some q =>
        rw [hq] at e
        rcases hn q hq with h3 | h3
        · have := h.apart k b hk hb (fun e3 => e2 e3.symm) (h3.trans e)
          rw [h3] at this
          cases this
        · have := ((h.rows b hb).lt q e.symm).2
          omega
    · by_cases e2 : b = k
      · rw [if_neg e1, if_pos e2] at e
        rw [if_neg e1]
        cases hq : (V a).ownBlock with
        | none => rfl
        | some q =>
          rw [hq] at e
          rcases hn q e.symm with h3 | h3
          · have := h.apart a k ha hk e1 (hq.trans h3.symm)
            rw [hq] at this
            cases this
          · have := ((h.rows a ha).lt q hq).2
            omega
      · rw [if_neg e1, if_neg e2] at e
        rw [if_neg e1]
        exact h.apart a b ha hb hab e
  · have hq : (if i = k then v' else V i).ownBlock = some q := hq
    by_cases e1 : i = k
    · rw [if_pos e1] at hq
      rcases hn q hq with h3 | h3
      · exact h.rz k hk q h3
      · exact fun hz => by have := h.zl q hz; omega
    · rw [if_neg e1] at hq
      exact h.rz i hi q hq
  · have hq : (if i = k then v' else V i).ownBlock = some q := hq
    by_cases e1 : i = k
    · rw [if_pos e1] at hq
      rcases hn q hq with h3 | h3
      · exact h.av k hk q h3 hf
      · have := h.mem.fl q hf
        omega
    · rw [if_neg e1] at hq
      exact h.av i hi q hq hf
  · by_cases e : i = k
    · rw [e]; exact hs
    · rw [(hsame i hi e).1]; exact h.small i hi
end
end Go.Proofs.Ytjcbhomfggjmhaa.Mm
namespace Go.Proofs.Ytjcbhomfggjmhaa.Mm
open Go.ChangeShapes Go.WideShapes Go.ChangeAt Go.RowKit Go.Maps
set_option linter.unusedVariables false
theorem info115z : (Try.prog.info? 115).map (fun i => (i.zero, i.size, i.bytes)) = some (some (.agg #[.int .i64 0, .int .u64 0, .int .u32 0]), 3, 24) := by kernel_rfl
def Rs.rdy (R : Rs) (c : Int) (x : Nat) : Nat := if isR R c then (R.at x).2 else 1
def Rs.fill (R : Rs) (c : Int) (x : Nat) : Rs := match lk R.cache c x with
  | some _ => R
  | none => { R with cache := R.cache ++ [⟨c, x, (R.at x).1⟩] }
theorem at_code (R : Rs) (x : Nat) : (R.at x).2 = 0 ∨ (R.at x).2 = 8 := by
  unfold Rs.at
  split
  · exact .inl rfl
  · exact .inr rfl
theorem wpList_append_run' {P : Program} {w : World} {ops : Array Oper} {rest : List Oper} {o : Oper} {a : Act} {Q : Exit → Act → World → Prop} (hgd : o.guard = none) (s x : Operand) (t : TypeId)
    (ho : o.op = .call { callee := .builtin .append, args := #[s, x], argTypes := #[t, t] }) (v v2 v' : Value) (w' : World) (hs : a.eval s = v) (hx : a.eval x = v2)
    (hr : (Builtin.append_ #[t, t] o.type #[v, v2]).run P w = .ok v' w') (h : wpList P ops Q rest (a.put o.dst v') w') : wpList P ops Q (o :: rest) a w := by
  refine wpList_plain hgd fun K hK => ?_
  unfold Oper.wp
  simp only [execOp, ho, resolve, invoke, builtin, Sem.run_bind, Sem.run_pure, Result.andThen_ok, List.map_toArray, List.map_cons, List.map_nil, hs, hx, hr]
  exact hK _ _ h
section
variable {w : World} {lo : Nat → Prop} {p : Nat} {L : Rl} {V : Nat → Value} {R : Rs}
theorem RsC.rowblk (h : RsC w lo p L V R) {i : Nat} (hi : i < 4) {q : Nat} (hq : (V i).ownBlock = some q) : q ≠ p := fun e => by
  obtain ⟨cur, h2⟩ := own_heap (h.rows i hi) hq
  rw [e, h.row] at h2
  injection h2 with h2
  injection h2 with _ h2
  have : ∀ i, tyR i ≠ 85 := fun i => by unfold tyR; split <;> decide
  exact this i h2.symm
set_option maxRecDepth 100000 in
set_option maxHeartbeats 4000000 in
theorem rrefill_c (h : RsC w lo p L V R) (hT : Cfg R.T) (c : Int) {x : Nat} (hx : x < 18446744073709551616) (hs : R.cache.length < 1000000) :
    Calls Try.prog 32 #[.pointer (some ⟨p, 0, none⟩), .int .i64 c, .int .u64 x] w fun e w' => e = .returned (.int .i64 (R.rdy c x : Nat)) ∧ (∃ V', RsC w' lo p L V' (if R.rdy c x = 0 then R.fill c x else R)) ∧ Sv lo w w' := by
  have HI := Lib.hid (is_c h c)
  have HT := Lib.hid (rtold_c h hT hx)
  have H := Lib.hid h
  have HS := Lib.hid hs
  clear h hs
  by_cases hc : isR R c
  · have d : decide (isR R c) = true := decide_eq_true hc
    rw [d] at HI
    have HR : Hid (R.rdy c x = (R.at x).2) := Lib.hid (if_pos hc)
    rw [HR.out]
    clear hc d
    rcases at_code R x with h0 | h8
    · rw [h0] at HT
      rw [h0, if_pos rfl]
      clear h0
      rcases fd_cases R.cache c x with ⟨f1, f2⟩ | ⟨i, hi, f1, f2⟩
      · have HV : Hid (R.fill c x = { R with cache := R.cache ++ [⟨c, x, (R.at x).1⟩] }) := Lib.hid (by unfold Rs.fill; rw [f2])
        have F1 := Lib.hid f1
        rw [HV.out]
        clear f1 f2
        obtain ⟨u, hu⟩ : ∃ u, (R.at x).1 = u := ⟨_, rfl⟩
        rw [hu] at HT ⊢
        clear hu HV
        go_enter Try.func32, Try.ntmps32
        go_upto_region 7 with (first
          | (go_at_call 63; refine HI.out.mono ?_; rintro e w1 ⟨rfl, h1⟩; obtain rfl := h1.symm)
          | (go_at_call 47; refine HT.out.mono ?_; rintro e w2 ⟨rfl, hb⟩; have HB := Lib.hid hb; have H2 := Lib.hid (H.out.past hb); obtain ⟨_, _, _, c3, _⟩ := H2.out.cells; have HFD := Lib.hid (find_c _ _ _ _ H2.out.row1 (H2.out.small 1 (by omega)) c x); rw [F1.out] at HFD; clear hb)
          | (go_at_call 64; refine HFD.out.mono ?_; rintro e w3 ⟨rfl, h1⟩; obtain rfl := h1.symm))
        obtain ⟨i0, hi, hz0, hz1, hz2⟩ := info_parts info115z
        have hW : Below w2.heap.size w2 (w2.alloc (.cells #[.int .i64 c, .int .u64 (x : Nat), .int .u32 (u : Nat)] 115)) := (Below.refl _ _).alloc (Nat.le_refl _) _
        have HOx := Lib.hid (H2.out.past hW)
        have HN : Hid (∀ q u', ([.int .i64 c, .int .u64 (x : Nat), .int .u32 (u : Nat)] : List Value)[q]? = some u' → (w2.alloc (.cells #[.int .i64 c, .int .u64 (x : Nat), .int .u32 (u : Nat)] 115)).cell? ((⟨w2.heap.size, 0, none⟩ : Addr).add q) = some u') := Lib.hid (fun q u' hu => by
          have : (⟨w2.heap.size, 0, none⟩ : Addr).add q = ⟨w2.heap.size, q, none⟩ := by unfold Addr.add; split <;> simp_all
          rw [this, World.cell?_alloc_at _ _ _ _ rfl, ← Array.getElem?_toList]
          exact hu)
        have HBx : Hid (Sv lo w _) := Lib.hid ((Sv.of HB.out).trans (Sv.of hW))
        have hlen := HS.out
        clear hW
        obtain ⟨v', w4, hr, ho, hg, _, hloc⟩ := run_append_own_at (P := Try.prog) (w2.alloc (.cells #[.int .i64 c, .int .u64 (x : Nat), .int .u32 (u : Nat)] 115)) 0 82 82 115 i0 _ 3 24 Try.underlying82 hi hz0 hz1 hz2 rfl (by decide) (V 1) R.cache.length (clL R.cache) HOx.out.row1 ⟨w2.heap.size, 0, none⟩ 1 1 [.int .i64 c, .int .u64 (x : Nat), .int .u32 (u : Nat)] rfl HN.out (clL_one [⟨c, x, u⟩]) (by unfold maxLen; omega) (by omega) (Nat.zero_le _)
        have hp4 := (hg.block p HOx.out.pl (fun e => HOx.out.rowblk (i := 1) (by omega) e.symm rfl)).trans HOx.out.row
        have HNE : Hid (∀ q, v'.ownBlock = some q → (V 1).ownBlock = some q ∨ (w2.alloc (.cells #[.int .i64 c, .int .u64 (x : Nat), .int .u32 (u : Nat)] 115)).heap.size ≤ q) := Lib.hid (fun q hq => hloc.elim (fun h1 => .inl (h1.symm.trans hq)) (fun h1 => .inr (by rw [h1] at hq; injection hq with hq; omega)))
        obtain ⟨a5, cp5, hv5, _⟩ := own_form HOx.out.row1
        have c3b : w4.cell? ⟨p, 3, none⟩ = some (.slice a5 R.cache.length cp5) := by
          unfold World.cell?
          rw [hp4]
          show some (V 1) = _
          rw [hv5]
        have f3b : w4.frozen? ⟨p, 3, none⟩ = false := Lab.rowAt_frz (Lab.rowAt_of hp4) 3
        obtain ⟨a4, cp4, hv4, _⟩ := own_form ho
        subst hv4
        have HO4 := Lib.hid ho
        have HG4 := Lib.hid hg
        have HR4 := Lib.hid hr
        clear ho hg hr hp4 hloc hv5
        go_wp2_with (at_builtin; refine wpList_append_run' rfl _ _ _ rfl _ _ _ _ rfl rfl HR4.out ?_)
        go_ret
        refine ⟨rfl, ⟨_, HOx.out.put (k := 1) (R' := ({ R with cache := R.cache ++ [Cl.mk c x u] } : Rs)) (by omega) HG4.out.size (fun q hq hne => HG4.out.block q hq (fun e => hne e.symm)) ?_ HNE.out ⟨rfl, rfl⟩ (fun i hi hik => ?_) ?_⟩, ?_⟩
        · show World.ownsRow _ 0 115 3 _ (R.cache ++ [Cl.mk c x u]).length (clL (R.cache ++ [Cl.mk c x u]))
          rw [clL_app, List.length_append]
          exact HO4.out
        · have : i = 0 ∨ i = 2 ∨ i = 3 := by omega
          rcases this with rfl | rfl | rfl <;> exact ⟨rfl, rfl⟩
        · show (R.cache ++ [Cl.mk c x u]).length ≤ 1000000
          rw [List.length_append]
          show R.cache.length + 1 ≤ _
          omega
        · exact (HBx.out.grown HG4.out (fun q hq => HOx.out.rz 1 (by omega) q hq)).setCell H.out.lp _
      · have HV : Hid (R.fill c x = R) := Lib.hid (by unfold Rs.fill; rw [f2])
        have F1 := Lib.hid f1
        rw [HV.out]
        have gi : ¬ (i : Int) < 0 := by omega
        clear f1 f2
        go_enter Try.func32, Try.ntmps32
        go_wp2_with (first
          | (go_at_call 63; refine HI.out.mono ?_; rintro e w1 ⟨rfl, h1⟩; obtain rfl := h1.symm)
          | (go_at_call 47; refine HT.out.mono ?_; rintro e w2 ⟨rfl, hb⟩; have HB := Lib.hid hb; have H2 := Lib.hid (H.out.past hb); obtain ⟨_, _, _, c3, _⟩ := H2.out.cells; have HFD := Lib.hid (find_c _ _ _ _ H2.out.row1 (H2.out.small 1 (by omega)) c x); rw [F1.out] at HFD; clear hb)
          | (go_at_call 64; refine HFD.out.mono ?_; rintro e w3 ⟨rfl, h1⟩; obtain rfl := h1.symm))
        go_ret
        exact ⟨rfl, ⟨V, H2.out⟩, Sv.of HB.out⟩
    · rw [h8] at HT
      rw [h8, if_neg (by decide)]
      clear h8
      go_enter Try.func32, Try.ntmps32
      go_wp2_with (first
        | (go_at_call 63; refine HI.out.mono ?_; rintro e w1 ⟨rfl, h1⟩; obtain rfl := h1.symm)
        | (go_at_call 47; refine HT.out.mono ?_; rintro e w2 ⟨rfl, hb⟩; have HB := Lib.hid hb; have H2 := Lib.hid (H.out.past hb); clear hb))
      go_ret
      exact ⟨rfl, ⟨V, H2.out⟩, Sv.of HB.out⟩
  · have d : decide (isR R c) = false := decide_eq_false hc
    rw [d] at HI
    have HR : Hid (R.rdy c x = 1) := Lib.hid (if_neg hc)
    rw [HR.out, if_neg (by decide)]
    clear hc d
    go_enter Try.func32, Try.ntmps32
    go_wp2_with (go_at_call 63; refine HI.out.mono ?_; rintro e w1 ⟨rfl, h1⟩; obtain rfl := h1.symm)
    go_ret
    exact ⟨rfl, ⟨V, H.out⟩, Sv.refl _ _⟩
end
end Go.Proofs.Ytjcbhomfggjmhaa.Mm
