import Derived.Test.YtnbpgoacooddjaaId
namespace Go.Proofs.Ytnbpgoacooddjaa.Mm
open Go.ChangeShapes Go.WideShapes Go.ChangeAt Go.RowKit Go.Maps
set_option linter.unusedVariables false
/-- One element of a row of one-cell elements is laid anew. -/
theorem own_set1 {w : World} {base n g cap j : Nat} {e : TypeId} {f : Nat → Value} (h : w.ownsRow base e 1 (.slice (some ⟨g, 0, none⟩) n cap) n ((List.range n).map f)) (hj : j < n) (v : Value) :
    (w.setCell ⟨g, j, none⟩ v).ownsRow base e 1 (.slice (some ⟨g, 0, none⟩) n cap) n ((List.range n).map fun i => if i = j then v else f i) := by
  rcases h.2 with ⟨h1, _⟩ | ⟨g', cap', cur, hv, hb, hg, hc, hm, hs, ht⟩
  · cases h1
  · injection hv with e1 e2 e3
    injection e1 with e1
    injection e1 with e1
    subst e1 e3
    refine ⟨by simp, .inr ⟨g, cap, cur.setIfInBounds j v, rfl, hb, ?_, hc, hm, by simp [hs], ?_⟩⟩
    · rw [setCell_eq_setRow w g j cur e (0, 0) v hg]
      exact setRow_heap _ _ _ _ _ _ hg
    · rw [Array.toList_setIfInBounds, Nat.mul_one] at *
      apply List.ext_getElem?
      intro i
      rw [List.getElem?_take]
      by_cases hi : i < n
      · rw [if_pos hi, List.getElem?_map, List.getElem?_range hi, List.getElem?_set]
        have hci : cur.toList[i]? = some (f i) := by
          have := congrArg (fun l => l[i]?) ht
          simp only [List.getElem?_take, if_pos hi, List.getElem?_map, List.getElem?_range hi] at this
          exact this
        by_cases hij : j = i
        · subst hij
          rw [if_pos rfl, if_pos (by rw [Array.length_toList]; omega)]
          simp
        · rw [if_neg hij, hci]
          simp [Ne.symm hij]
      · rw [if_neg hi, List.getElem?_eq_none (by simp; omega)]
section
variable {w w1 : World} {lo p : Nat} {L : Pl} {V : Nat → Value} {S : Sd}
/-- One row of what waits has turned, and is laid in its place. -/
theorem SdC.setW (h : SdC w lo p L V S) {c : Nat} (hc : c < S.n) {v' : Value} {l' : List (Int × Nat)} (hg : w.grownBy w1 (V c).ownBlock) (ho : w1.ownsRow lo 204 2 v' l'.length (invL l')) (hn : ∀ q, v'.ownBlock = some q → (V c).ownBlock = some q ∨ w.heap.size ≤ q) :
    SdC (w1.setCell ⟨L.wb, c, none⟩ v') lo p L (fun d => if d = c then v' else V d) { S with Wt := fun d => if d = c then l' else S.Wt d } ∧ Below lo w (w1.setCell ⟨L.wb, c, none⟩ v') := by
  have hset : ∀ q, q ≠ L.wb → (w1.setCell ⟨L.wb, c, none⟩ v').heap[q]? = w1.heap[q]? := fun q hq => Below.heap_setCell _ _ _ _ hq
  have hkeep : ∀ q, q < w.heap.size → (V c).ownBlock ≠ some q → w1.heap[q]? = w.heap[q]? := fun q hq hne => hg.block q hq fun e => hne e.symm
  have hwb : ∃ cur, w.heap[L.wb]? = some (.cells cur 202 (0, 0)) := own_heap h.wr rfl
  have hV : ∀ q, (V c).ownBlock = some q → ∃ cur, w.heap[q]? = some (.cells cur 204 (0, 0)) := fun q hq => own_heap (h.rows c hc) hq
  have nocell : ∀ {q : Nat} {cur : Array Value} {e : TypeId}, w.heap[q]? = some (.cells cur e (0, 0)) → e ≠ 204 → (V c).ownBlock ≠ some q := fun hq hne e => by
    obtain ⟨cur, h2⟩ := hV _ e
    rw [hq] at h2
    injection h2 with h2
    injection h2 with _ h2
    exact hne h2
  have nomap : ∀ {q : Nat} {es : Array MapEntry} {k : Nat}, w.heap[q]? = some (.map es k) → (V c).ownBlock ≠ some q ∧ q ≠ L.wb := fun hq => ⟨fun e => (by
    obtain ⟨cur, h2⟩ := hV _ e
    rw [hq] at h2
    cases h2), fun e => (by
    obtain ⟨cur, h2⟩ := hwb
    rw [← e, hq] at h2
    cases h2)⟩
  obtain ⟨_, _, hc1⟩ := h.mc.heap
  obtain ⟨_, _, hh1⟩ := h.mh.heap
  obtain ⟨curw, hwb⟩ := hwb
  have hpw : p ≠ L.wb := fun e => by
    have := h.row
    rw [e, hwb] at this
    injection this with this
    injection this with _ this
    exact absurd this (by decide)
  have hw1 : w1.ownsRow lo 202 1 (.slice (some ⟨L.wb, 0, none⟩) S.n S.n) S.n ((List.range S.n).map V) := own_kept h.wr fun q hq => by injection hq with hq; subst hq; exact hkeep _ h.lw.2 (nocell hwb (by decide))
  have rowblk : ∀ d, d < S.n → ∀ q, (V d).ownBlock = some q → q ≠ L.wb := fun d hd q hq e => by
    obtain ⟨cur, h2⟩ := own_heap (h.rows d hd) hq
    rw [e, hwb] at h2
    injection h2 with h2
    injection h2 with _ h2
    exact absurd h2 (by decide)
  refine ⟨⟨?_, ?_, h.cfg, h.mc.kept ((hset _ (nomap hc1).2).trans (hkeep _ h.mc.lt (nomap hc1).1)), h.mh.kept ((hset _ (nomap hh1).2).trans (hkeep _ h.mh.lt (nomap hh1).1)), own_set1 hw1 hc v', fun d hd => ?_, fun a b ha hb hab e => ?_, h.ne, h.lp, h.lc, h.lh, h.lt, h.ap, fun d hd q hq hf => ?_, h.n4⟩, ?_⟩
  · exact (hset p hpw).trans ((hkeep p h.pl (nocell h.row (by decide))).trans h.row)
  · exact h.told.kept (Nat.le_trans hg.size (by simp)) fun k hf => (hset k (fun e => h.ap.2.2.2 (e ▸ hf))).trans (hkeep k (h.told.fl k hf) (fun e => h.av c hc k e hf))
  · show World.ownsRow _ lo 204 2 (if d = c then v' else V d) (if d = c then l' else S.Wt d).length (invL (if d = c then l' else S.Wt d))
    by_cases e : d = c
    · rw [if_pos e, if_pos e]
      exact own_kept ho fun q hq => hset q (fun e2 => by
        rcases hn q hq with h3 | h3
        · exact rowblk c hc q h3 e2
        · have := h.lw.2; omega)
    · rw [if_neg e, if_neg e]
      exact own_kept (h.rows d hd) fun q hq => (hset q (rowblk d hd q hq)).trans (hkeep q ((h.rows d hd).lt q hq).2 (fun e2 => by
        have := h.apart d c hd hc e (hq.trans e2.symm)
        rw [hq] at this
        cases this))
  · have e : (if a = c then v' else V a).ownBlock = (if b = c then v' else V b).ownBlock := e
    show (if a = c then v' else V a).ownBlock = none
    by_cases e1 : a = c
    · have e2 : b ≠ c := fun e2 => hab (e1.trans e2.symm)
      rw [if_pos e1, if_neg e2] at e
      rw [if_pos e1]
      cases hq : v'.ownBlock with
      | none => rfl
      | some q =>
        rw [hq] at e
        rcases hn q hq with h3 | h3
        · have := h.apart c b hc hb (fun e3 => e2 e3.symm) (h3.trans e)
          rw [h3] at this
          cases this
        · have := ((h.rows b hb).lt q e.symm).2
          omega
    · by_cases e2 : b = c
      · rw [if_neg e1, if_pos e2] at e
        rw [if_neg e1]
        cases hq : (V a).ownBlock with
        | none => rfl
        | some q =>
          rw [hq] at e
          rcases hn q e.symm with h3 | h3
          · have := h.apart a c ha hc e1 (hq.trans h3.symm)
            rw [hq] at this
            cases this
          · have := ((h.rows a ha).lt q hq).2
            omega
      · rw [if_neg e1, if_neg e2] at e
        rw [if_neg e1]
        exact h.apart a b ha hb hab e
  · have hq : (if d = c then v' else V d).ownBlock = some q := hq
    by_cases e1 : d = c
    · rw [if_pos e1] at hq
      rcases hn q hq with h3 | h3
      · exact h.av c hc q h3 hf
      · have := h.told.fl q hf
        omega
    · rw [if_neg e1] at hq
      exact h.av d hd q hq hf
  · exact ((Below.refl lo w).grown hg h.los (fun q hq => ((h.rows c hc).lt q hq).1)).setCell h.lw.1 _
def Sd.waitN (S : Sd) (c : Int) : Nat := if isC S c then (S.Wt c.toNat).length else 0
theorem waiting_c (h : SdC w lo p L V S) (c : Int) : Calls Try.prog 54 #[.pointer (some ⟨p, 0, none⟩), .int .i64 c] w fun e w' => e = .returned (.int .i64 (S.waitN c : Nat)) ∧ w' = w := by
  have HI := Lib.hid (isCore_c h c)
  by_cases hc : isC S c
  · have hl : c.toNat < S.n := by unfold isC at hc; omega
    obtain ⟨k, rfl⟩ := Int.eq_ofNat_of_zero_le hc.1
    have hl : k < S.n := hl
    have c4 := h.cells.2.2.2.2
    have cw := (h.wcell hl).1
    have HR : Hid (S.waitN (k : Int) = (S.Wt k).length) := Lib.hid (if_pos hc)
    obtain ⟨a, cp, hv, _⟩ := own_form (h.rows k hl)
    have d : decide (isC S (k : Int)) = true := decide_eq_true hc
    have gk : (k : Int) < S.n := by omega
    rw [d] at HI
    rw [hv] at cw
    clear h hc d hv
    go_enter Try.func54, Try.ntmps54
    go_wp2_with (go_at_call 135; refine HI.out.mono ?_; rintro e w1 ⟨rfl, rfl⟩)
    go_ret
    exact ⟨by rw [HR.out]; rfl, rfl⟩
  · have HR : Hid (S.waitN c = 0) := Lib.hid (if_neg hc)
    have d : decide (isC S c) = false := decide_eq_false hc
    rw [d] at HI
    clear h hc d
    go_enter Try.func54, Try.ntmps54
    go_wp2_with (go_at_call 135; refine HI.out.mono ?_; rintro e w1 ⟨rfl, rfl⟩)
    go_ret
    exact ⟨by rw [HR.out]; rfl, rfl⟩
end
end Go.Proofs.Ytnbpgoacooddjaa.Mm
