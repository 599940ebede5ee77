import Derived.Test.YtnmgafaebggeiaaSp
namespace Go.Proofs.Ytnmgafaebggeiaa.St
open Go.ChangeShapes Go.WideShapes Go.ChangeAt Go.RowKit Go.Maps
set_option linter.unusedVariables false
/-! ### Clocks along the threads -/
def Ck.comp (x : Ck) (k : Nat) : Int := if k = 0 then x.a else if k = 1 then x.b else if k = 2 then x.c else x.d
def Ck.le (x y : Ck) : Prop := ∀ k, k < 4 → x.comp k ≤ y.comp k
theorem Ck.le_refl (x : Ck) : x.le x := fun k _ => Int.le_refl _
theorem Ck.le_trans {x y z : Ck} (h : x.le y) (h' : y.le z) : x.le z := fun k hk => Int.le_trans (h k hk) (h' k hk)
theorem join_comp (x y : Ck) (k : Nat) : (x.join y).comp k = max (x.comp k) (y.comp k) := by
  unfold Ck.comp Ck.join
  repeat' split
  all_goals rfl
theorem tick_same (x : Ck) {k : Nat} (hk : k < 4) : (x.tick k).comp k = wrap64 (x.comp k + 1) := by
  unfold Ck.comp Ck.tick
  rcases k with _ | _ | _ | _ | k
  · simp
  · simp
  · simp
  · simp
  · omega
theorem tick_other (x : Ck) {k j : Nat} (hk : k < 4) (hj : j < 4) (h : j ≠ k) : (x.tick k).comp j = x.comp j := by
  unfold Ck.comp Ck.tick
  rcases k with _ | _ | _ | _ | k <;> rcases j with _ | _ | _ | _ | j <;> first | omega | simp
def Low (S : St) (x : Ck) : Prop := ∀ k, k < 4 → 0 ≤ x.comp k ∧ x.comp k ≤ S.gone k
structure RowOk (F : Fx) : Prop where
  u : ∀ k k' j j' i : Nat, k < 4 → k' < 4 → (F.rows k)[j]? = some i → (F.rows k')[j']? = some i → k = k' ∧ j = j'
  l : ∀ k, k < 4 → (F.rows k).length ≤ 150
structure Inv (F : Fx) (S : St) : Prop where
  g : ∀ k, k < 4 → S.gone k ≤ (F.rows k).length
  bn : ∀ j, Low S (S.now j)
  bb : ∀ j, Low S (S.beg j)
  be : ∀ o, Low S (S.ex o)
  bw : ∀ o s, Low S (S.wr o s)
  bo : ∀ i, Low S (S.out i)
  own : ∀ k, k < 4 → 0 < S.gone k → (S.now k).comp k = S.gone k
  ev : ∀ k, k < 4 → ∀ j i, j < S.gone k → (F.rows k)[j]? = some i → (S.out i).comp k = j + 1 ∧ (S.out i).le (S.now k)
  up : ∀ k, k < 4 → ∀ j j' i i', j < j' → j' < S.gone k → (F.rows k)[j]? = some i → (F.rows k)[j']? = some i' → (S.out i).le (S.out i')
  ne : ∀ k k' j j' i i', k < 4 → k' < 4 → j < S.gone k → j' < S.gone k' → (F.rows k)[j]? = some i → (F.rows k')[j']? = some i' → i ≠ i' → S.out i ≠ S.out i'
theorem Inv.bef {F : Fx} {S : St} (h : Inv F S) {k : Nat} (hk : k < 4) : Low S (S.bef k) ∧ (S.bef k).comp k = S.gone k ∧ (0 < S.gone k → S.bef k = S.now k) := by
  have h1 : Low S (S.bef k) := by
    unfold St.bef
    split
    · exact h.bb k
    · exact h.bn k
  have h3 : 0 < S.gone k → S.bef k = S.now k := fun hg => by
    unfold St.bef
    rw [if_neg (fun e => by omega)]
  refine ⟨h1, ?_, h3⟩
  by_cases hg : 0 < S.gone k
  · rw [h3 hg]
    exact h.own k hk hg
  · have := h1 k hk
    omega
theorem Inv.mark {F : Fx} {S : St} (hF : RowOk F) (h : Inv F S) {k i : Nat} (hk : k < 4) (hi : (F.rows k)[S.gone k]? = some i) {x : Ck} (hx : Low S x) : Inv F (S.mark i k (((S.bef k).join x).tick k)) ∧ Low (S.mark i k (((S.bef k).join x).tick k)) (((S.bef k).join x).tick k) := by
  obtain ⟨b1, b2, b3⟩ := h.bef hk
  have hgl : S.gone k < (F.rows k).length := (List.getElem?_eq_some_iff.1 hi).1
  have hl := hF.l k hk
  obtain ⟨c, hc⟩ : ∃ c, ((S.bef k).join x).tick k = c := ⟨_, rfl⟩
  rw [hc]
  have ck : c.comp k = S.gone k + 1 := by
    rw [← hc, tick_same _ hk, join_comp, b2]
    have := (hx k hk).2
    rw [show max ((S.gone k : Nat) : Int) (x.comp k) = S.gone k by omega]
    unfold wrap64
    omega
  have cj : ∀ j, j < 4 → j ≠ k → c.comp j = max ((S.bef k).comp j) (x.comp j) := fun j hj hne => by
    rw [← hc, tick_other _ hk hj hne, join_comp]
  have gk : (S.mark i k c).gone k = S.gone k + 1 := upd_same _ _ _
  have gj : ∀ j, j ≠ k → (S.mark i k c).gone j = S.gone j := fun j hne => upd_ne _ _ hne
  have up : ∀ y, Low S y → Low (S.mark i k c) y := fun y hy j hj => by
    have := hy j hj
    by_cases e : j = k
    · subst e
      rw [gk]
      omega
    · rw [gj j e]
      exact this
  have lc : Low (S.mark i k c) c := fun j hj => by
    by_cases e : j = k
    · subst e
      rw [gk, ck]
      omega
    · rw [gj j e, cj j hj e]
      have := b1 j hj
      have := hx j hj
      omega
  have bc : (S.bef k).le c := fun j hj => by
    by_cases e : j = k
    · subst e
      rw [ck, b2]
      omega
    · rw [cj j hj e]
      omega
  have oi : (S.mark i k c).out i = c := upd_same _ _ _
  have on : ∀ q, q ≠ i → (S.mark i k c).out q = S.out q := fun q hq => upd_ne _ _ hq
  have nk : (S.mark i k c).now k = c := upd_same _ _ _
  have nj : ∀ j, j ≠ k → (S.mark i k c).now j = S.now j := fun j hj => upd_ne _ _ hj
  -- an event that was stamped before is another one
  have old : ∀ k2 j q, k2 < 4 → j < S.gone k2 → (F.rows k2)[j]? = some q → q ≠ i := fun k2 j q hk2 hj hq e => by
    subst e
    obtain ⟨e1, e2⟩ := hF.u k2 k j (S.gone k) q hk2 hk hq hi
    subst e1
    omega
  have split : ∀ k2 j q, k2 < 4 → j < (S.mark i k c).gone k2 → (F.rows k2)[j]? = some q → (k2 = k ∧ j = S.gone k ∧ q = i) ∨ (j < S.gone k2 ∧ q ≠ i) := fun k2 j q hk2 hj hq => by
    by_cases e : k2 = k
    · subst e
      rw [gk] at hj
      by_cases e2 : j = S.gone k2
      · subst e2
        rw [hi] at hq
        injection hq with hq
        exact .inl ⟨rfl, rfl, hq.symm⟩
      · have hj' : j < S.gone k2 := by omega
        exact .inr ⟨hj', old _ _ _ hk2 hj' hq⟩
    · rw [gj k2 e] at hj
      exact .inr ⟨hj, old _ _ _ hk2 hj hq⟩
  have newne : ∀ k2 j q, k2 < 4 → j < S.gone k2 → (F.rows k2)[j]? = some q → S.out q ≠ c := fun k2 j q hk2 hj hq e => by
    have := (h.bo q k hk).2
    rw [e, ck] at this
    omega
  refine ⟨⟨fun j hj => ?_, fun j => ?_, fun j => up _ (h.bb j), fun o => up _ (h.be o), fun o s => up _ (h.bw o s), fun q => ?_, fun j hj hg => ?_, fun k2 hk2 j q hj hq => ?_, fun k2 hk2 j j' q q' hjj hj' hq hq' => ?_, fun k2 k3 j j' q q' hk2 hk3 hj hj' hq hq' hne => ?_⟩, lc⟩
  · by_cases e : j = k
    · subst e
      rw [gk]
      omega
    · rw [gj j e]
      exact h.g j hj
  · by_cases e : j = k
    · subst e
      rw [nk]
      exact lc
    · rw [nj j e]
      exact up _ (h.bn j)
  · by_cases e : q = i
    · subst e
      rw [oi]
      exact lc
    · rw [on q e]
      exact up _ (h.bo q)
  · by_cases e : j = k
    · subst e
      rw [nk, gk, ck]
      rfl
    · rw [nj j e, gj j e]
      rw [gj j e] at hg
      exact h.own j hj hg
  · rcases split k2 j q hk2 hj hq with ⟨rfl, rfl, rfl⟩ | ⟨hj0, hqi⟩
    · rw [oi, nk, ck]
      exact ⟨rfl, c.le_refl⟩
    · rw [on q hqi]
      obtain ⟨h1, h2⟩ := h.ev k2 hk2 j q hj0 hq
      refine ⟨h1, ?_⟩
      by_cases e : k2 = k
      · subst e
        rw [nk]
        rw [← b3 (by omega)] at h2
        exact Ck.le_trans h2 bc
      · rw [nj k2 e]
        exact h2
  · rcases split k2 j' q' hk2 hj' hq' with ⟨rfl, rfl, rfl⟩ | ⟨hj0, hqi⟩
    · rw [oi, on q (old _ _ _ hk2 hjj hq)]
      have h2 := (h.ev k2 hk2 j q hjj hq).2
      rw [← b3 (by omega)] at h2
      exact Ck.le_trans h2 bc
    · rw [on q' hqi, on q (old _ _ _ hk2 (Nat.lt_trans hjj hj0) hq)]
      exact h.up k2 hk2 j j' q q' hjj hj0 hq hq'
  · rcases split k2 j q hk2 hj hq with ⟨rfl, rfl, rfl⟩ | ⟨hj0, hqi⟩
    · rcases split k3 j' q' hk3 hj' hq' with ⟨rfl, rfl, rfl⟩ | ⟨hj0, hqi⟩
      · exact absurd rfl hne
      · rw [oi, on q' hqi]
        exact (newne _ _ _ hk3 hj0 hq').symm
    · rcases split k3 j' q' hk3 hj' hq' with ⟨rfl, rfl, rfl⟩ | ⟨hj1, hqi'⟩
      · rw [oi, on q hqi]
        exact newne _ _ _ hk2 hj0 hq
      · rw [on q hqi, on q' hqi']
        exact h.ne k2 k3 j j' q q' hk2 hk3 hj0 hj1 hq hq' hne
theorem zero_low (S : St) : Low S Ck.zero := fun k hk => by
  have : Ck.zero.comp k = 0 := by simp [Ck.comp, Ck.zero]
  rw [this]
  omega
theorem Inv.kind {F : Fx} {S : St} (h : Inv F S) (e : Ev) (b : Bool) {c : Ck} (hc : Low S c) : Inv F (S.kind e b c) := by
  unfold St.kind
  split
  · exact ⟨h.g, h.bn, h.bb, fun o => by show Low S (if o = e.ob then c else S.ex o); split; exact hc; exact h.be o, h.bw, h.bo, h.own, h.ev, h.up, h.ne⟩
  · split
    · exact ⟨h.g, h.bn, h.bb, h.be, fun o s => by show Low S (if o = e.ob ∧ s = e.sl then c else S.wr o s); split; exact hc; exact h.bw o s, h.bo, h.own, h.ev, h.up, h.ne⟩
    · split
      · exact ⟨h.g, h.bn, fun j => by show Low S (upd S.beg e.va.toNat c j); unfold upd; split; exact hc; exact h.bb j, h.be, h.bw, h.bo, h.own, h.ev, h.up, h.ne⟩
      · exact h
theorem Inv.plain {F : Fx} (hF : RowOk F) {k : Nat} (hk : k < 4) : ∀ (n : Nat) {S : St}, Inv F S → Inv F (S.plain F k n)
  | 0, S, h => h
  | n + 1, S, h => by
    unfold St.plain
    split
    · next i hi =>
      split
      · exact h
      · exact Inv.plain hF hk n (h.mark hF hk hi (zero_low S)).1
    · exact h
theorem plain_keeps (F : Fx) (v : Nat) : ∀ (n : Nat) (S : St), (∀ k, k ≠ v → (S.plain F v n).bef k = S.bef k ∧ (S.plain F v n).gone k = S.gone k) ∧ F.dl v ((S.plain F v n).gone v) = F.dl v (S.gone v)
  | 0, S => ⟨fun k _ => ⟨rfl, rfl⟩, rfl⟩
  | n + 1, S => by
    unfold St.plain
    split
    · next i hi =>
      split
      · exact ⟨fun k _ => ⟨rfl, rfl⟩, rfl⟩
      · next hs =>
        obtain ⟨h1, h2⟩ := plain_keeps F v n (S.mark i v (S.nx v))
        refine ⟨fun k hk => ⟨(h1 k hk).1.trans ?_, (h1 k hk).2.trans (upd_ne _ _ hk)⟩, h2.trans ?_⟩
        · unfold St.bef
          show (if upd S.gone v _ k = 0 ∧ k ≠ 0 then S.beg k else upd S.now v _ k) = _
          rw [upd_ne _ _ hk, upd_ne _ _ hk]
        · show F.dl v (upd S.gone v (S.gone v + 1) v) = _
          rw [upd_same, F.dl_step hi, if_neg hs, List.append_nil]
    · exact ⟨fun k _ => ⟨rfl, rfl⟩, rfl⟩
theorem Inv.stamp {F : Fx} (hF : RowOk F) {S : St} (h : Inv F S) {k i : Nat} (hk : k < 4) (hi : (F.rows k)[S.gone k]? = some i) (hth : (F.X i).th = (k : Nat)) : Inv F (S.stamp F i k) ∧ (S.stamp F i k).gone k = S.gone k + 1 ∧ ∀ j, j ≠ k → F.dl j ((S.stamp F i k).gone j) = F.dl j (S.gone j) := by
  unfold St.stamp
  split
  · next hj =>
    obtain ⟨v, hv⟩ : ∃ v, v = (F.X i).va.toNat := ⟨_, rfl⟩
    rw [← hv]
    have hv4 : v < 4 := by have := hj.2.2.1; have := hj.2.1; omega
    have hvk : k ≠ v := by have := hj.2.2.2; rw [hth] at this; have := hj.2.1; omega
    obtain ⟨p1, p2⟩ := plain_keeps F v ((F.rows v).length - S.gone v) S
    have hI := h.plain hF hv4 ((F.rows v).length - S.gone v)
    have hgk := (p1 k hvk).2
    have hm := hI.mark hF hk (by rw [hgk]; exact hi) (hI.bn v)
    rw [(p1 k hvk).1] at hm
    refine ⟨hm.1, ?_, fun j hjk => ?_⟩
    · show upd _ k _ k = _
      rw [upd_same, hgk]
    · show F.dl j (upd _ k _ j) = _
      rw [upd_ne _ _ hjk]
      by_cases e : j = v
      · subst e
        exact p2
      · rw [(p1 j e).2]
  · have hx : Low S (S.jn (F.X i) (F.sy i)) := by
      unfold St.jn
      split
      · exact h.be _
      · split
        · exact h.bw _ _
        · exact zero_low S
    have hm := h.mark hF hk hi hx
    have hg : ∀ (T : St) (e : Ev) (b : Bool) (c : Ck), (T.kind e b c).gone = T.gone := fun T e b c => by
      unfold St.kind
      repeat' split
      all_goals rfl
    refine ⟨hm.1.kind _ _ hm.2, ?_, fun j hjk => ?_⟩
    · rw [hg]
      exact upd_same _ _ _
    · rw [hg]
      show F.dl j (upd _ k _ j) = _
      rw [upd_ne _ _ hjk]
end Go.Proofs.Ytnmgafaebggeiaa.St
