import Derived.Test.YtnmgafaebggeiaaTc
import Derived.Test.YtnmgafaebggeiaaSr
namespace Go.Proofs.Ytnmgafaebggeiaa.St
open Go.ChangeShapes Go.WideShapes Go.ChangeAt Go.RowKit Go.Maps
set_option linter.unusedVariables false
/-! ### Every event has its clock at the end -/
def thF (F : Fx) (k : Nat) (i : Nat) : Bool := decide ((F.X i).th = (k : Nat))
theorem plain_stops (F : Fx) (k : Nat) : ∀ (n : Nat) (S : St), (F.rows k).length - S.gone k ≤ n → ∀ i, (F.rows k)[(S.plain F k n).gone k]? = some i → F.sy i = true
  | 0, S, hn, i, hi => by
    have : (F.rows k)[S.gone k]? = some i := hi
    have := (List.getElem?_eq_some_iff.1 this).1
    omega
  | n + 1, S, hn, i, hi => by
    unfold St.plain at hi
    split at hi
    · next j hj =>
      split at hi
      · next hs =>
        rw [hj] at hi
        injection hi with hi
        exact hi ▸ hs
      · refine plain_stops F k n (S.mark j k (S.nx k)) ?_ i hi
        show (F.rows k).length - upd S.gone k (S.gone k + 1) k ≤ n
        rw [upd_same]
        have := (List.getElem?_eq_some_iff.1 hj).1
        omega
    · next hj =>
      rw [hj] at hi
      cases hi
theorem dl_split (F : Fx) (k g : Nat) : (F.rows k).filter F.sy = F.dl k g ++ ((F.rows k).drop g).filter F.sy := by
  unfold Fx.dl
  rw [← List.filter_append, List.take_append_drop]
theorem next_is {F : Fx} {k g i : Nat} {p r : List Nat} (hstop : ∀ j, (F.rows k)[g]? = some j → F.sy j = true) (hd : F.dl k g = p) (hl : (F.rows k).filter F.sy = p ++ i :: r) : (F.rows k)[g]? = some i := by
  rw [dl_split F k g, hd] at hl
  have h1 : ((F.rows k).drop g).filter F.sy = i :: r := List.append_cancel_left hl
  cases hdr : (F.rows k).drop g with
  | nil => rw [hdr] at h1; cases h1
  | cons y ys =>
    have hy : (F.rows k)[g]? = some y := by
      have : ((F.rows k).drop g)[0]? = some y := by rw [hdr]; rfl
      rwa [List.getElem?_drop, Nat.add_zero] at this
    rw [hdr, List.filter_cons, if_pos (hstop y hy)] at h1
    injection h1 with h1
    rw [hy, h1]
theorem rows_sy (F : Fx) {l : List Nat} (hg : F.good) (hp : l.Perm (F.syl 4)) (hs : l.Pairwise fun i j => F.tm i < F.tm j) (hr : ∀ k, k < 4 → ∀ i ∈ F.rows k, (F.X i).th = (k : Nat)) {k : Nat} (hk : k < 4) : l.filter (thF F k) = (F.rows k).filter F.sy := by
  have hs4 : (F.syl 4).filter (thF F k) = (F.rows k).filter F.sy := by
    have h1 : ∀ r, r ≤ 4 → (F.syl r).filter (thF F k) = if k < r then (F.rows k).filter F.sy else [] := fun r => by
      induction r with
      | zero => intro _; rfl
      | succ r ih =>
        intro hr4
        rw [F.syl_step, List.filter_append, ih (by omega)]
        by_cases e : k = r
        · subst e
          rw [if_neg (Nat.lt_irrefl _), if_pos (Nat.lt_succ_self _), List.nil_append]
          rw [List.filter_eq_self]
          intro a ha
          exact decide_eq_true (hr k (by omega) a (List.mem_filter.1 ha).1)
        · have h2 : ((F.rows r).filter F.sy).filter (thF F k) = [] := by
            rw [List.filter_eq_nil_iff]
            intro a ha
            have := hr r (by omega) a (List.mem_filter.1 ha).1
            unfold thF
            rw [this]
            simp
            omega
          rw [h2, List.append_nil]
          by_cases h3 : k < r
          · rw [if_pos h3, if_pos (by omega)]
          · rw [if_neg h3, if_neg (by omega)]
    rw [h1 4 (Nat.le_refl _), if_pos hk]
  refine sorted_unique (f := F.tm) ?_ (hs.filter _) (hg.1 k hk)
  rw [← hs4]
  exact hp.filter _
/-- How far the syncs have been gone through. -/
structure Syn (F : Fx) (S : St) (m : List Nat) : Prop where
  i : Inv F S
  d : ∀ k, k < 4 → F.dl k (S.gone k) = m.filter (thF F k)
theorem Syn.next {F : Fx} (hF : RowOk F) {S : St} {m r : List Nat} {i k : Nat} (h : Syn F S m) (hk : k < 4) (hth : (F.X i).th = (k : Nat)) (hl : (F.rows k).filter F.sy = m.filter (thF F k) ++ i :: r) (hsy : F.sy i = true) : Syn F (S.next F i) (m ++ [i]) := by
  have e : (F.X i).th.toNat = k := by rw [hth]; exact Int.toNat_natCast k
  unfold St.next
  rw [e]
  have hI := h.i.plain hF hk ((F.rows k).length - S.gone k)
  obtain ⟨p1, p2⟩ := plain_keeps F k ((F.rows k).length - S.gone k) S
  have hn := next_is (plain_stops F k _ S (Nat.le_refl _)) (p2.trans (h.d k hk)) hl
  obtain ⟨s1, s2, s3⟩ := Inv.stamp hF hI hk hn hth
  refine ⟨s1, fun j hj => ?_⟩
  by_cases ejk : j = k
  · subst ejk
    show F.dl j ((St.stamp F (S.pl F j) i j).gone j) = _
    rw [show (St.stamp F (S.pl F j) i j).gone j = (S.plain F j ((F.rows j).length - S.gone j)).gone j + 1 from s2, F.dl_step hn, if_pos hsy, p2, h.d j hk, List.filter_append]
    congr 1
    unfold thF
    simp [hth]
  · rw [show F.dl j ((St.stamp F (S.pl F k) i k).gone j) = F.dl j ((S.pl F k).gone j) from s3 j ejk]
    show F.dl j ((S.plain F k _).gone j) = _
    rw [(p1 j ejk).2, h.d j hj, List.filter_append]
    have : [i].filter (thF F j) = [] := by
      unfold thF
      simp [hth]
      omega
    rw [this, List.append_nil]
theorem Syn.fold {F : Fx} (hF : RowOk F) {l : List Nat} (hg : F.good) (hp : l.Perm (F.syl 4)) (hs : l.Pairwise fun i j => F.tm i < F.tm j) (hr : ∀ k, k < 4 → ∀ i ∈ F.rows k, (F.X i).th = (k : Nat)) : ∀ (m r : List Nat) (S : St), l = m ++ r → Syn F S m → Syn F (r.foldl (St.next F) S) l
  | m, [], S, hl, h => by rw [hl, List.append_nil]; exact h
  | m, i :: r, S, hl, h => by
    have hil : i ∈ l := by rw [hl]; simp
    obtain ⟨h1, h2⟩ := List.mem_filter.1 (hp.subset hil)
    obtain ⟨k, hk, hik⟩ := List.mem_flatMap.1 h1
    have hk := List.mem_range.1 hk
    have hth := hr k hk i hik
    have hrs := rows_sy F hg hp hs hr hk
    have hti : thF F k i = true := decide_eq_true hth
    rw [hl, List.filter_append, List.filter_cons, if_pos hti] at hrs
    exact Syn.fold hF hg hp hs hr (m ++ [i]) r _ (by rw [hl]; simp) (h.next hF hk hth hrs.symm h2)
theorem inv00 {F : Fx} : Inv F S00 := by
  have z : Low S00 Ck.zero := zero_low S00
  exact ⟨fun k _ => Nat.zero_le _, fun _ => z, fun _ => z, fun _ => z, fun _ _ => z, fun _ => z, fun k _ h => absurd h (Nat.lt_irrefl 0), fun k _ j i h => absurd h (Nat.not_lt_zero j), fun k _ j j' i i' _ h => absurd h (Nat.not_lt_zero j'), fun k k' j j' i i' _ _ h => absurd h (Nat.not_lt_zero j)⟩
theorem syn00 {F : Fx} : Syn F S00 [] := ⟨inv00, fun k _ => rfl⟩
/-- At the end each row was gone through. -/
theorem fin_all {F : Fx} (hF : RowOk F) {l : List Nat} (hg : F.good) (hp : l.Perm (F.syl 4)) (hs : l.Pairwise fun i j => F.tm i < F.tm j) (hr : ∀ k, k < 4 → ∀ i ∈ F.rows k, (F.X i).th = (k : Nat)) : Inv F (St.fin F l) ∧ ∀ k, k < 4 → (St.fin F l).gone k = (F.rows k).length := by
  have h0 := Syn.fold hF hg hp hs hr [] l S00 rfl syn00
  have step : ∀ q, q ≤ 4 → Inv F ((l.foldl (St.next F) S00).ups F q) ∧ (∀ k, k < 4 → F.dl k (((l.foldl (St.next F) S00).ups F q).gone k) = (F.rows k).filter F.sy) ∧ ∀ k, k < q → ((l.foldl (St.next F) S00).ups F q).gone k = (F.rows k).length := fun q => by
    induction q with
    | zero => exact fun _ => ⟨h0.i, fun k hk => (h0.d k hk).trans (rows_sy F hg hp hs hr hk), fun k hk => absurd hk (Nat.not_lt_zero k)⟩
    | succ q ih =>
      intro hq
      obtain ⟨a1, a2, a3⟩ := ih (by omega)
      rw [ups_step]
      have hI := a1.plain hF (show q < 4 by omega) ((F.rows q).length - ((l.foldl (St.next F) S00).ups F q).gone q)
      obtain ⟨p1, p2⟩ := plain_keeps F q ((F.rows q).length - ((l.foldl (St.next F) S00).ups F q).gone q) ((l.foldl (St.next F) S00).ups F q)
      have hst := plain_stops F q _ ((l.foldl (St.next F) S00).ups F q) (Nat.le_refl _)
      refine ⟨hI, fun k hk => ?_, fun k hk => ?_⟩
      · by_cases e : k = q
        · subst e
          exact p2.trans (a2 k hk)
        · show F.dl k ((St.plain F q _ _).gone k) = _
          rw [(p1 k e).2]
          exact a2 k hk
      · by_cases e : k = q
        · subst e
          have hle := hI.g k (by omega)
          refine Classical.byContradiction fun hne => ?_
          have hlt : (St.pl F ((l.foldl (St.next F) S00).ups F k) k).gone k < (F.rows k).length := Nat.lt_of_le_of_ne hle hne
          have hx := hst _ (List.getElem?_eq_getElem hlt)
          have hd := dl_split F k ((St.pl F ((l.foldl (St.next F) S00).ups F k) k).gone k)
          rw [show F.dl k ((St.pl F ((l.foldl (St.next F) S00).ups F k) k).gone k) = (F.rows k).filter F.sy from p2.trans (a2 k (by omega))] at hd
          have hnil : ((F.rows k).drop ((St.pl F ((l.foldl (St.next F) S00).ups F k) k).gone k)).filter F.sy = [] := by
            have := congrArg List.length hd
            rw [List.length_append] at this
            exact List.length_eq_zero_iff.1 (by omega)
          rw [List.drop_eq_getElem_cons hlt, List.filter_cons, if_pos hx] at hnil
          cases hnil
        · show (St.plain F q _ _).gone k = _
          rw [(p1 k e).2]
          exact a3 k (by omega)
  obtain ⟨a1, _, a3⟩ := step 4 (Nat.le_refl _)
  exact ⟨a1, a3⟩
theorem fx_rows (n : Nat) (X : Nat → Ev) (hn : n ≤ 150) : RowOk (FX n n X) := by
  refine ⟨fun k k' j j' i hk hk' h h' => ?_, fun k hk => Nat.le_trans (rowsOf_len X n k) hn⟩
  have h1 := (rowsOf_mem (List.mem_of_getElem? h)).2
  have h2 := (rowsOf_mem (List.mem_of_getElem? h')).2
  have e : k = k' := by omega
  subst e
  refine ⟨rfl, ?_⟩
  obtain ⟨g1, e1⟩ := List.getElem?_eq_some_iff.1 h
  obtain ⟨g2, e2⟩ := List.getElem?_eq_some_iff.1 h'
  have hpw : (rowsOf X n k).Pairwise (· < ·) := (List.pairwise_lt_range).filter _
  rw [List.pairwise_iff_getElem] at hpw
  change (rowsOf X n k)[j] = i at e1
  change (rowsOf X n k)[j'] = i at e2
  rcases Nat.lt_trichotomy j j' with h3 | h3 | h3
  · have := hpw j j' g1 g2 h3
    omega
  · exact h3
  · have := hpw j' j g2 g1 h3
    omega
/-- What OrderThreads asks of the clocks. -/
theorem fin_out {n : Nat} {X : Nat → Ev} (hn : n ≤ 150) (hth : ∀ i, i < n → thB (X i).th = true) {l : List Nat} (hg : (FX n n X).good) (hp : l.Perm ((FX n n X).syl 4)) (hs : l.Pairwise fun i j => (FX n n X).tm i < (FX n n X).tm j) {i j : Nat} (hj : j < i) (hi : i < n) :
    (St.fin (FX n n X) l).out j ≠ (St.fin (FX n n X) l).out i ∧ ((X j).th = (X i).th → ((St.fin (FX n n X) l).out j).le ((St.fin (FX n n X) l).out i)) := by
  obtain ⟨hI, hall⟩ := fin_all (fx_rows n X hn) hg hp hs (fun k hk i hi => (rowsOf_mem hi).2)
  have at_ : ∀ q, q < n → ∃ k p, k < 4 ∧ (X q).th = (k : Nat) ∧ p < (St.fin (FX n n X) l).gone k ∧ (rowsOf X n k)[p]? = some q := fun q hq => by
    have := hth q hq
    unfold thB at this
    simp at this
    obtain ⟨k, hk⟩ : ∃ k : Nat, (X q).th = (k : Nat) := ⟨(X q).th.toNat, by omega⟩
    have hk4 : k < 4 := by omega
    have hm : q ∈ rowsOf X n k := List.mem_filter.2 ⟨List.mem_range.2 hq, decide_eq_true hk⟩
    obtain ⟨p, hp, e⟩ := List.getElem_of_mem hm
    exact ⟨k, p, hk4, hk, by rw [hall k hk4]; exact hp, by rw [List.getElem?_eq_getElem hp, e]⟩
  obtain ⟨k1, p1, a1, a2, a3, a4⟩ := at_ j (by omega)
  obtain ⟨k2, p2, b1, b2, b3, b4⟩ := at_ i hi
  refine ⟨hI.ne k1 k2 p1 p2 j i a1 b1 a3 b3 a4 b4 (by omega), fun e => ?_⟩
  have ek : k1 = k2 := by omega
  subst ek
  rcases Nat.lt_or_ge p1 p2 with h | h
  · exact hI.up k1 a1 p1 p2 j i h b3 a4 b4
  · exfalso
    obtain ⟨g1, e1⟩ := List.getElem?_eq_some_iff.1 a4
    obtain ⟨g2, e2⟩ := List.getElem?_eq_some_iff.1 b4
    have hpw : (rowsOf X n k1).Pairwise (· < ·) := (List.pairwise_lt_range).filter _
    rw [List.pairwise_iff_getElem] at hpw
    rcases Nat.lt_or_ge p2 p1 with h' | h'
    · have := hpw p2 p1 g2 g1 h'
      rw [e1, e2] at this
      omega
    · have : p1 = p2 := by omega
      subst this
      rw [a4] at b4
      injection b4 with b4
      omega
end Go.Proofs.Ytnmgafaebggeiaa.St
