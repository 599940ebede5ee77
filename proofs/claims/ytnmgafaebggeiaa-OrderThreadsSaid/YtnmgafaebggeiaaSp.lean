import Derived.Test.YtnmgafaebggeiaaSo
namespace Go.Proofs.Ytnmgafaebggeiaa.St
open Go.ChangeShapes Go.WideShapes Go.ChangeAt Go.RowKit Go.Maps
set_option linter.unusedVariables false
/-! ### The whole of Stamp, in words -/
def St.pl (F : Fx) (S : St) (k : Nat) : St := S.plain F k ((F.rows k).length - S.gone k)
/-- One sync. -/
def St.next (F : Fx) (S : St) (i : Nat) : St := (S.pl F (F.X i).th.toNat).stamp F i (F.X i).th.toNat
def St.ups (F : Fx) (S : St) (k : Nat) : St := (List.range k).foldl (St.pl F) S
/-- The clocks at the end. -/
def St.fin (F : Fx) (l : List Nat) : St := (l.foldl (St.next F) S00).ups F 4
structure Bnd (q : Nat) (S : St) : Prop where
  x : S.mx ≤ q
  w : S.mw ≤ q
  g : ∀ j, S.gone j ≤ 150 + q
theorem plain_bnd {F : Fx} {q k : Nat} (hl : (F.rows k).length ≤ 150) : ∀ (n : Nat) {S : St}, Bnd q S → Bnd q (S.plain F k n)
  | 0, S, h => h
  | n + 1, S, h => by
    unfold St.plain
    split
    · next i hi =>
      split
      · exact h
      · refine plain_bnd hl n ⟨h.x, h.w, fun j => ?_⟩
        show upd S.gone k (S.gone k + 1) j ≤ _
        by_cases e : j = k
        · subst e
          rw [upd_same]
          have := (List.getElem?_eq_some_iff.1 hi).1
          omega
        · rw [upd_ne _ _ e]
          exact h.g j
    · exact h
theorem mark_bnd {q : Nat} {S : St} (h : Bnd q S) (i k : Nat) (c : Ck) : (S.mark i k c).mx ≤ q ∧ (S.mark i k c).mw ≤ q ∧ ∀ j, (S.mark i k c).gone j ≤ 150 + (q + 1) := by
  refine ⟨h.x, h.w, fun j => ?_⟩
  show upd S.gone k (S.gone k + 1) j ≤ _
  have := h.g k
  have := h.g j
  by_cases e : j = k
  · subst e
    rw [upd_same]
    omega
  · rw [upd_ne _ _ e]
    omega
theorem stamp_bnd {F : Fx} {q : Nat} {S : St} (hF : FxOk F) (h : Bnd q S) (i k : Nat) : Bnd (q + 1) (S.stamp F i k) := by
  unfold St.stamp
  split
  · next hj =>
    obtain ⟨h1, h2, h3⟩ := mark_bnd (plain_bnd (k := (F.X i).va.toNat) (hF.l _ (by have := hj.2.2.1; have := hj.2.1; omega)) _ h) i k _
    exact ⟨Nat.le_succ_of_le h1, Nat.le_succ_of_le h2, h3⟩
  · obtain ⟨h1, h2, h3⟩ := mark_bnd h i k (((S.bef k).join (S.jn (F.X i) (F.sy i))).tick k)
    unfold St.kind
    split
    · exact ⟨Nat.succ_le_succ h1, Nat.le_succ_of_le h2, h3⟩
    · split
      · exact ⟨Nat.le_succ_of_le h1, Nat.succ_le_succ h2, h3⟩
      · split
        · exact ⟨Nat.le_succ_of_le h1, Nat.le_succ_of_le h2, h3⟩
        · exact ⟨Nat.le_succ_of_le h1, Nat.le_succ_of_le h2, h3⟩
theorem fx_ok (n : Nat) (X : Nat → Ev) (hn : n ≤ 150) : FxOk (FX n n X) := by
  refine ⟨fun i hi hs => ?_, fun k hk => Nat.le_trans (rowsOf_len X n k) hn⟩
  have hs : (decide (i < n) && syB (X i).kd (X i).sl) = false := hs
  rw [decide_eq_true (show i < n from hi), Bool.true_and] at hs
  unfold syB at hs
  simp at hs
  exact ⟨hs.1, hs.2.1, hs.2.2.1, hs.2.2.2.1⟩
theorem fold_bnd {F : Fx} (hF : FxOk F) : ∀ (l : List Nat) (S : St) (q : Nat), Bnd q S → (∀ i ∈ l, (F.X i).th.toNat < 4) → Bnd (q + l.length) (l.foldl (St.next F) S)
  | [], S, q, h, _ => h
  | i :: l, S, q, h, hl => by
    have h1 := stamp_bnd hF (plain_bnd (hF.l _ (hl i List.mem_cons_self)) ((F.rows (F.X i).th.toNat).length - S.gone (F.X i).th.toNat) h) i (F.X i).th.toNat
    have h2 := fold_bnd hF l _ (q + 1) h1 fun j hj => hl j (List.mem_cons_of_mem _ hj)
    rw [List.length_cons, show q + (l.length + 1) = q + 1 + l.length by omega]
    exact h2
theorem ups_step (F : Fx) (S : St) (k : Nat) : S.ups F (k + 1) = (S.ups F k).pl F k := by
  unfold St.ups
  rw [List.range_succ, List.foldl_append]
  rfl
theorem ups_bnd {F : Fx} (hF : FxOk F) {q : Nat} {S : St} (h : Bnd q S) : ∀ k, k ≤ 4 → Bnd q (S.ups F k)
  | 0, _ => h
  | k + 1, hk => by
    rw [ups_step]
    exact plain_bnd (hF.l k (by omega)) _ (ups_bnd hF h k (by omega))
theorem s00_bnd : Bnd 0 S00 := ⟨Nat.le_refl _, Nat.le_refl _, fun j => Nat.zero_le _⟩
theorem fold_step (F : Fx) {l : List Nat} {q i : Nat} (h : l[q]? = some i) {k : Nat} (hk : (F.X i).th = (k : Nat)) : (l.take (q + 1)).foldl (St.next F) S00 = (((l.take q).foldl (St.next F) S00).pl F k).stamp F i k := by
  rw [List.take_add_one, h, List.foldl_append]
  show St.next F _ i = _
  unfold St.next
  rw [hk, Int.toNat_natCast]
end Go.Proofs.Ytnmgafaebggeiaa.St
