import Derived.Test.YtjcbhomfggjmhaaIl
import Derived.Test.YtjcbhomfggjmhaaNe
namespace Go.Proofs.Ytjcbhomfggjmhaa.Mm
open Go.ChangeShapes Go.WideShapes Go.ChangeAt Go.RowKit Go.Maps
set_option linter.unusedVariables false
/-! ### Acts -/
structure Nx where
  op : Int
  core : Int
  ad : Nat
  N : Int
  v : Nat
structure NxOk (x : Nx) : Prop where
  k : Okk x.core x.ad
  n : x.N ≤ 9223372036854775807
  v : x.v < 18446744073709551616
/-- An act's cells, from a place on. -/
structure NxAt (w : World) (b o : Nat) (x : Nx) : Prop where
  c0 : w.cell? ⟨b, o, none⟩ = some (.int .i64 x.op)
  c1 : w.cell? ⟨b, o + 1, none⟩ = some (.int .i64 x.core)
  c2 : w.cell? ⟨b, o + 2, none⟩ = some (.int .u64 (x.ad : Nat))
  c3 : w.cell? ⟨b, o + 3, none⟩ = some (.int .i64 x.N)
  c4 : w.cell? ⟨b, o + 4, none⟩ = some (.int .u64 (x.v : Nat))
theorem NxAt.kept {w w' : World} {b o : Nat} {x : Nx} (h : NxAt w b o x) (hk : ∀ q, w'.cell? ⟨b, q, none⟩ = w.cell? ⟨b, q, none⟩) : NxAt w' b o x :=
  ⟨(hk _).trans h.c0, (hk _).trans h.c1, (hk _).trans h.c2, (hk _).trans h.c3, (hk _).trans h.c4⟩
def Sd.act (M : Me) (x : Nx) (S : Sd) : Sd :=
  if x.op = 1 then S.fetch x.core x.ad (x.N.tmod 2 != 0)
  else if x.op = 2 then S.ahead x.core x.ad
  else if x.op = 3 then S.refill x.core x.ad
  else if x.op = 4 then { S with C := upd S.C x.core x.ad none }
  else if x.op = 5 then S.tell M x.ad
  else if x.op = 6 then S.tell M x.ad
  else if x.op = 7 then S.inval x.core x.ad
  else if x.op = 8 then S.deliver x.core x.N
  else if x.op = 9 then S.sync x.core
  else S
/-- How much a side holds. -/
structure Bd (K : Nat) (S : Sd) : Prop where
  n : S.N ≤ 2 * K
  l : ∀ d, d < S.n → (S.Wt d).length ≤ K
  y : ∀ d, d < S.n → ∀ y ∈ S.Wt d, y.2 < 18446744073709551616
theorem Bd.same {K K' : Nat} {S S' : Sd} (h : Bd K S) (hn : S'.n = S.n) (hw : S'.Wt = S.Wt) (hN : S'.N ≤ 2 * K') (hK : K ≤ K') : Bd K' S' :=
  ⟨hN, fun d hd => by rw [hw]; exact Nat.le_trans (h.l d (by omega)) hK, fun d hd => by rw [hw]; exact h.y d (by omega)⟩
theorem fill_same (S : Sd) (c : Int) (x : Nat) : (S.fill c x).n = S.n ∧ (S.fill c x).Wt = S.Wt ∧ (S.fill c x).N ≤ S.N + 1 := ⟨(fill_H S c x).2.2.1, (fill_H S c x).2.2.2, fill_N S c x⟩
def SameN (S S' : Sd) : Prop := S'.n = S.n
theorem act_n (M : Me) (x : Nx) (S : Sd) : (S.act M x).n = S.n := by
  show SameN S (S.act M x)
  have h0 : SameN S S := rfl
  have h1 : SameN S (S.fill x.core x.ad) := (fill_same S x.core x.ad).1
  have h2 : SameN S { S.fill x.core x.ad with H := upd (S.fill x.core x.ad).H x.core x.ad (some (S.val x.core x.ad)), N := (S.fill x.core x.ad).N + 1 } := (fill_same S x.core x.ad).1
  unfold Sd.act
  split
  · unfold Sd.fetch
    repeat' split
    all_goals assumption
  · split
    · unfold Sd.ahead
      split
      · exact h2
      · exact h0
    · split
      · unfold Sd.refill
        split <;> assumption
      · split
        · rfl
        · split
          · rfl
          · split
            · rfl
            · split
              · unfold Sd.inval
                split
                · rfl
                · rfl
              · split
                · unfold Sd.deliver
                  split
                  · rfl
                  · rfl
                · split
                  · unfold Sd.sync
                    split
                    · rfl
                    · rfl
                  · rfl
theorem Bd.act {K : Nat} {S : Sd} (h : Bd K S) (M : Me) {x : Nx} (hx : NxOk x) : Bd (K + 1) (S.act M x) := by
  have hN := h.n
  obtain ⟨f1, f2, f3⟩ := fill_same S x.core x.ad
  have same : Bd (K + 1) S := h.same rfl rfl (by omega) (by omega)
  have fl : Bd (K + 1) (S.fill x.core x.ad) := h.same f1 f2 (by omega) (by omega)
  unfold Sd.act
  split
  · unfold Sd.fetch
    repeat' split
    all_goals assumption
  · split
    · unfold Sd.ahead
      split
      · exact h.same f1 f2 (by show (S.fill x.core x.ad).N + 1 ≤ _; omega) (by omega)
      · exact same
    · split
      · unfold Sd.refill
        split <;> assumption
      · split
        · exact h.same rfl rfl (by show S.N ≤ _; omega) (by omega)
        · split
          · exact h.same rfl rfl (by show S.N ≤ _; omega) (by omega)
          · split
            · exact h.same rfl rfl (by show S.N ≤ _; omega) (by omega)
            · split
              · unfold Sd.inval
                split
                · refine ⟨by show S.N ≤ _; omega, fun d hd => ?_, fun d hd => ?_⟩
                  · have hd : d < S.n := hd
                    show (if d < S.n then S.Wt d ++ [(x.core, x.ad - x.ad % 64)] else S.Wt d).length ≤ K + 1
                    rw [if_pos hd, List.length_append]
                    have := h.l d hd
                    simp
                    omega
                  · have hd : d < S.n := hd
                    show ∀ y ∈ (if d < S.n then S.Wt d ++ [(x.core, x.ad - x.ad % 64)] else S.Wt d), _
                    rw [if_pos hd]
                    intro y hy
                    rcases List.mem_append.1 hy with h1 | h1
                    · exact h.y d hd y h1
                    · simp at h1
                      subst h1
                      have := hx.k.2.2
                      show x.ad - x.ad % 64 < _
                      omega
                · exact same
              · split
                · unfold Sd.deliver
                  split
                  · exact same
                  · refine ⟨by show S.N ≤ _; omega, fun d hd => ?_, fun d hd => ?_⟩
                    · have hd : d < S.n := hd
                      show (if d = x.core.toNat then (S.Wt x.core.toNat).eraseIdx (S.atK x.core x.N) else S.Wt d).length ≤ K + 1
                      split
                      · rename_i e
                        subst e
                        have h1 := h.l _ hd
                        have h2 := List.length_eraseIdx_le (S.Wt x.core.toNat) (S.atK x.core x.N)
                        omega
                      · have := h.l d hd
                        omega
                    · have hd : d < S.n := hd
                      show ∀ y ∈ (if d = x.core.toNat then (S.Wt x.core.toNat).eraseIdx (S.atK x.core x.N) else S.Wt d), _
                      split
                      · rename_i e
                        subst e
                        intro y hy
                        exact h.y _ hd y (List.mem_of_mem_eraseIdx hy)
                      · exact h.y d hd
                · split
                  · unfold Sd.sync
                    split
                    · exact h.same rfl rfl (by show S.N ≤ _; omega) (by omega)
                    · exact same
                  · exact same
/-- So many acts, one after the other. -/
def actN (M : Me) (X : Nat → Nx) (S : Sd) : Nat → Sd
  | 0 => S
  | i + 1 => (actN M X S i).act M (X i)
theorem Bd.actN {K : Nat} {S : Sd} (h : Bd K S) (M : Me) {X : Nat → Nx} : ∀ n, (∀ i, i < n → NxOk (X i)) → Bd (K + n) (Mm.actN M X S n)
  | 0, _ => h
  | n + 1, hx => (Bd.actN h M n fun i hi => hx i (by omega)).act M (hx n (by omega))
theorem actN_n (M : Me) (X : Nat → Nx) (S : Sd) : ∀ n, (actN M X S n).n = S.n
  | 0 => rfl
  | n + 1 => (act_n M (X n) _).trans (actN_n M X S n)
end Go.Proofs.Ytjcbhomfggjmhaa.Mm
