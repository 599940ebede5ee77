import Derived.Test.YthgpolddbadfmaaOpn
import Derived.Test.YthgpolddbadfmaaVd
import Derived.Deep.Slices
import Derived.Deep.Fields
namespace Go.Proofs.Ythgpolddbadfmaa
open Go.ChangeShapes Go.WideShapes Go.ChangeAt Go.RowKit Go.Deep
set_option linter.unusedVariables false
section
variable {H : Type} {enc : TypeId × Value → H} {P : Program} {w : World} {base : Nat} {spare : Nat → Bool} {held : Bool}
theorem open_slice_fields {t e : TypeId} {fs : Array Field} {fuel : Nat} {cs : List Value} {x : DataW H × List MemPlace} (ht : P.underlying t = some (.slice e)) (he : P.underlying e = some (.struct fs))
    (hone : oneCellFields P fs = true) (hC : P.cellsOf e = fs.size) (h : DataW.trod enc P w base spare held fuel t cs = some x) :
    (cs = [.slice none 0 0] ∧ x = (.nil, [])) ∨
    ∃ (a : Addr) (len cap m : Nat) (D : Nat → DataW H) (Pl : Nat → List MemPlace), cs = [.slice (some a) len cap] ∧ base ≤ a.block ∧ len ≤ cap ∧ cap ≤ maxLen ∧ m = (if spare a.block then cap else len) ∧
      x = (.slice ((List.range len).map D) ((List.range (m - len)).map fun j => D (len + j)), MemPlace.row a (m * fs.size) ++ (List.range m).flatMap Pl) ∧
      ∀ i, i < m → ∃ (ys : List (DataW H × List MemPlace)) (n : Nat), D i = .agg (ys.map (·.1)) ∧ Pl i = ys.flatMap (·.2) ∧ ys.length = fs.size ∧
        ∀ (j : Nat) (f : Field), fs[j]? = some f → ∃ (v : Value) (y : DataW H × List MemPlace), w.cell? (a.add (i * fs.size + j)) = some v ∧ ys[j]? = some y ∧ DataW.trod enc P w base spare held n f.type [v] = some y := by
  rcases open_slice ht h with h0 | ⟨a, len, cap, m, n, D, Pl, hcs, hb, hl, hm, hmm, hx, hi⟩
  · exact .inl h0
  · refine .inr ⟨a, len, cap, m, D, Pl, hcs, hb, hl, hm, hmm, by rw [hC] at hx; exact hx, fun i him => ?_⟩
    obtain ⟨cs', hc, ht'⟩ := hi i him
    rw [hC] at hc
    obtain ⟨ys, n', hn', hy, hlen, hyl, hf⟩ := DataW.trod_struct he ht'
    obtain ⟨_, hcl, hat⟩ := World.cells?_some hc
    simp only [Prod.mk.injEq] at hy
    refine ⟨ys, n', hy.1, hy.2, hyl, fun j f hj => ?_⟩
    obtain ⟨ho, hk⟩ := hone_of hone j f hj
    have hjl : j < fs.size := (Array.getElem?_eq_some_iff.1 hj).1
    have hcell := hat j hjl
    have hv : cs'[j]? = some (cs'[j]'(by omega)) := List.getElem?_eq_getElem (by omega)
    have h1 := hf j f hj
    rw [ho, hk] at h1
    have hone' : (cs'.drop j).take 1 = [cs'[j]'(by omega)] := by
      rw [List.drop_eq_getElem_cons (by omega)]
      rfl
    rw [hone'] at h1
    have hys : ys[j]? = some (ys[j]'(by omega)) := List.getElem?_eq_getElem (by omega)
    refine ⟨_, _, ?_, hys, h1.trans hys⟩
    rw [← Go.Deep.add_add, hcell, hv]
end
theorem one_in (W : World) (x : Addr) (i : Nat) (h : ∀ j, j < 7 → ∃ c : Int, W.cell? (x.add (i * 7 + j)) = some (.int .i64 c)) : ∃ I : In, W.cell? (x.add (i * 7 + 0)) = some (.int .i64 I.op) ∧ W.cell? (x.add (i * 7 + 1)) = some (.int .i64 I.d) ∧ W.cell? (x.add (i * 7 + 2)) = some (.int .i64 I.n) ∧ W.cell? (x.add (i * 7 + 3)) = some (.int .i64 I.m) ∧ W.cell? (x.add (i * 7 + 4)) = some (.int .i64 I.a) ∧ W.cell? (x.add (i * 7 + 5)) = some (.int .i64 I.c) ∧ W.cell? (x.add (i * 7 + 6)) = some (.int .i64 I.i) := by
  obtain ⟨c0, h0⟩ := h 0 (by decide)
  obtain ⟨c1, h1⟩ := h 1 (by decide)
  obtain ⟨c2, h2⟩ := h 2 (by decide)
  obtain ⟨c3, h3⟩ := h 3 (by decide)
  obtain ⟨c4, h4⟩ := h 4 (by decide)
  obtain ⟨c5, h5⟩ := h 5 (by decide)
  obtain ⟨c6, h6⟩ := h 6 (by decide)
  exact ⟨⟨c0, c1, c2, c3, c4, c5, c6⟩, h0, h1, h2, h3, h4, h5, h6⟩
/-- A slice of instructions that comes in. -/
theorem insrow_open {H : Type} {enc : TypeId × Value → H} {W : World} {base : Nat} {spare : Nat → Bool} {held : Bool} {a : Option Addr} {n cap : Nat} {d : DataW H} {p : List MemPlace}
    (h : DataW.Trod enc Try.prog W base spare held 33 (.slice a n cap) d p) : n ≤ maxLen ∧ ∃ F, SrcI W a n F := by
  obtain ⟨fuel, hf⟩ := h
  rcases open_slice_fields Try.underlying33 Try.underlying23 (by kernel_rfl) (by kernel_rfl) hf with ⟨hcs, _⟩ | ⟨x, l, c, m, D, Pl, hcs, _, hl, hm, hmm, _, hi⟩
  · simp [Value.cells] at hcs
    obtain ⟨rfl, rfl, rfl⟩ := hcs
    exact ⟨by unfold maxLen; omega, fun _ => ⟨0, 0, 0, 0, 0, 0, 0⟩, .inl rfl⟩
  · simp [Value.cells] at hcs
    obtain ⟨rfl, rfl, rfl⟩ := hcs
    refine ⟨Nat.le_trans hl hm, ?_⟩
    by_cases h0 : n = 0
    · exact ⟨fun _ => ⟨0, 0, 0, 0, 0, 0, 0⟩, .inl h0⟩
    · have hlm : n ≤ m := by rw [hmm]; split <;> omega
      have key : ∀ i, i < n → ∃ I : In, W.cell? (x.add (i * 7 + 0)) = some (.int .i64 I.op) ∧ W.cell? (x.add (i * 7 + 1)) = some (.int .i64 I.d) ∧ W.cell? (x.add (i * 7 + 2)) = some (.int .i64 I.n) ∧ W.cell? (x.add (i * 7 + 3)) = some (.int .i64 I.m) ∧ W.cell? (x.add (i * 7 + 4)) = some (.int .i64 I.a) ∧ W.cell? (x.add (i * 7 + 5)) = some (.int .i64 I.c) ∧ W.cell? (x.add (i * 7 + 6)) = some (.int .i64 I.i) := by
        intro i hin
        obtain ⟨ys, k, _, _, _, hfs⟩ := hi i (by omega)
        refine one_in W x i fun j hj => ?_
        have : j = 0 ∨ j = 1 ∨ j = 2 ∨ j = 3 ∨ j = 4 ∨ j = 5 ∨ j = 6 := by omega
        rcases this with rfl | rfl | rfl | rfl | rfl | rfl | rfl
        · obtain ⟨v, y, c, _, t⟩ := hfs 0 _ rfl
          obtain ⟨q, hq, _⟩ := DataW.trod_int Try.underlying3 t
          injection hq with hq
          subst hq
          exact ⟨q, c⟩
        · obtain ⟨v, y, c, _, t⟩ := hfs 1 _ rfl
          obtain ⟨q, hq, _⟩ := DataW.trod_int Try.underlying3 t
          injection hq with hq
          subst hq
          exact ⟨q, c⟩
        · obtain ⟨v, y, c, _, t⟩ := hfs 2 _ rfl
          obtain ⟨q, hq, _⟩ := DataW.trod_int Try.underlying3 t
          injection hq with hq
          subst hq
          exact ⟨q, c⟩
        · obtain ⟨v, y, c, _, t⟩ := hfs 3 _ rfl
          obtain ⟨q, hq, _⟩ := DataW.trod_int Try.underlying3 t
          injection hq with hq
          subst hq
          exact ⟨q, c⟩
        · obtain ⟨v, y, c, _, t⟩ := hfs 4 _ rfl
          obtain ⟨q, hq, _⟩ := DataW.trod_int Try.underlying3 t
          injection hq with hq
          subst hq
          exact ⟨q, c⟩
        · obtain ⟨v, y, c, _, t⟩ := hfs 5 _ rfl
          obtain ⟨q, hq, _⟩ := DataW.trod_int Try.underlying3 t
          injection hq with hq
          subst hq
          exact ⟨q, c⟩
        · obtain ⟨v, y, c, _, t⟩ := hfs 6 _ rfl
          obtain ⟨q, hq, _⟩ := DataW.trod_int Try.underlying2 t
          injection hq with hq
          subst hq
          exact ⟨q, c⟩
      obtain ⟨b, off, spot⟩ := x
      obtain ⟨_, z0, _⟩ := key 0 (by omega)
      have hspot : spot = none := by simpa [Addr.add] using World.cell?_spot z0
      subst hspot
      have hb : b < W.heap.size := World.block_lt_of_cell? W ⟨b, off, none⟩ (by simpa [Addr.add] using z0)
      have key' : ∀ i, ∃ I : In, i < n → W.cell? ⟨b, off + i * 7, none⟩ = some (.int .i64 I.op) ∧ W.cell? ⟨b, off + i * 7 + 1, none⟩ = some (.int .i64 I.d) ∧ W.cell? ⟨b, off + i * 7 + 2, none⟩ = some (.int .i64 I.n) ∧ W.cell? ⟨b, off + i * 7 + 3, none⟩ = some (.int .i64 I.m) ∧ W.cell? ⟨b, off + i * 7 + 4, none⟩ = some (.int .i64 I.a) ∧ W.cell? ⟨b, off + i * 7 + 5, none⟩ = some (.int .i64 I.c) ∧ W.cell? ⟨b, off + i * 7 + 6, none⟩ = some (.int .i64 I.i) := by
        intro i
        by_cases hin : i < n
        · obtain ⟨I, c0, c1, c2, c3, c4, c5, c6⟩ := key i hin
          rw [Go.WideShapes.add_plain] at c0 c1 c2 c3 c4 c5 c6
          exact ⟨I, fun _ => ⟨c0, c1, c2, c3, c4, c5, c6⟩⟩
        · exact ⟨⟨0, 0, 0, 0, 0, 0, 0⟩, fun h => absurd h hin⟩
      exact ⟨fun i => Classical.choose (key' i), .inr ⟨b, off, rfl, hb, fun i hin => Classical.choose_spec (key' i) hin⟩⟩
end Go.Proofs.Ythgpolddbadfmaa
