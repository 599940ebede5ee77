import Derived.Deep.Slices
import Derived.Deep.Fields
import Derived.Test.YtnbpgoacooddjaaLm
import Derived.Test.YtnbpgoacooddjaaEGs
namespace Go.Proofs.Ytnbpgoacooddjaa.Lab
open Go.ChangeShapes Go.WideShapes Go.ChangeAt Go.RowKit Go.Maps Go.Deep
open Go.Proofs.Ytnbpgoacooddjaa.En
set_option linter.unusedVariables false
section
variable {H : Type} {enc : TypeId × Value → H} {P : Program} {w : World} {base : Nat} {spare : Nat → Bool} {held : Bool}
theorem open_slice_fields {t e : TypeId} {fs : Array Field} {fuel : Nat} {cs : List Value} {x : DataW H × List MemPlace} (ht : P.underlying t = some (.slice e)) (he : P.underlying e = some (.struct fs))
    (hone : oneCellFields P fs = true) (hC : P.cellsOf e = fs.size) (h : DataW.trod enc P w base spare held fuel t cs = some x) :
    (cs = [.slice none 0 0] ∧ x = (.nil, [])) ∨
    ∃ (a : Addr) (len cap m : Nat) (D : Nat → DataW H) (Pl : Nat → List MemPlace), cs = [.slice (some a) len cap] ∧ base ≤ a.block ∧ len ≤ cap ∧ cap ≤ maxLen ∧ m = (if spare a.block then cap else len) ∧
      x = (.slice ((List.range len).map D) ((List.range (m - len)).map fun j => D (len + j)), MemPlace.row a (m * fs.size) ++ (List.range m).flatMap Pl) ∧
      ∀ i, i < m → ∃ (ys : List (DataW H × List MemPlace)) (n : Nat), D i = .agg (ys.map (·.1)) ∧ Pl i = ys.flatMap (·.2) ∧ ys.length = fs.size ∧
        ∀ (j : Nat) (f : Field), fs[j]? = some f → ∃ (v : Value) (y : DataW H × List MemPlace), w.cell? (a.add (i * fs.size + j)) = some v ∧ ys[j]? = some y ∧ DataW.trod enc P w base spare held n f.type [v] = some y := by
  rcases open_slice ht h with h0 | ⟨a, len, cap, m, n, D, Pl, hcs, hb, hl, hm, hmm, hx, hi⟩
  · exact .inl h0
  · refine .inr ⟨a, len, cap, m, D, Pl, hcs, hb, hl, hm, hmm, by rw [hC] at hx; exact hx, fun i him => ?_⟩
    obtain ⟨cs', hc, ht'⟩ := hi i him
    rw [hC] at hc
    obtain ⟨ys, n', hn', hy, hlen, hyl, hf⟩ := DataW.trod_struct he ht'
    obtain ⟨_, hcl, hat⟩ := World.cells?_some hc
    simp only [Prod.mk.injEq] at hy
    refine ⟨ys, n', hy.1, hy.2, hyl, fun j f hj => ?_⟩
    obtain ⟨ho, hk⟩ := hone_of hone j f hj
    have hjl : j < fs.size := (Array.getElem?_eq_some_iff.1 hj).1
    have hcell := hat j hjl
    have hv : cs'[j]? = some (cs'[j]'(by omega)) := List.getElem?_eq_getElem (by omega)
    have h1 := hf j f hj
    rw [ho, hk] at h1
    have hone' : (cs'.drop j).take 1 = [cs'[j]'(by omega)] := by
      rw [List.drop_eq_getElem_cons (by omega)]
      rfl
    rw [hone'] at h1
    have hys : ys[j]? = some (ys[j]'(by omega)) := List.getElem?_eq_getElem (by omega)
    refine ⟨_, _, ?_, hys, h1.trans hys⟩
    rw [← Go.Deep.add_add, hcell, hv]
end
theorem one_in (W : World) (x : Addr) (i : Nat) (h : ∀ j, j < 7 → ∃ c : Int, W.cell? (x.add (i * 7 + j)) = some (.int .i64 c)) : ∃ I : In, W.cell? (x.add (i * 7 + 0)) = some (.int .i64 I.op) ∧ W.cell? (x.add (i * 7 + 1)) = some (.int .i64 I.d) ∧ W.cell? (x.add (i * 7 + 2)) = some (.int .i64 I.n) ∧ W.cell? (x.add (i * 7 + 3)) = some (.int .i64 I.m) ∧ W.cell? (x.add (i * 7 + 4)) = some (.int .i64 I.a) ∧ W.cell? (x.add (i * 7 + 5)) = some (.int .i64 I.c) ∧ W.cell? (x.add (i * 7 + 6)) = some (.int .i64 I.i) := by
  obtain ⟨c0, h0⟩ := h 0 (by decide)
  obtain ⟨c1, h1⟩ := h 1 (by decide)
  obtain ⟨c2, h2⟩ := h 2 (by decide)
  obtain ⟨c3, h3⟩ := h 3 (by decide)
  obtain ⟨c4, h4⟩ := h 4 (by decide)
  obtain ⟨c5, h5⟩ := h 5 (by decide)
  obtain ⟨c6, h6⟩ := h 6 (by decide)
  exact ⟨⟨c0, c1, c2, c3, c4, c5, c6⟩, h0, h1, h2, h3, h4, h5, h6⟩
/-- A slice of instructions that comes in. -/
theorem insrow_open {H : Type} {enc : TypeId × Value → H} {W : World} {base : Nat} {spare : Nat → Bool} {held : Bool} {a : Option Addr} {n cap : Nat} {d : DataW H} {p : List MemPlace}
    (h : DataW.Trod enc Try.prog W base spare held 63 (.slice a n cap) d p) : n ≤ maxLen ∧ ∃ F, SrcI W a n F := by
  obtain ⟨fuel, hf⟩ := h
  rcases open_slice_fields Try.underlying63 Try.underlying29 (by kernel_rfl) (by kernel_rfl) hf with ⟨hcs, _⟩ | ⟨x, l, c, m, D, Pl, hcs, _, hl, hm, hmm, _, hi⟩
  · simp [Value.cells] at hcs
    obtain ⟨rfl, rfl, rfl⟩ := hcs
    exact ⟨by unfold maxLen; omega, fun _ => ⟨0, 0, 0, 0, 0, 0, 0⟩, .inl rfl⟩
  · simp [Value.cells] at hcs
    obtain ⟨rfl, rfl, rfl⟩ := hcs
    refine ⟨Nat.le_trans hl hm, ?_⟩
    by_cases h0 : n = 0
    · exact ⟨fun _ => ⟨0, 0, 0, 0, 0, 0, 0⟩, .inl h0⟩
    · have hlm : n ≤ m := by rw [hmm]; split <;> omega
      have key : ∀ i, i < n → ∃ I : In, W.cell? (x.add (i * 7 + 0)) = some (.int .i64 I.op) ∧ W.cell? (x.add (i * 7 + 1)) = some (.int .i64 I.d) ∧ W.cell? (x.add (i * 7 + 2)) = some (.int .i64 I.n) ∧ W.cell? (x.add (i * 7 + 3)) = some (.int .i64 I.m) ∧ W.cell? (x.add (i * 7 + 4)) = some (.int .i64 I.a) ∧ W.cell? (x.add (i * 7 + 5)) = some (.int .i64 I.c) ∧ W.cell? (x.add (i * 7 + 6)) = some (.int .i64 I.i) := by
        intro i hin
        obtain ⟨ys, k, _, _, _, hfs⟩ := hi i (by omega)
        refine one_in W x i fun j hj => ?_
        have : j = 0 ∨ j = 1 ∨ j = 2 ∨ j = 3 ∨ j = 4 ∨ j = 5 ∨ j = 6 := by omega
        rcases this with rfl | rfl | rfl | rfl | rfl | rfl | rfl
        · obtain ⟨v, y, c, _, t⟩ := hfs 0 _ rfl
          obtain ⟨q, hq, _⟩ := DataW.trod_int Try.underlying3 t
          injection hq with hq
          subst hq
          exact ⟨q, c⟩
        · obtain ⟨v, y, c, _, t⟩ := hfs 1 _ rfl
          obtain ⟨q, hq, _⟩ := DataW.trod_int Try.underlying3 t
          injection hq with hq
          subst hq
          exact ⟨q, c⟩
        · obtain ⟨v, y, c, _, t⟩ := hfs 2 _ rfl
          obtain ⟨q, hq, _⟩ := DataW.trod_int Try.underlying3 t
          injection hq with hq
          subst hq
          exact ⟨q, c⟩
        · obtain ⟨v, y, c, _, t⟩ := hfs 3 _ rfl
          obtain ⟨q, hq, _⟩ := DataW.trod_int Try.underlying3 t
          injection hq with hq
          subst hq
          exact ⟨q, c⟩
        · obtain ⟨v, y, c, _, t⟩ := hfs 4 _ rfl
          obtain ⟨q, hq, _⟩ := DataW.trod_int Try.underlying3 t
          injection hq with hq
          subst hq
          exact ⟨q, c⟩
        · obtain ⟨v, y, c, _, t⟩ := hfs 5 _ rfl
          obtain ⟨q, hq, _⟩ := DataW.trod_int Try.underlying3 t
          injection hq with hq
          subst hq
          exact ⟨q, c⟩
        · obtain ⟨v, y, c, _, t⟩ := hfs 6 _ rfl
          obtain ⟨q, hq, _⟩ := DataW.trod_int Try.underlying2 t
          injection hq with hq
          subst hq
          exact ⟨q, c⟩
      obtain ⟨b, off, spot⟩ := x
      obtain ⟨_, z0, _⟩ := key 0 (by omega)
      have hspot : spot = none := by simpa [Addr.add] using World.cell?_spot z0
      subst hspot
      have hb : b < W.heap.size := World.block_lt_of_cell? W ⟨b, off, none⟩ (by simpa [Addr.add] using z0)
      have key' : ∀ i, ∃ I : In, i < n → W.cell? ⟨b, off + i * 7, none⟩ = some (.int .i64 I.op) ∧ W.cell? ⟨b, off + i * 7 + 1, none⟩ = some (.int .i64 I.d) ∧ W.cell? ⟨b, off + i * 7 + 2, none⟩ = some (.int .i64 I.n) ∧ W.cell? ⟨b, off + i * 7 + 3, none⟩ = some (.int .i64 I.m) ∧ W.cell? ⟨b, off + i * 7 + 4, none⟩ = some (.int .i64 I.a) ∧ W.cell? ⟨b, off + i * 7 + 5, none⟩ = some (.int .i64 I.c) ∧ W.cell? ⟨b, off + i * 7 + 6, none⟩ = some (.int .i64 I.i) := by
        intro i
        by_cases hin : i < n
        · obtain ⟨I, c0, c1, c2, c3, c4, c5, c6⟩ := key i hin
          rw [Go.WideShapes.add_plain] at c0 c1 c2 c3 c4 c5 c6
          exact ⟨I, fun _ => ⟨c0, c1, c2, c3, c4, c5, c6⟩⟩
        · exact ⟨⟨0, 0, 0, 0, 0, 0, 0⟩, fun h => absurd h hin⟩
      exact ⟨fun i => Classical.choose (key' i), .inr ⟨b, off, rfl, hb, fun i hin => Classical.choose_spec (key' i) hin⟩⟩

/-- Names that come in. -/
def SrcS (w : World) (A : Option Addr) (n : Nat) (nm : Nat → ByteArray) : Prop := n = 0 ∨ ∃ b off, A = some ⟨b, off, none⟩ ∧ b < w.heap.size ∧ ∀ k, k < n → w.cell? ⟨b, off + k, none⟩ = some (.string (nm k)) ∧ (nm k).size ≤ maxLen
theorem SrcS.past {w w' : World} {A : Option Addr} {n : Nat} {nm : Nat → ByteArray} (h : SrcS w A n nm) (hb : Below w.heap.size w w') : SrcS w' A n nm := by
  rcases h with h | ⟨b, off, h1, h2, h3⟩
  · exact .inl h
  · exact .inr ⟨b, off, h1, Nat.lt_of_lt_of_le h2 hb.size, fun k hk => ⟨(hb.cell (p := ⟨b, _, none⟩) h2).trans (h3 k hk).1, (h3 k hk).2⟩⟩
theorem names_open {H : Type} {enc : TypeId × Value → H} {W : World} {base : Nat} {spare : Nat → Bool} {held : Bool} {a : Option Addr} {n cap : Nat} {d : DataW H} {p : List MemPlace}
    (h : DataW.Trod enc Try.prog W base spare held 64 (.slice a n cap) d p) : n ≤ maxLen ∧ ∃ nm, SrcS W a n nm := by
  obtain ⟨fuel, hf⟩ := h
  rcases open_slice1 Try.underlying64 (by kernel_rfl) hf with ⟨hcs, _⟩ | ⟨x, l, c, m, k, V, D, Pl, hcs, _, hl, hm, hmm, _, hi⟩
  · simp [Value.cells] at hcs
    obtain ⟨rfl, rfl, rfl⟩ := hcs
    exact ⟨by unfold maxLen; omega, fun _ => ByteArray.empty, .inl rfl⟩
  · simp [Value.cells] at hcs
    obtain ⟨rfl, rfl, rfl⟩ := hcs
    refine ⟨Nat.le_trans hl hm, ?_⟩
    by_cases h0 : n = 0
    · exact ⟨fun _ => ByteArray.empty, .inl h0⟩
    · have hlm : n ≤ m := by rw [hmm]; split <;> omega
      have key : ∀ i, i < n → ∃ s : ByteArray, W.cell? (x.add i) = some (.string s) ∧ s.size ≤ maxLen := fun i hin => by
        obtain ⟨hc, ht⟩ := hi i (by omega)
        obtain ⟨s, hs, _, hle⟩ := DataW.trod_string Try.underlying9 ht
        injection hs with hs
        exact ⟨s, by rw [hc, hs], hle⟩
      obtain ⟨b, off, spot⟩ := x
      obtain ⟨s0, z0, _⟩ := key 0 (by omega)
      have hspot : spot = none := by simpa [Addr.add] using World.cell?_spot z0
      subst hspot
      have hb : b < W.heap.size := World.block_lt_of_cell? W ⟨b, off, none⟩ (by simpa [Addr.add] using z0)
      have key' : ∀ i, ∃ s : ByteArray, i < n → W.cell? ⟨b, off + i, none⟩ = some (.string s) ∧ s.size ≤ maxLen := fun i => by
        by_cases hin : i < n
        · obtain ⟨s, h1, h2⟩ := key i hin
          rw [Go.WideShapes.add_plain] at h1
          exact ⟨s, fun _ => ⟨h1, h2⟩⟩
        · exact ⟨ByteArray.empty, fun h => absurd h hin⟩
      exact ⟨fun i => Classical.choose (key' i), .inr ⟨b, off, rfl, hb, fun i hin => Classical.choose_spec (key' i) hin⟩⟩
/-- The names that were seen. -/
def LbM (B : Nat) (w0 w : World) (p : Nat) (S : Lb) (sb cnt : Nat) (D : DataW Unit) : Prop :=
  ∃ (FP : Nat → Prop) (mb : Nat) (v1 v3 : Value) (bx bY bz : Nat → Nat), LbC w FP p S mb v1 v3 bx bY bz ∧ (∀ k, FP k → B ≤ k) ∧ B ≤ w.heap.size ∧ Below B w0 w ∧ ¬ FP sb ∧ B ≤ sb ∧ w.ownsMap Try.prog 9 (plainElem (H := Unit) Try.prog 4) sb cnt D
theorem LbM.b {B : Nat} {w0 w : World} {p : Nat} {S : Lb} {sb cnt : Nat} {D : DataW Unit} (h : LbM B w0 w p S sb cnt D) : LbB B w0 w p S := by
  obtain ⟨FP, mb, v1, v3, bx, bY, bz, h1, h2, h3, h4, h5, h6, h7⟩ := h
  exact ⟨FP, mb, v1, v3, bx, bY, bz, h1, h2, h3, h4⟩
theorem LbM.past {B : Nat} {w0 w w' : World} {p : Nat} {S : Lb} {sb cnt : Nat} {D : DataW Unit} (h : LbM B w0 w p S sb cnt D) (hb : Below w.heap.size w w') : LbM B w0 w' p S sb cnt D := by
  obtain ⟨FP, mb, v1, v3, bx, bY, bz, h1, h2, h3, h4, h5, h6, h7⟩ := h
  exact ⟨FP, mb, v1, v3, bx, bY, bz, h1.past hb, h2, Nat.le_trans h3 hb.size, h4.trans (hb.mono h3), h5, h6, ownsMap_kept h7 (hb.block _ h7.lt)⟩
theorem LbM.of_q {B : Nat} {w0 w w' : World} {FP : Nat → Prop} {p : Nat} {S' : Lb} {sb cnt : Nat} {D : DataW Unit} (hq : LbQ w FP p S' w') (h2 : ∀ k, FP k → B ≤ k) (h3 : B ≤ w.heap.size) (h4 : Below B w0 w) (h5 : ¬ FP sb) (h6 : B ≤ sb) (h7 : w.ownsMap Try.prog 9 (plainElem (H := Unit) Try.prog 4) sb cnt D) : LbM B w0 w' p S' sb cnt D := by
  obtain ⟨FP', mb, v1, v3, bx, bY, bz, g1, g2, g3, g4⟩ := hq
  have hl := h7.lt
  exact ⟨FP', mb, v1, v3, bx, bY, bz, g1, fun k hf => by
    rcases g2 k hf with h | h
    · exact h2 k h
    · omega, Nat.le_trans h3 g4.size, h4.trans (g4.below h3 h2), fun hf => by
    rcases g2 sb hf with h | h
    · exact h5 h
    · omega, h6, ownsMap_kept h7 (g4.block sb hl h5)⟩
theorem put1_m {B : Nat} {w0 w : World} {p : Nat} {S : Lb} {sb cnt : Nat} {D : DataW Unit} (h : LbM B w0 w p S sb cnt D) (x : In) (hm : S.n < 65536) (hb : x.e = 0) :
    Calls Try.prog 29 #[.pointer (some ⟨p, 0, none⟩), .slice (some ⟨w.heap.size, 0, none⟩) 1 1] (w.alloc (.cells #[.int .i64 x.op, .int .i64 x.d, .int .i64 x.n, .int .i64 x.m, .int .i64 x.a, .int .i64 x.c, .int .i64 x.i] 29)) fun e w' => e = .returned (.tuple #[]) ∧ LbM B w0 w' p (S.app (fun _ => x) 1) sb cnt D := by
  obtain ⟨FP, mb, v1, v3, bx, bY, bz, h1, h2, h3, h4, h5, h6, h7⟩ := h.past ((Below.refl _ _).alloc (Nat.le_refl _) (.cells #[.int .i64 x.op, .int .i64 x.d, .int .i64 x.n, .int .i64 x.m, .int .i64 x.a, .int .i64 x.c, .int .i64 x.i] 29))
  exact (put_y _ FP p S mb v1 v3 bx bY bz _ 1 1 (fun _ => x) h1 (by omega) (Lib.hid (one_src x w)) (fun _ _ => hb)).mono fun e w' hh => ⟨hh.1, LbM.of_q hh.2.q h2 h3 h4 h5 h6 h7⟩
theorem label_m {B : Nat} {w0 w : World} {p : Nat} {S : Lb} {sb cnt : Nat} {D : DataW Unit} (h : LbM B w0 w p S sb cnt D) (s : ByteArray) (hs : s.size ≤ maxLen) (hcn : S.cnt < 1000000) (hno : Maps.has S.D (ky s) = false) :
    Calls Try.prog 26 #[.pointer (some ⟨p, 0, none⟩), .string s] w fun e w' => e = .returned (.tuple #[]) ∧ LbM B w0 w' p (S.lab s) sb cnt D := by
  obtain ⟨FP, mb, v1, v3, bx, bY, bz, h1, h2, h3, h4, h5, h6, h7⟩ := h
  exact (label_y w FP p S mb v1 v3 bx bY bz s hs h1 hcn hno).mono fun e w' hh => ⟨hh.1, FP, mb, v1, v3, bx, bY, bz, hh.2.1, h2, Nat.le_trans h3 hh.2.2.size, h4.trans (hh.2.2.below h3 h2), h5, h6, ownsMap_kept h7 (hh.2.2.block sb h7.lt h5)⟩
/-- A store to the names that were seen. -/
theorem LbM.upd {B : Nat} {w0 w w' : World} {p : Nat} {S : Lb} {sb cnt cnt' : Nat} {D D' : DataW Unit} (h : LbM B w0 w p S sb cnt D) (ho : w'.ownsMap Try.prog 9 (plainElem (H := Unit) Try.prog 4) sb cnt' D') (hg : w.grownBy w' (some sb)) : LbM B w0 w' p S sb cnt' D' := by
  obtain ⟨FP, mb, v1, v3, bx, bY, bz, h1, h2, h3, h4, h5, h6, h7⟩ := h
  have hk : Kp (fun k => k = sb) w w' := Kp.of_grown hg (fun b hb => by injection hb with hb; exact hb.symm)
  exact ⟨FP, mb, v1, v3, bx, bY, bz, h1.kept hg.size (fun k hf => hg.block k (h1.fl k hf) (fun e => by injection e with e; subst e; exact h5 hf)), h2, Nat.le_trans h3 hg.size, h4.trans (hk.below h3 (fun k e => by subst e; exact h6)), h5, h6, ho⟩
theorem zero4 (w : World) : (zeroValue 4).run Try.prog w = .ok (.bool false) w := by kernel_rfl
set_option maxRecDepth 100000 in
theorem bool_inv {v : Value} {x : Bool} {ps : List MemPlace} (h : plainElem (H := Unit) Try.prog 4 v = some (.lit (.bool x), ps)) : v = .bool x := by
  unfold plainElem at h
  rw [Try.underlying4] at h
  cases v <;> simp at h
  rw [h.1]
set_option maxRecDepth 100000 in
theorem look_b {w : World} {sb cnt : Nat} {D : DataW Unit} (h : w.ownsMap Try.prog 9 (plainElem (H := Unit) Try.prog 4) sb cnt D) {s : ByteArray} (hs : s.size ≤ maxLen) (ht : Maps.has D (ky s) = true → D.atKey (ky s) (.lit (.bool false)) = .lit (.bool true)) :
    (Instr.lookup 65 (.map (some sb)) (.string s) false).run Try.prog w = .ok (.bool (Maps.has D (ky s))) w := by
  obtain ⟨v, ps, hrun, hv⟩ := h.lookup law9 Try.underlying65 (zero4 w) (plainElem_bool (H := Unit) Try.underlying4 false) (ky_of hs)
  rw [hrun]
  cases hh : Maps.has D (ky s)
  · rw [atKey_of_not_has hh] at hv
    rw [bool_inv hv]
  · rw [ht hh] at hv
    rw [bool_inv hv]
/-- What the law's loop has come to. -/
structure BkI (at0 : Int) (F : Nat → In) (i : Nat) (S : Lb) (D : DataW Unit) : Prop where
  n : S.n = i
  at0 : S.at0 = at0
  jn : S.jn = 0
  err : S.err = 0
  fe : ∀ j, j < i → S.F j = F j
  ok : ∀ j, j < i → (F j).e = 0
  cn : S.cnt ≤ i
  im : IsMap D
  is : IsMap S.D
  rel : ∀ s, Maps.has S.D (ky s) = Maps.has D (ky s)
  tr : ∀ s, Maps.has D (ky s) = true → D.atKey (ky s) (.lit (.bool false)) = .lit (.bool true)
theorem has_put (D : DataW Unit) (hD : IsMap D) (k k' : ByteArray) (v : DataW Unit) : (ky k' = ky k → Maps.has (D.put (ky k) v) (ky k') = true) ∧ (ky k' ≠ ky k → Maps.has (D.put (ky k) v) (ky k') = Maps.has D (ky k')) :=
  ⟨fun h => by rw [h]; exact has_put_same hD (show WideAt.IsKeyLit (ky k) from trivial) v, fun h => has_put_other h v⟩
theorem put_isMap (D : DataW Unit) (hD : IsMap D) (k : Lit) (v : DataW Unit) : IsMap (D.put k v) := by
  obtain ⟨es, rfl⟩ := hD
  exact ⟨_, rfl⟩
/-- A name that was not seen. -/
theorem BkI.seen {at0 : Int} {F : Nat → In} {i : Nat} {S : Lb} {D : DataW Unit} (h : BkI at0 F i S D) (s : ByteArray) : BkI at0 F i { S.lab s with cnt := S.cnt } (D.put (ky s) (.lit (.bool true))) where
  n := h.n
  at0 := h.at0
  jn := h.jn
  err := h.err
  fe := h.fe
  ok := h.ok
  cn := h.cn
  im := put_isMap _ h.im _ _
  is := put_isMap _ h.is _ _
  rel := fun s' => by
    by_cases e : ky s' = ky s
    · rw [(has_put D h.im s s' _).1 e]
      exact (has_put S.D h.is s s' _).1 e
    · rw [(has_put D h.im s s' _).2 e, ← h.rel s']
      exact (has_put S.D h.is s s' _).2 e
  tr := fun s' hs => by
    by_cases e : ky s' = ky s
    · rw [e]
      exact atKey_put_same h.im (show WideAt.IsKeyLit (ky s) from trivial) _ _
    · rw [atKey_put_other e]
      rw [(has_put D h.im s s' _).2 e] at hs
      exact h.tr s' hs
theorem BkI.put {at0 : Int} {F : Nat → In} {i : Nat} {S : Lb} {D : DataW Unit} {c : Nat} (h : BkI at0 F i { S with cnt := c } D) (hc : S.cnt ≤ i + 1) (he : (F i).e = 0) : BkI at0 F (i + 1) (S.app (fun _ => F i) 1) D where
  n := by show S.n + 1 = _; rw [show S.n = i from h.n]
  at0 := h.at0
  jn := h.jn
  err := h.err
  fe := fun j hj => by
    show catI S.F S.n (fun _ => F i) j = F j
    unfold catI
    have hn : S.n = i := h.n
    rw [hn]
    split
    · rename_i hl; exact h.fe j hl
    · obtain rfl : j = i := by omega
      rfl
  ok := fun j hj => by
    rcases Nat.lt_or_ge j i with hl | hl
    · exact h.ok j hl
    · obtain rfl : j = i := by omega
      exact he
  cn := hc
  im := h.im
  is := h.is
  rel := h.rel
  tr := h.tr
end Go.Proofs.Ytnbpgoacooddjaa.Lab
