import Derived.Test.YtnmgafaebggeiaaSc
namespace Go.Proofs.Ytnmgafaebggeiaa.St
open Go.ChangeShapes Go.WideShapes Go.ChangeAt Go.RowKit Go.Maps
set_option linter.unusedVariables false
/-! ### Stores into the stamper -/
theorem ofFn_set (n : Nat) (f : Nat → Value) (i : Nat) (v : Value) : (Array.ofFn (n := n) fun j => f j).setIfInBounds i v = Array.ofFn (n := n) fun j => if (j : Nat) = i then v else f j := by
  apply Array.ext
  · simp
  · intro q h1 h2
    have hq : q < n := by simpa using h2
    by_cases e : i = q
    · subst e
      simp
    · rw [Array.getElem_setIfInBounds_ne (by simpa using hq) e]
      simp
      intro h
      exact absurd h.symm e
def st4 (w : World) (b o : Nat) (x : Ck) : World := (((w.setCell ⟨b, o, none⟩ (.int .i64 x.a)).setCell ⟨b, o + 1, none⟩ (.int .i64 x.b)).setCell ⟨b, o + 2, none⟩ (.int .i64 x.c)).setCell ⟨b, o + 3, none⟩ (.int .i64 x.d)
theorem st4_grown (w : World) (b o : Nat) (x : Ck) : w.grownBy (st4 w b o x) (some b) :=
  (((grown_set w ⟨b, o, none⟩ _).trans (grown_set _ ⟨b, o + 1, none⟩ _)).trans (grown_set _ ⟨b, o + 2, none⟩ _)).trans (grown_set _ ⟨b, o + 3, none⟩ _)
theorem four_eq (f g : Nat → Value) (o : Nat) (x : Ck) (h1 : ∀ r, r < 4 → g (o + r) = x.at r) (h2 : ∀ j, ¬ (o ≤ j ∧ j < o + 4) → g j = f j) (j : Nat) :
    (if j = o + 3 then .int .i64 x.d else if j = o + 2 then .int .i64 x.c else if j = o + 1 then .int .i64 x.b else if j = o then .int .i64 x.a else f j) = g j := by
  by_cases h : o ≤ j ∧ j < o + 4
  · have e := h1 (j - o) (by omega)
    rw [show o + (j - o) = j by omega] at e
    rw [e]
    unfold Ck.at
    have h4 : j - o = 0 ∨ j - o = 1 ∨ j - o = 2 ∨ j - o = 3 := by omega
    rcases h4 with h4 | h4 | h4 | h4
    · have : j = o := by omega
      subst this
      simp
    · have : j = o + 1 := by omega
      subst this
      simp
    · have : j = o + 2 := by omega
      subst this
      simp
    · have : j = o + 3 := by omega
      subst this
      simp
  · rw [h2 j h, if_neg (by omega), if_neg (by omega), if_neg (by omega), if_neg (by omega)]
theorem st4_heap {w : World} {b n t : Nat} {f g : Nat → Value} (h : w.heap[b]? = some (.cells (Array.ofFn (n := n) fun j => f j) t (0, 0))) (o : Nat) (x : Ck) (h1 : ∀ r, r < 4 → g (o + r) = x.at r) (h2 : ∀ j, ¬ (o ≤ j ∧ j < o + 4) → g j = f j) :
    (st4 w b o x).heap[b]? = some (.cells (Array.ofFn (n := n) fun j => g j) t (0, 0)) := by
  have e0 := heap_setCell_same w b o _ t (.int .i64 x.a) h
  rw [ofFn_set n f] at e0
  have e1 := heap_setCell_same _ b (o + 1) _ t (.int .i64 x.b) e0
  rw [ofFn_set n (fun j => if j = o then .int .i64 x.a else f j)] at e1
  have e2 := heap_setCell_same _ b (o + 2) _ t (.int .i64 x.c) e1
  rw [ofFn_set n (fun j => if j = o + 1 then .int .i64 x.b else if j = o then .int .i64 x.a else f j)] at e2
  have e := heap_setCell_same _ b (o + 3) _ t (.int .i64 x.d) e2
  rw [ofFn_set n (fun j => if j = o + 2 then .int .i64 x.c else if j = o + 1 then .int .i64 x.b else if j = o then .int .i64 x.a else f j)] at e
  unfold st4
  rw [e]
  congr 3
  funext j
  exact four_eq f g o x h1 h2 j
def upd {α : Type} (f : Nat → α) (k : Nat) (x : α) : Nat → α := fun q => if q = k then x else f q
theorem upd_same {α : Type} (f : Nat → α) (k : Nat) (x : α) : upd f k x k = x := if_pos rfl
theorem upd_ne {α : Type} (f : Nat → α) {k q : Nat} (x : α) (h : q ≠ k) : upd f k x q = f q := if_neg h
section
variable {w w' : World} {P : Pc} {F : Fx} {S : St}
theorem hne {w : World} {a b : Nat} {A B : Array Value} {s t : TypeId} {f g : Nat × Nat} (h : w.heap[a]? = some (.cells A s f)) (h' : w.heap[b]? = some (.cells B t g)) (hs : s ≠ t) : a ≠ b := fun e => by
  rw [e, h'] at h
  injection h with h
  injection h with _ h
  exact hs h.symm
theorem MpE.heap {b N : Nat} {G : Int → Ck} (h : MpE w b N G) : ∃ es c, w.heap[b]? = some (.map es c) := by
  obtain ⟨D, ⟨es, clock, h1, _⟩, _⟩ := h
  exact ⟨es, clock, h1⟩
theorem MpW.heap {b N : Nat} {G : Int → Int → Ck} (h : MpW w b N G) : ∃ es c, w.heap[b]? = some (.map es c) := by
  obtain ⟨D, ⟨es, clock, h1, _⟩, _⟩ := h
  exact ⟨es, clock, h1⟩
theorem mne {w : World} {a b : Nat} {A : Array Value} {s : TypeId} {f : Nat × Nat} (h : w.heap[a]? = some (.cells A s f)) (h' : ∃ es c, w.heap[b]? = some (.map es c)) : a ≠ b := fun e => by
  obtain ⟨es, c, h'⟩ := h'
  rw [e, h'] at h
  cases h
/-- One of the blocks that turn has turned. -/
theorem SmC.turn {S' : St} (h : SmC w P F S) {z : Nat} (hg : w.grownBy w' (some z)) (hz : z = P.s ∨ z = P.cb ∨ z = P.xb ∨ z = P.wb) (h1 : w'.heap[P.s]? = some (.cells (rowS P F S') 59 (0, 0))) (h2 : w'.heap[P.cb]? = some (.cells (rowC F S') 24 (0, 0)))
    (h3 : MpE w' P.xb S'.mx S'.ex) (h4 : MpW w' P.wb S'.mw S'.wr) : SmC w' P F S' := by
  have hk : ∀ g, g < w.heap.size → g ≠ z → w'.heap[g]? = w.heap[g]? := fun g hg' hne => hg.block g hg' fun e => hne (by injection e)
  have ho : ∀ {base n size : Nat} {e : TypeId} {v : Value} {xs : List Value}, w.ownsRow base e size v n xs → e ≠ 59 → e ≠ 24 → ∀ g, v.ownBlock = some g → g < w.heap.size ∧ g ≠ z := fun hr e1 e2 g hb => by
    refine ⟨(hr.lt g hb).2, ?_⟩
    obtain ⟨cur, hc⟩ := own_heap hr hb
    rcases hz with rfl | rfl | rfl | rfl
    · exact hne hc h.row e1
    · exact hne hc h.clk e2
    · exact mne hc h.mx.heap
    · exact mne hc h.mw.heap
  refine ⟨h1, h2, h3, h4, own_kept h.sy fun g hb => ?_, own_kept h.rr fun g hb => ?_, fun k hk4 => own_kept (h.rows k hk4) fun g hb => ?_, fun i hi => ⟨(h.ev i hi).1, (h.ev i hi).2.kept fun q => ?_⟩, Nat.lt_of_lt_of_le h.el hg.size, h.ne, h.rg, h.xs, h.n150⟩
  · have := ho h.sy (by decide) (by decide) g hb
    exact hk g this.1 this.2
  · have := ho h.rr (by decide) (by decide) g hb
    exact hk g this.1 this.2
  · have := ho (h.rows k hk4) (by decide) (by decide) g hb
    exact hk g this.1 this.2
  · unfold World.cell?
    rw [hk P.eb h.el (by obtain ⟨_, a, b, c, d⟩ := h.ne; rcases hz with rfl | rfl | rfl | rfl <;> assumption)]
theorem SmC.sc (h : SmC w P F S) : P.s ≠ P.cb := hne h.row h.clk (by decide)
theorem SmC.turnS {S' : St} (h : SmC w P F S) (hg : w.grownBy w' (some P.s)) (h1 : w'.heap[P.s]? = some (.cells (rowS P F S') 59 (0, 0))) (e1 : S'.out = S.out) (e2 : S'.ex = S.ex) (e3 : S'.wr = S.wr) (e4 : S'.mx = S.mx) (e5 : S'.mw = S.mw) : SmC w' P F S' := by
  have hk : ∀ g, g < w.heap.size → g ≠ P.s → w'.heap[g]? = w.heap[g]? := fun g hg' hne => hg.block g hg' fun e => hne (by injection e)
  refine h.turn hg (.inl rfl) h1 ?_ ?_ ?_
  · rw [hk _ h.cl h.sc.symm, h.clk]
    unfold rowC
    rw [e1]
  · rw [e2, e4]
    exact h.mx.kept (hk _ h.mx.lt (mne h.row h.mx.heap).symm)
  · rw [e3, e5]
    exact h.mw.kept (hk _ h.mw.lt (mne h.row h.mw.heap).symm)
theorem cell_now {k : Nat} (hk : k < 4) (r : Nat) (hr : r < 4) : cellS P F S (7 + k * 4 + r) = (S.now k).at r := by
  unfold cellS
  rw [if_neg (by omega), if_neg (by omega), if_neg (by omega), if_neg (by omega), if_pos (by omega), show (7 + k * 4 + r - 7) / 4 = k by omega, show (7 + k * 4 + r - 7) % 4 = r by omega]
theorem cell_beg {k : Nat} (hk : k < 4) (r : Nat) (hr : r < 4) : cellS P F S (23 + k * 4 + r) = (S.beg k).at r := by
  unfold cellS
  rw [if_neg (by omega), if_neg (by omega), if_neg (by omega), if_neg (by omega), if_neg (by omega), if_pos (by omega), show (23 + k * 4 + r - 23) / 4 = k by omega, show (23 + k * 4 + r - 23) % 4 = r by omega]
theorem cell_gone {k : Nat} (hk : k < 4) : cellS P F S (3 + k) = .int .i64 (S.gone k) := by
  unfold cellS
  rw [if_neg (by omega), if_neg (by omega), if_neg (by omega), if_pos (by omega), show 3 + k - 3 = k by omega]
theorem SmC.setNow (h : SmC w P F S) {k : Nat} (hk : k < 4) (x : Ck) : SmC (st4 w P.s (7 + k * 4) x) P F { S with now := upd S.now k x } := by
  refine h.turnS (st4_grown _ _ _ _) (st4_heap (f := cellS P F S) (g := cellS P F { S with now := upd S.now k x }) h.row _ x (fun r hr => ?_) (fun j hj => ?_)) rfl rfl rfl rfl rfl
  · rw [cell_now hk r hr]
    show (upd S.now k x k).at r = _
    rw [upd_same]
  · unfold cellS
    repeat' split
    all_goals first | rfl | skip
    show (upd S.now k x ((j - 7) / 4)).at _ = _
    rw [upd_ne _ _ (by omega)]
theorem SmC.setBeg (h : SmC w P F S) {k : Nat} (hk : k < 4) (x : Ck) : SmC (st4 w P.s (23 + k * 4) x) P F { S with beg := upd S.beg k x } := by
  refine h.turnS (st4_grown _ _ _ _) (st4_heap (f := cellS P F S) (g := cellS P F { S with beg := upd S.beg k x }) h.row _ x (fun r hr => ?_) (fun j hj => ?_)) rfl rfl rfl rfl rfl
  · rw [cell_beg hk r hr]
    show (upd S.beg k x k).at r = _
    rw [upd_same]
  · unfold cellS
    repeat' split
    all_goals first | rfl | skip
    show (upd S.beg k x ((j - 23) / 4)).at _ = _
    rw [upd_ne _ _ (by omega)]
theorem SmC.setGone (h : SmC w P F S) {k : Nat} (hk : k < 4) (n : Nat) : SmC (w.setCell ⟨P.s, 3 + k, none⟩ (.int .i64 n)) P F { S with gone := upd S.gone k n } := by
  refine h.turnS (grown_set _ _ _) ?_ rfl rfl rfl rfl rfl
  have e := heap_setCell_same w P.s (3 + k) _ 59 (.int .i64 n) h.row
  rw [e]
  unfold rowS
  rw [ofFn_set 42 (cellS P F S)]
  congr 3
  funext j
  by_cases hj : (j : Nat) = 3 + k
  · rw [if_pos hj, hj, cell_gone hk]
    show _ = Value.int .i64 ((upd S.gone k n k : Nat) : Int)
    rw [upd_same]
  · rw [if_neg hj]
    unfold cellS
    repeat' split
    all_goals first | rfl | skip
    show _ = Value.int .i64 ((upd S.gone k n _ : Nat) : Int)
    rw [upd_ne _ _ (by omega)]
theorem SmC.setOut (h : SmC w P F S) {i : Nat} (hi : i < F.N) (x : Ck) : SmC (st4 w P.cb (i * 4) x) P F { S with out := upd S.out i x } := by
  have hg := st4_grown w P.cb (i * 4) x
  have hk : ∀ g, g < w.heap.size → g ≠ P.cb → (st4 w P.cb (i * 4) x).heap[g]? = w.heap[g]? := fun g hg' hne => hg.block g hg' fun e => hne (by injection e)
  refine h.turn hg (.inr (.inl rfl)) ?_ ?_ (h.mx.kept (hk _ h.mx.lt (mne h.clk h.mx.heap).symm)) (h.mw.kept (hk _ h.mw.lt (mne h.clk h.mw.heap).symm))
  · rw [hk _ h.sl h.sc, h.row]
    rfl
  · refine st4_heap (f := fun j => (S.out (j / 4)).at (j % 4)) (g := fun j => (upd S.out i x (j / 4)).at (j % 4)) h.clk _ x (fun r hr => ?_) (fun j hj => ?_)
    · show (upd S.out i x ((i * 4 + r) / 4)).at ((i * 4 + r) % 4) = _
      rw [show (i * 4 + r) / 4 = i by omega, show (i * 4 + r) % 4 = r by omega, upd_same]
    · show (upd S.out i x (j / 4)).at _ = _
      rw [upd_ne _ _ (by omega)]
theorem SmC.setEx (h : SmC w P F S) {N : Nat} {G : Int → Ck} (hm : MpE w' P.xb N G) (hg : w.grownBy w' (some P.xb)) : SmC w' P F { S with ex := G, mx := N } := by
  have hk : ∀ g, g < w.heap.size → g ≠ P.xb → w'.heap[g]? = w.heap[g]? := fun g hg' hne => hg.block g hg' fun e => hne (by injection e)
  exact h.turn hg (.inr (.inr (.inl rfl))) ((hk _ h.sl (mne h.row h.mx.heap)).trans h.row) ((hk _ h.cl (mne h.clk h.mx.heap)).trans h.clk) hm (h.mw.kept (hk _ h.mw.lt h.ne.1.symm))
theorem SmC.setWr (h : SmC w P F S) {N : Nat} {G : Int → Int → Ck} (hm : MpW w' P.wb N G) (hg : w.grownBy w' (some P.wb)) : SmC w' P F { S with wr := G, mw := N } := by
  have hk : ∀ g, g < w.heap.size → g ≠ P.wb → w'.heap[g]? = w.heap[g]? := fun g hg' hne => hg.block g hg' fun e => hne (by injection e)
  exact h.turn hg (.inr (.inr (.inr rfl))) ((hk _ h.sl (mne h.row h.mw.heap)).trans h.row) ((hk _ h.cl (mne h.clk h.mw.heap)).trans h.clk) (h.mx.kept (hk _ h.mx.lt h.ne.1)) hm
/-- A block that came later has turned. -/
theorem SmC.free {w0 : World} {S0 : St} (h0 : SmC w0 P F S0) (h : SmC w P F S) {z : Nat} (hg : w.grownBy w' (some z)) (hz : w0.heap.size ≤ z) : SmC w' P F S := by
  have hk : ∀ g, g < w0.heap.size → g < w.heap.size → w'.heap[g]? = w.heap[g]? := fun g h1 h2 => hg.block g h2 fun e => by injection e with e; omega
  exact ⟨(hk _ h0.sl h.sl).trans h.row, (hk _ h0.cl h.cl).trans h.clk, h.mx.kept (hk _ h0.mx.lt h.mx.lt), h.mw.kept (hk _ h0.mw.lt h.mw.lt), own_kept h.sy fun g hb => hk g (h0.sy.lt g hb).2 (h.sy.lt g hb).2, own_kept h.rr fun g hb => hk g (h0.rr.lt g hb).2 (h.rr.lt g hb).2,
    fun k hk4 => own_kept (h.rows k hk4) fun g hb => hk g ((h0.rows k hk4).lt g hb).2 ((h.rows k hk4).lt g hb).2, fun i hi => ⟨(h.ev i hi).1, (h.ev i hi).2.kept fun q => by unfold World.cell?; rw [hk _ h0.el h.el]⟩, Nat.lt_of_lt_of_le h.el hg.size, h.ne, h.rg, h.xs, h.n150⟩
theorem SmC.fl (h : SmC w P F S) {k : Nat} (hk : P.fp k) : k < w.heap.size := by
  rcases hk with rfl | rfl | rfl | rfl
  · exact h.sl
  · exact h.cl
  · exact h.mx.lt
  · exact h.mw.lt
theorem rowAt_kp {FP : Nat → Prop} {b : Nat} {C : Array Value} (h : rowAt w b = some C) (hk : Kp FP w w') (hb : ¬ FP b) : rowAt w' b = some C := by
  obtain ⟨t, ht⟩ := rowAt_heap h
  exact rowAt_of ((hk.block b (rowAt_lt h) hb).trans ht)
end
end Go.Proofs.Ytnmgafaebggeiaa.St
