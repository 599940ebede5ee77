import Derived.Test.YtnmgafaebggeiaaSn
namespace Go.Proofs.Ytnmgafaebggeiaa.St
open Go.ChangeShapes Go.WideShapes Go.ChangeAt Go.RowKit Go.Maps
set_option linter.unusedVariables false
/-! ### The stamper, new -/
theorem own_set1 {w : World} {base n g cap j : Nat} {e : TypeId} {f : Nat → Value} (h : w.ownsRow base e 1 (.slice (some ⟨g, 0, none⟩) n cap) n ((List.range n).map f)) (hj : j < n) (v : Value) :
    (w.setCell ⟨g, j, none⟩ v).ownsRow base e 1 (.slice (some ⟨g, 0, none⟩) n cap) n ((List.range n).map fun i => if i = j then v else f i) := by
  rcases h.2 with ⟨h1, _⟩ | ⟨g', cap', cur, hv, hb, hg, hc, hm, hs, ht⟩
  · cases h1
  · injection hv with e1 e2 e3
    injection e1 with e1
    injection e1 with e1
    subst e1 e3
    refine ⟨by simp, .inr ⟨g, cap, cur.setIfInBounds j v, rfl, hb, ?_, hc, hm, by simp [hs], ?_⟩⟩
    · rw [setCell_eq_setRow w g j cur e (0, 0) v hg]
      exact setRow_heap _ _ _ _ _ _ hg
    · rw [Array.toList_setIfInBounds, Nat.mul_one] at *
      apply List.ext_getElem?
      intro i
      rw [List.getElem?_take]
      by_cases hi : i < n
      · rw [if_pos hi, List.getElem?_map, List.getElem?_range hi, List.getElem?_set]
        have hci : cur.toList[i]? = some (f i) := by
          have := congrArg (fun l => l[i]?) ht
          simp only [List.getElem?_take, if_pos hi, List.getElem?_map, List.getElem?_range hi] at this
          exact this
        by_cases hij : j = i
        · subst hij
          rw [if_pos rfl, if_pos (by rw [Array.length_toList]; omega)]
          simp
        · rw [if_neg hij, hci]
          simp [Ne.symm hij]
      · rw [if_neg hi, List.getElem?_eq_none (by simp; omega)]
/-- What the stamper works over, once the first j events have been looked at. -/
def FX (j n : Nat) (X : Nat → Ev) : Fx := { N := n, X := X, sy := fun i => decide (i < j) && syB (X i).kd (X i).sl, rows := rowsOf X n }
def S00 : St := { gone := fun _ => 0, now := fun _ => Ck.zero, beg := fun _ => Ck.zero, ex := fun _ => Ck.zero, wr := fun _ _ => Ck.zero, out := fun _ => Ck.zero, mx := 0, mw := 0 }
theorem rowsOf_mem {X : Nat → Ev} {n k i : Nat} (h : i ∈ rowsOf X n k) : i < n ∧ (X i).th = (k : Nat) := by
  unfold rowsOf at h
  rw [List.mem_filter] at h
  exact ⟨List.mem_range.1 h.1, by simpa using h.2⟩
theorem rowsOf_len (X : Nat → Ev) (n k : Nat) : (rowsOf X n k).length ≤ n := Nat.le_trans (List.length_filter_le _ _) (by rw [List.length_range]; exact Nat.le_refl n)
theorem row0 (P : Pc) (n : Nat) (X : Nat → Ev) : rowS P (FX 0 n X) S00 = #[.slice P.ea n P.ec, .slice (some ⟨P.sb, 0, none⟩) n n, .slice (some ⟨P.rb, 0, none⟩) 4 4, .int .i64 0, .int .i64 0, .int .i64 0, .int .i64 0, .int .i64 0, .int .i64 0, .int .i64 0, .int .i64 0, .int .i64 0, .int .i64 0, .int .i64 0, .int .i64 0, .int .i64 0, .int .i64 0, .int .i64 0, .int .i64 0, .int .i64 0, .int .i64 0, .int .i64 0, .int .i64 0, .int .i64 0, .int .i64 0, .int .i64 0, .int .i64 0, .int .i64 0, .int .i64 0, .int .i64 0, .int .i64 0, .int .i64 0, .int .i64 0, .int .i64 0, .int .i64 0, .int .i64 0, .int .i64 0, .int .i64 0, .int .i64 0, .map (some P.xb), .map (some P.wb), .slice (some ⟨P.cb, 0, none⟩) n n] := by
  kernel_rfl
theorem new_stamper {w0 W : World} {n c : Nat} {a : Option Addr} {X : Nat → Ev} {v19 v21 v22 v23 v26 : Value} {y k m1 m2 R : Nat} {V : Nat → Value} (h : Mk w0 n X true true true true true v19 v21 v22 v23 v26 y k m1 m2 R V W) (hev : EvS w0 a n X) (hn : n ≤ 150) (hth : ∀ i, i < n → thB (X i).th = true) (hok : ∀ i, i < n → (X i).ok) :
    ∃ P : Pc, P.s = W.heap.size ∧ P.ea = a ∧ P.ec = c ∧ P.cb = k ∧ w0.heap.size ≤ P.cb ∧ w0.heap.size ≤ P.s ∧ w0.heap.size ≤ P.xb ∧ w0.heap.size ≤ P.wb ∧ w0.heap.size ≤ P.sb ∧ P.eb ≠ P.sb ∧
      SmC (W.alloc (.cells #[.slice a n c, v19, v21, .int .i64 0, .int .i64 0, .int .i64 0, .int .i64 0, .int .i64 0, .int .i64 0, .int .i64 0, .int .i64 0, .int .i64 0, .int .i64 0, .int .i64 0, .int .i64 0, .int .i64 0, .int .i64 0, .int .i64 0, .int .i64 0, .int .i64 0, .int .i64 0, .int .i64 0, .int .i64 0, .int .i64 0, .int .i64 0, .int .i64 0, .int .i64 0, .int .i64 0, .int .i64 0, .int .i64 0, .int .i64 0, .int .i64 0, .int .i64 0, .int .i64 0, .int .i64 0, .int .i64 0, .int .i64 0, .int .i64 0, .int .i64 0, v22, v23, v26] 59)) P (FX 0 n X) S00 := by
  obtain ⟨rfl, hy, hy0⟩ := h.hy rfl
  obtain ⟨rfl, hr⟩ := h.hr rfl
  obtain ⟨rfl, h1, h10⟩ := h.h1 rfl
  obtain ⟨rfl, h2, h20⟩ := h.h2 rfl
  obtain ⟨rfl, hk, hk0⟩ := h.hk rfl
  have hne := h.ne rfl rfl
  have hyl := (Array.getElem?_eq_some_iff.1 hy).1
  have hkl := (Array.getElem?_eq_some_iff.1 hk).1
  obtain ⟨eb, eo, hel, hbz, hea⟩ : ∃ eb eo, eb < W.heap.size ∧ (eb < w0.heap.size ∨ eb = R) ∧ ∀ i, i < n → a = some ⟨eb, eo, none⟩ ∧ EvAt W eb (eo + i * 9) (X i) := by
    rcases hev.past h.bel with h0 | ⟨b, o, e, hl, hc⟩
    · exact ⟨R, 0, hr.lr, .inr rfl, fun i hi => by omega⟩
    · rcases hev with h0 | ⟨b', o', e', hl', hc'⟩
      · exact ⟨R, 0, hr.lr, .inr rfl, fun i hi => by omega⟩
      · rw [e] at e'
        injection e' with e'
        injection e' with e1 e2
        subst e1
        exact ⟨b, o, hl, .inl hl', fun i hi => ⟨e, hc i hi⟩⟩
  have hR0 := hr.lR
  have eR : ∀ {z : Nat} {A : Array Value} {t : TypeId}, W.heap[z]? = some (.cells A t (0, 0)) → t ≠ 61 → w0.heap.size ≤ z → eb ≠ z := fun hz ht hz0 e => by
    rcases hbz with hb | hb
    · omega
    · rw [← e, hb, hr.rr] at hz
      injection hz with hz
      injection hz with _ hz
      exact ht hz.symm
  have eM : ∀ {z : Nat}, (∃ es q, W.heap[z]? = some (.map es q)) → w0.heap.size ≤ z → eb ≠ z := fun hz hz0 e => by
    rcases hbz with hb | hb
    · omega
    · obtain ⟨es, q, hz⟩ := hz
      rw [← e, hb, hr.rr] at hz
      cases hz
  refine ⟨⟨W.heap.size, k, m1, m2, y, R, eb, eo, a, c, V⟩, rfl, rfl, rfl, rfl, hk0, h.bel.size, h10, h20, hy0, eR hy (by decide) hy0, ?_⟩
  have hb : ∀ C : Array Value, Below W.heap.size W (W.alloc (.cells C 59)) := fun C => (Below.refl _ _).alloc (Nat.le_refl _) _
  refine ⟨?_, ((hb _).block k hkl).trans hk, h1.kept ((hb _).block m1 h1.lt), h2.kept ((hb _).block m2 h2.lt), ?_, ?_, fun q hq => ?_, fun i hi => ⟨(hea i hi).1, (hea i hi).2.kept fun q => (hb _).cell (p := ⟨eb, q, none⟩) hel⟩, Nat.lt_of_lt_of_le hel (hb _).size, ⟨hne, Nat.ne_of_lt hel, eR hk (by decide) hk0, eM h1.heap h10, eM h2.heap h20⟩, fun q hq i hi => rowsOf_mem hi, fun i hi => ⟨hok i hi, ?_⟩, hn⟩
  · rw [heap_new, row0]
  · refine ⟨by simp, .inr ⟨y, n, _, rfl, Nat.zero_le _, ((hb _).block y hyl).trans hy, Nat.le_refl _, by unfold maxLen; omega, by simp, ?_⟩⟩
    apply List.ext_getElem?
    intro j
    by_cases hj : j < n
    · simp [FX, hj]
    · simp [FX, hj]
  · exact ⟨rfl, .inr ⟨R, 4, _, rfl, Nat.zero_le _, ((hb _).block R hr.lr).trans hr.rr, Nat.le_refl _, by unfold maxLen; omega, rfl, rfl⟩⟩
  · exact own_raise (own_past (hr.rows q hq) (hb _)) (Nat.zero_le _)
  · have := hth i hi
    unfold thB at this
    show 0 ≤ (X i).th ∧ (X i).th < 4
    simpa using this
theorem hne_s {w : World} {a b : Nat} {A B : Array Value} {s t : TypeId} {f g : Nat × Nat} (h : w.heap[a]? = some (.cells A s f)) (h' : w.heap[b]? = some (.cells B t g)) (hs : s ≠ t := by decide) : a ≠ b := hne h h' hs
section
variable {w w' : World} {P : Pc} {S : St} {j n : Nat} {X : Nat → Ev}
theorem SmC.setSync (h : SmC w P (FX j n X) S) (hj : j < n) (hne : P.eb ≠ P.sb) : SmC (w.setCell ⟨P.sb, j, none⟩ (.bool (syB (X j).kd (X j).sl))) P (FX (j + 1) n X) S := by
  have hg := grown_set w ⟨P.sb, j, none⟩ (.bool (syB (X j).kd (X j).sl))
  obtain ⟨cur, hcur⟩ := own_heap h.sy rfl
  have hk : ∀ g, g < w.heap.size → g ≠ P.sb → (w.setCell ⟨P.sb, j, none⟩ (.bool (syB (X j).kd (X j).sl))).heap[g]? = w.heap[g]? := fun g hg' hn => hg.block g hg' fun e => hn (by injection e)
  refine ⟨(hk _ h.sl (hne_s h.row hcur)).trans h.row, (hk _ h.cl (hne_s h.clk hcur)).trans h.clk, h.mx.kept (hk _ h.mx.lt (mne hcur h.mx.heap).symm), h.mw.kept (hk _ h.mw.lt (mne hcur h.mw.heap).symm), ?_, own_kept h.rr fun g hg' => hk g (h.rr.lt g hg').2 ?_, fun k hk4 => own_kept (h.rows k hk4) fun g hg' => hk g ((h.rows k hk4).lt g hg').2 ?_,
    fun i hi => ⟨(h.ev i hi).1, (h.ev i hi).2.kept fun q => by unfold World.cell?; rw [hk _ h.el hne]⟩, Nat.lt_of_lt_of_le h.el hg.size, h.ne, h.rg, h.xs, h.n150⟩
  · have := own_set1 h.sy hj (.bool (syB (X j).kd (X j).sl))
    have e : (fun i => if i = j then Value.bool (syB (X j).kd (X j).sl) else .bool ((FX j n X).sy i)) = fun i => .bool ((FX (j + 1) n X).sy i) := by
      funext i
      show _ = Value.bool (decide (i < j + 1) && syB (X i).kd (X i).sl)
      by_cases e : i = j
      · subst e
        rw [if_pos rfl]
        simp
      · rw [if_neg e]
        show Value.bool (decide (i < j) && syB (X i).kd (X i).sl) = _
        have : decide (i < j) = decide (i < j + 1) := decide_eq_decide.2 (by omega)
        rw [this]
    rw [e] at this
    exact this
  · obtain ⟨cur', hc'⟩ := own_heap h.rr hg'
    exact hne_s hc' hcur
  · obtain ⟨cur', hc'⟩ := own_heap (h.rows k hk4) hg'
    exact hne_s hc' hcur
theorem SmC.all (h : SmC w P (FX n n X) S) {F : Fx} (hN : F.N = n) (hX : F.X = X) (hr : F.rows = rowsOf X n) (hs : ∀ i, i < n → F.sy i = syB (X i).kd (X i).sl) : SmC w P F S := by
  obtain ⟨N, X', sy, rows⟩ := F
  dsimp only at hN hX hr hs
  subst hN hX hr
  refine ⟨h.row, h.clk, h.mx, h.mw, ?_, h.rr, h.rows, h.ev, h.el, h.ne, h.rg, h.xs, h.n150⟩
  have h1 := h.sy
  have e : ((List.range N).map fun i => Value.bool ((FX N N X').sy i)) = (List.range N).map fun i => .bool (sy i) := List.map_congr_left fun i hi => by
    rw [hs i (List.mem_range.1 hi)]
    show Value.bool (decide (i < N) && _) = _
    rw [decide_eq_true (List.mem_range.1 hi)]
    rfl
  show w.ownsRow 0 4 1 _ _ ((List.range N).map fun i => Value.bool (sy i))
  rw [← e]
  exact h1
end
end Go.Proofs.Ytnmgafaebggeiaa.St
