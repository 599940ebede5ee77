import Derived.Test.YtjcbhomfggjmhaaMh
namespace Go.Proofs.Ytjcbhomfggjmhaa.Mm
open Go.ChangeShapes Go.WideShapes Go.ChangeAt Go.RowKit
open Go.Proofs.Ytjcbhomfggjmhaa.Lab (rowAt rowAt_cell rowAt_frz rowAt_lt rowAt_new rowAt_below rowAt_of rowAt_past rowAt_grown wpl_load wpl_store load_row grown_below)
set_option linter.unusedVariables false
theorem step_append_run {P : Program} {w : World} {ops : Array Oper} {o : Oper} {a : Act} {K : Act → World → Prop} {Q : Exit → Act → World → Prop} {E : Prop} (hgd : o.guard = none) (s x : Operand) (t : TypeId)
    (ho : o.op = .call { callee := .builtin .append, args := #[s, x], argTypes := #[t, t] }) (v v2 v' : Value) (w' : World) (hs : a.eval s = v) (hx : a.eval x = v2)
    (hr : (Builtin.append_ #[t, t] o.type #[v, v2]).run P w = .ok v' w') (h : K (a.put o.dst v') w') : if Region.wanted o (yielded ops a.tmps) = true then Oper.wp P o a w K Q else E := by
  have hw : Region.wanted o (yielded ops a.tmps) = true := by simp [Region.wanted, hgd]
  rw [if_pos hw]
  unfold Oper.wp execOp
  simp only [ho, resolve, invoke, builtin, Sem.run_bind, Sem.run_pure, Result.andThen_ok, List.map_toArray, List.map_cons, List.map_nil, hs, hx, hr]
  exact h
theorem arC_one (M : Me) (B C : Nat → Nat) (j : Nat) : ∀ u ∈ arC M B C j, u.oneCell' = true := by
  intro u hu
  simp only [arC, List.mem_cons, List.not_mem_nil, or_false] at hu
  rcases hu with rfl | rfl | rfl | rfl | rfl <;> rfl
theorem own_base {w : World} {b n size : Nat} {e : TypeId} {v : Value} {xs : List Value} (h : w.ownsRow b e size v n xs) : w.ownsRow 0 e size v n xs := by
  refine ⟨h.1, ?_⟩
  rcases h.2 with h2 | ⟨g, cap, cur, hv, hb, h3⟩
  · exact .inl h2
  · exact .inr ⟨g, cap, cur, hv, Nat.zero_le _, h3⟩
theorem own_pos {w : World} {b n size : Nat} {e : TypeId} {v : Value} {xs : List Value} (h : w.ownsRow b e size v n xs) (h0 : 0 < n) : ∃ g cap, v = .slice (some ⟨g, 0, none⟩) n cap ∧ b ≤ g ∧ g < w.heap.size := by
  rcases h.2 with ⟨_, h2⟩ | ⟨g, cap, cur, hv, hb, hg, _⟩
  · omega
  · exact ⟨g, cap, hv, hb, (Array.getElem?_eq_some_iff.1 hg).1⟩
/-- A memory in the making: so many areas of it. tm, ta as in MeC. -/
structure TwAt (tm ta : TypeId) (w : World) (mb : Nat) (M : Me) (j : Nat) (v : Value) (B C : Nat → Nat) : Prop where
  row : w.heap[mb]? = some (.cells #[v] tm (0, 0))
  ars : w.ownsRow (mb + 1) ta 5 v j (arL M B C j)
  byt : ∀ k, k < j → w.ownsRow (mb + 1) 5 1 (.slice (some ⟨B k, 0, none⟩) (M.S k) (C k)) (M.S k) (byL (M.y k) (M.S k))
  inj : ∀ i k, i < j → k < j → B i = B k → i = k
theorem TwAt.past {tm ta : TypeId} {w w' : World} {mb j : Nat} {M : Me} {v : Value} {B C : Nat → Nat} (h : TwAt tm ta w mb M j v B C) (hb : Below w.heap.size w w') : TwAt tm ta w' mb M j v B C :=
  ⟨(hb.block mb (Array.getElem?_eq_some_iff.1 h.row).1).trans h.row, own_past h.ars hb, fun k hk => own_past (h.byt k hk) hb, h.inj⟩
theorem TwAt.done {tm ta : TypeId} {w : World} {mb : Nat} {M : Me} {v : Value} {B C : Nat → Nat} (h : TwAt tm ta w mb M M.n v B C) (ho : MeOk M) : MeC tm ta w (fun k => mb ≤ k ∧ k < w.heap.size) mb M v B C := by
  have hm : mb < w.heap.size := (Array.getElem?_eq_some_iff.1 h.row).1
  refine ⟨h.row, own_base h.ars, fun k hk => own_base (h.byt k hk), h.inj, ⟨Nat.le_refl _, hm⟩, fun g hg => ?_, fun k hk => ?_, fun k hk => hk.2, ho⟩
  · obtain ⟨a, b⟩ := h.ars.lt g hg
    exact ⟨by omega, b⟩
  · obtain ⟨a, b⟩ := (h.byt k hk).lt (B k) rfl
    exact ⟨by omega, b⟩
theorem TwAt.bv {tm ta : TypeId} {w : World} {mb j : Nat} {M : Me} {v : Value} {B C : Nat → Nat} (h : TwAt tm ta w mb M j v B C) (ht : ta ≠ 5) {k : Nat} (hk : k < j) : some (B k) ≠ v.ownBlock := fun e => by
  obtain ⟨cur, hc⟩ := own_heap (h.byt k hk) (g := B k) rfl
  obtain ⟨cur', hc'⟩ := own_heap h.ars e.symm
  rw [hc] at hc'
  injection hc' with hc'
  injection hc' with _ hc'
  exact ht hc'.symm
theorem TwAt.step {tm ta : TypeId} (ht : ta ≠ 5) {w1 w2 w3 : World} {o : Obj} {mb j g cap : Nat} {M : Me} {v v3 : Value} {B C : Nat → Nat} (h : TwAt tm ta w1 mb M j v B C) (hb : Below w1.heap.size w1 w2)
    (hn : w2.ownsRow w1.heap.size 5 1 (.slice (some ⟨g, 0, none⟩) (M.S j) cap) (M.S j) (byL (M.y j) (M.S j)))
    (ha : w3.ownsRow (mb + 1) ta 5 v3 (j + 1) (arL M B C j ++ arC M (fun k => if k = j then g else B k) (fun k => if k = j then cap else C k) j)) (hg : (w2.alloc o).grownBy w3 v.ownBlock) :
    TwAt tm ta (w3.setCell ⟨mb, 0, none⟩ v3) mb M (j + 1) v3 (fun k => if k = j then g else B k) (fun k => if k = j then cap else C k) := by
  have hmb : mb < w1.heap.size := (Array.getElem?_eq_some_iff.1 h.row).1
  have hv : ∀ q, v.ownBlock = some q → mb + 1 ≤ q ∧ q < w1.heap.size := h.ars.lt
  have hgl := hn.lt g rfl
  have hkeep : ∀ q, q < w2.heap.size → some q ≠ v.ownBlock → w3.heap[q]? = w2.heap[q]? := fun q hq hne => (hg.block q (by simp; omega) hne).trans (heap_alloc_old w2 o hq)
  have hm3 : w3.heap[mb]? = some (.cells #[v] tm (0, 0)) := (hkeep mb (by have := hb.size; omega) (fun e => by have := hv mb e.symm; omega)).trans ((hb.block mb hmb).trans h.row)
  have hset : ∀ q, q ≠ mb → (w3.setCell ⟨mb, 0, none⟩ v3).heap[q]? = w3.heap[q]? := fun q hq => Below.heap_setCell _ _ _ _ hq
  refine ⟨?_, ?_, fun k hk => ?_, fun i k hi hk e => ?_⟩
  · rw [setCell_eq_setRow w3 mb 0 #[v] tm (0, 0) v3 hm3]
    exact setRow_heap _ _ _ _ _ _ hm3
  · have e : arL M (fun k => if k = j then g else B k) (fun k => if k = j then cap else C k) (j + 1) = arL M B C j ++ arC M (fun k => if k = j then g else B k) (fun k => if k = j then cap else C k) j := by
      show arL M _ _ j ++ _ = _
      rw [arL_congr M M (fun k => if k = j then g else B k) (fun k => if k = j then cap else C k) B C j (fun i hi => by
        have : i ≠ j := by omega
        simp [arC, this])]
    rw [e]
    exact own_kept ha fun q hq => hset q (by have := ha.lt q hq; omega)
  · by_cases e : k = j
    · subst e
      simp only [if_true]
      have h1 := own_kept (w' := w3.setCell ⟨mb, 0, none⟩ v3) hn (fun q hq => by
        injection hq with hq
        subst hq
        rw [hset g (by omega)]
        exact hkeep g hgl.2 (fun e => by have := hv g e.symm; omega))
      refine ⟨h1.1, ?_⟩
      rcases h1.2 with h2 | ⟨g', cap', cur, hv', hb', h3⟩
      · exact .inl h2
      · exact .inr ⟨g', cap', cur, hv', by omega, h3⟩
    · have hkj : k < j := by omega
      simp only [if_neg e]
      have hk1 := (h.byt k hkj).lt (B k) rfl
      have hk2 := own_past (h.byt k hkj) hb
      exact own_kept hk2 fun q hq => by
        injection hq with hq
        subst hq
        rw [hset (B k) (by omega)]
        exact hkeep (B k) (by have := hb.size; omega) (h.bv ht hkj)
  · try dsimp only at e
    by_cases e1 : i = j
    · by_cases e2 : k = j
      · omega
      · rw [if_pos e1, if_neg e2] at e
        have := (h.byt k (by omega)).lt (B k) rfl
        omega
    · by_cases e2 : k = j
      · rw [if_neg e1, if_pos e2] at e
        have := (h.byt i (by omega)).lt (B i) rfl
        omega
      · rw [if_neg e1, if_neg e2] at e
        exact h.inj i k (by omega) (by omega) e
def Me.row (M : Me) (k : Nat) : List Nat := (List.range (M.S k)).map (M.y k)
theorem row_len (M : Me) (k : Nat) : (M.row k).length = M.S k := by unfold Me.row; simp
theorem row_byL (M : Me) (k : Nat) : (M.row k).map (fun c => Value.int .u8 (c : Nat)) = byL (M.y k) (M.S k) := by
  unfold Me.row byL
  rw [List.map_map]
  rfl
theorem bys_own {w : World} {b g n cap : Nat} {y : Nat → Nat} (h : w.ownsRow b 5 1 (.slice (some ⟨g, 0, none⟩) n cap) n (byL y n)) : Bys w (.slice (some ⟨g, 0, none⟩) n cap) ((List.range n).map y) := by
  refine ⟨_, cap, by simp, by simpa using own_cap h, fun h0 => ⟨⟨g, 0, none⟩, rfl, (h.lt g rfl).2, fun j c hj => ?_⟩⟩
  have hj1 : j < n := by simpa using (List.getElem?_eq_some_iff.1 hj).1
  rw [List.getElem?_map, List.getElem?_range hj1] at hj
  injection hj with hj
  subst hj
  have : (⟨g, 0, none⟩ : Addr).add j = ⟨g, j, none⟩ := by unfold Addr.add; split <;> simp_all
  rw [this]
  exact (own_cells h).1 j _ (byL_at _ _ _ hj1)
end Go.Proofs.Ytjcbhomfggjmhaa.Mm
namespace Go.Proofs.Ytjcbhomfggjmhaa.Mm
open Go.ChangeShapes Go.WideShapes Go.ChangeAt Go.RowKit
open Go.Proofs.Ytjcbhomfggjmhaa.Lab (rowAt rowAt_cell rowAt_frz rowAt_lt rowAt_new rowAt_below rowAt_of rowAt_past rowAt_grown wpl_load wpl_store load_row grown_below)
set_option linter.unusedVariables false
section
variable {w : World} {FP : Nat → Prop} {p : Nat} {M : Me} {v : Value} {B C : Nat → Nat}
end
end Go.Proofs.Ytjcbhomfggjmhaa.Mm
