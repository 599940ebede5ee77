import Derived.Test.YtgdlcnngplfjnaaDoorRows
import Derived.WalkKit
import Derived.ProofKit
import Derived.OpenShut
import Derived.Deep.QuietTactic
import Derived.BigQuiet
import Derived.Outline
import Derived.WalkSmall
import Derived.WalkLawsBesides
import Derived.WalkSpells
import Derived.BigGuardPart
import Derived.RegionTactic
import Derived.Deep.RegionHeld3
import Derived.Lib.Hide
import Derived.Deep.MidRow
import Derived.Below
import Derived.Deep.RegionWith
import Derived.Deep.OwnRows
import Derived.Deep.AppendLies
namespace Go.Proofs.YtgdlcnngplfjnaaDoor
open Go.ChangeShapes Go.WideShapes Go.ChangeAt Go.RowKit
set_option linter.unusedVariables false
def rowAt (w : World) (b : Nat) : Option (Array Value) := match w.heap[b]? with
  | some (.cells C _ (0, 0)) => some C
  | _ => none
theorem rowAt_drew (w : World) (b : Nat) : rowAt w.drew b = rowAt w b := rfl
theorem rowAt_drewN (w : World) (n b : Nat) : rowAt (w.drewN n) b = rowAt w b := rfl
theorem rowAt_cell {w : World} {b : Nat} {C : Array Value} (h : rowAt w b = some C) (k : Nat) : w.cell? ⟨b, k, none⟩ = C[k]? := by
  unfold rowAt at h
  split at h
  · rename_i C' t hh
    injection h with h
    subst h
    exact cell_of_row w b k C' t _ hh
  · cases h
theorem rowAt_frz {w : World} {b : Nat} {C : Array Value} (h : rowAt w b = some C) (k : Nat) : w.frozen? ⟨b, k, none⟩ = false := by
  unfold rowAt at h
  split at h
  · rename_i C' t hh
    exact frozen_of_row w b k C' t hh
  · cases h
theorem rowAt_lt {w : World} {b : Nat} {C : Array Value} (h : rowAt w b = some C) : b < w.heap.size := by
  unfold rowAt at h
  split at h
  · rename_i C' t hh
    exact (Array.getElem?_eq_some_iff.1 hh).1
  · cases h
theorem rowAt_new (w : World) (C : Array Value) (t : TypeId) : rowAt (w.alloc (.cells C t)) w.heap.size = some C := by
  unfold rowAt
  rw [heap_alloc_new]
  rfl
theorem rowAt_below {w W w' : World} {b : Nat} {C : Array Value} (h : rowAt w b = some C) (hb : Below W.heap.size W w') (he : W.heap = w.heap) : rowAt w' b = some C := by
  have hl : b < W.heap.size := by rw [he]; exact rowAt_lt h
  unfold rowAt at h ⊢
  rw [hb.block b hl, he]
  exact h
theorem extract_at (C : Array Value) (off n j : Nat) (v : Value) (h : (C.extract off (off + n)).toList[j]? = some v) : C[off + j]? = some v := by
  rw [Array.getElem?_toList, Array.getElem?_extract] at h
  split at h
  · exact h
  · cases h
theorem load_row {ty : TypeId} {n : Nat} {d : TypeDesc} (hu : Tryd.prog.underlying ty = some d) (hd : d.isRow = true) (hi : (Tryd.prog.info? ty).map (·.size) = some n) (b off : Nat) (w : World) :
    (Instr.loadAt ty (.pointer (some ⟨b, off, none⟩))).run Tryd.prog w = match rowAt w b with
      | some C => if off + n ≤ C.size then .ok (.agg (C.extract off (off + n))) w else (loadVar ty ⟨b, off, none⟩).run Tryd.prog w
      | none => (loadVar ty ⟨b, off, none⟩).run Tryd.prog w := by
  have h0 : (Instr.loadAt ty (.pointer (some ⟨b, off, none⟩))).run Tryd.prog w = (loadVar ty ⟨b, off, none⟩).run Tryd.prog w := by
    simp only [Instr.loadAt, Instr.sureAddr, Sem.run_bind, Sem.run_pure, Result.andThen_ok]
  split
  · rename_i C hC
    split
    · rename_i hs
      have hsz : (C.extract off (off + n)).toList.length = n := by rw [Array.length_toList, Array.size_extract]; omega
      have := run_loadAt_mid (P := Tryd.prog) w b off ty (C.extract off (off + n)).toList d (fun j v hv => by rw [rowAt_cell hC]; exact extract_at C off n j v hv) hu hd (by rw [hsz]; exact hi)
      exact this
    · exact h0
  · exact h0
theorem wpl_load {P : Program} {ops : Array Oper} {rest : List Oper} {o : Oper} {a : Act} {w : World} {Q : Exit → Act → World → Prop} (hgd : o.guard = none) (ty : TypeId) (x : Operand) (ho : o.op = .load ty x)
    (b off : Nat) (hx : a.eval x = .pointer (some ⟨b, off, none⟩)) (v : Array Value) (hr : (Instr.loadAt ty (.pointer (some ⟨b, off, none⟩))).run P w = .ok (.agg v) w)
    (h : wpList P ops Q rest (a.put o.dst (.agg v)) w) : wpList P ops Q (o :: rest) a w :=
  wpList_plain hgd fun _ hK => by
    unfold Oper.wp execOp
    simp only [ho, hx, Sem.run_bind, hr, Result.andThen_ok, Sem.run_pure]
    exact hK _ _ h
theorem rowAt_heap {w : World} {b : Nat} {C : Array Value} (h : rowAt w b = some C) : ∃ t, w.heap[b]? = some (.cells C t (0, 0)) := by
  unfold rowAt at h
  split at h
  · rename_i C' t hh
    injection h with h
    subst h
    exact ⟨t, hh⟩
  · cases h
theorem rowAt_of {w : World} {b : Nat} {C : Array Value} {t : TypeId} (h : w.heap[b]? = some (.cells C t (0, 0))) : rowAt w b = some C := by unfold rowAt; rw [h]; rfl
theorem rowAt_past {w : World} {b : Nat} {C : Array Value} (h : rowAt w b = some C) (o : Obj) : rowAt (w.alloc o) b = some C := by
  obtain ⟨t, ht⟩ := rowAt_heap h
  exact rowAt_of ((heap_alloc_old w o (rowAt_lt h)).trans ht)
theorem rowAt_grown {w w' : World} {b g : Nat} {C : Array Value} (h : rowAt w b = some C) (hg : w.grownBy w' (some g)) (hne : b ≠ g) : rowAt w' b = some C := by
  obtain ⟨t, ht⟩ := rowAt_heap h
  exact rowAt_of ((hg.block b (rowAt_lt h) (fun e => hne (by injection e))).trans ht)
theorem wpl_store {P : Program} {ops : Array Oper} {rest : List Oper} {o : Oper} {a : Act} {w : World} {Q : Exit → Act → World → Prop} (hgd : o.guard = none) (ty : TypeId) (x y : Operand) (ho : o.op = .store ty x y)
    (g : Nat) (cells old : Array Value) (hx : a.eval x = .pointer (some ⟨g, 0, none⟩)) (hy : a.eval y = .agg cells) (hg : rowAt w g = some old) (hi : (P.info? ty).map (·.size) = some cells.size)
    (hold : old.size = cells.size) (h1 : cells.all (·.oneCell') = true)
    (h : ∀ w', rowAt w' g = some cells → w.grownBy w' (some g) → wpList P ops Q rest (a.put o.dst undef) w') : wpList P ops Q (o :: rest) a w := by
  obtain ⟨t, ht⟩ := rowAt_heap hg
  refine wpList_store_row hgd ty x y ho g cells hx hy t old ht hi hold h1 (h _ (rowAt_of (setRow_heap _ _ _ _ _ _ ht)) ⟨rfl, rfl, rfl, by simp, fun k hk hne => setRow_other _ _ _ _ (fun e => hne (by rw [e]))⟩)
theorem grown_below {a w w' : World} {g : Nat} (h : Below a.heap.size a w) (hg : w.grownBy w' (some g)) (hlt : a.heap.size ≤ g) : Below a.heap.size a w' :=
  h.grown hg h.size (fun q hq => by injection hq with hq; omega)
theorem rowAt_set {w : World} {b : Nat} {C : Array Value} (h : rowAt w b = some C) (k : Nat) (v : Value) : rowAt (w.setCell ⟨b, k, none⟩ v) b = some (C.setIfInBounds k v) := by
  obtain ⟨t, ht⟩ := rowAt_heap h
  rw [setCell_eq_setRow w b k C t _ v ht]
  exact rowAt_of (setRow_heap _ _ _ _ _ _ ht)
theorem rowAt_set_far {w : World} {b g : Nat} {C : Array Value} (h : rowAt w b = some C) (hne : b ≠ g) (k : Nat) (v : Value) : rowAt (w.setCell ⟨g, k, none⟩ v) b = some C := by
  obtain ⟨t, ht⟩ := rowAt_heap h
  exact rowAt_of ((Below.heap_setCell _ _ _ _ hne).trans ht)
theorem wpl_build {P : Program} {ops : Array Oper} {rest : List Oper} {o : Oper} {a : Act} {w : World} {Q : Exit → Act → World → Prop} (hg : o.guard = none) (t : TypeId) (parts : Array (Nat × Operand)) (ho : o.op = .build t parts)
    (l : List (Nat × Value)) (hl : (parts.map fun (i, x) => (i, a.eval x)).toList = l) (cells : Array Value) (hf : P.built t l = some cells)
    (h : wpList P ops Q rest (a.put o.dst (.agg cells)) w) : wpList P ops Q (o :: rest) a w := by
  refine wpList_build hg t parts ho (by rw [hl, hf]; rfl) ?_
  rw [hl, hf]
  exact h
theorem setCells_row : ∀ (l : List Value) (k : Nat) (w : World) (b : Nat) (C : Array Value), rowAt w b = some C → rowAt (w.setCells b k l) b = some ((l.zipIdx k).foldl (fun cs x => cs.setIfInBounds x.2 x.1) C)
  | [], _, _, _, _, h => h
  | v :: l, k, w, b, C, h => by
    rw [World.setCells, List.zipIdx_cons, List.foldl_cons]
    exact setCells_row l (k + 1) _ b _ (rowAt_set h k v)
theorem setCells_grown : ∀ (l : List Value) (k : Nat) (w : World) (b : Nat), w.grownBy (w.setCells b k l) (some b)
  | [], _, _, _ => ⟨rfl, rfl, rfl, Nat.le_refl _, fun _ _ _ => rfl⟩
  | v :: l, k, w, b => by
    have h1 : w.grownBy (w.setCell ⟨b, k, none⟩ v) (some b) := ⟨rfl, rfl, rfl, by simp [World.setCell], fun k' hk hne => Below.heap_setCell _ _ _ _ (fun e => hne (by rw [e]))⟩
    have h2 := setCells_grown l (k + 1) (w.setCell ⟨b, k, none⟩ v) b
    exact ⟨h2.os.trans h1.os, h2.tape.trans h1.tape, h2.output.trans h1.output, Nat.le_trans h1.size h2.size, fun i hi hne => (h2.block i (Nat.lt_of_lt_of_le hi h1.size) hne).trans (h1.block i hi hne)⟩
theorem below_step {a w W w' : World} (h : Below a.heap.size a w) (hb : Below W.heap.size W w') (he : W.heap = w.heap) (ho : W.os = w.os) (ht : W.tape = w.tape) (hp : W.output = w.output) : Below a.heap.size a w' := by
  have hb' : Below w.heap.size w w' := by
    rw [he] at hb
    exact ⟨hb.os.trans ho, hb.tape.trans ht, hb.output.trans hp, by rw [← he]; exact hb.size, fun k hk => by rw [hb.block k hk, he]⟩
  exact h.trans (hb'.mono h.size)
theorem below_drewN {B : Nat} {a w : World} (h : Below B a w) (n : Nat) : Below B a (w.drewN n) := ⟨h.os, h.tape, h.output, h.size, h.block⟩
theorem grown_set (w : World) (a : Addr) (u : Value) : w.grownBy (w.setCell a u) (some a.block) :=
  ⟨rfl, rfl, rfl, by simp, fun k _ hk => heap_setCell_other w a k u (fun e => hk (by rw [e]))⟩
theorem setCells_far {w : World} {b g : Nat} {C : Array Value} (h : rowAt w b = some C) (hne : b ≠ g) (k : Nat) (l : List Value) : rowAt (w.setCells g k l) b = some C := rowAt_grown h (setCells_grown l k w g) hne
end Go.Proofs.YtgdlcnngplfjnaaDoor
