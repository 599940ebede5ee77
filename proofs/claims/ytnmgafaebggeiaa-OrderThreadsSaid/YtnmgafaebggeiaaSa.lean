import Derived.Test.YtnmgafaebggeiaaRk
import Derived.Maps.OwnSet
import Derived.Maps.AppendAt
import Derived.Deep.CutBlock
import Derived.Deep.DeepCutAuto
import Derived.Deep.CutRange
import Derived.Deep.QuietTactic
import Derived.BigQuiet
import Derived.Lib.Hide
import Derived.OrdersHeld
import Derived.Deep.RegionHeld
import Derived.Deep.MidRow
import Derived.Deep.RegionWith
import Derived.Deep.RegionLaw
import Derived.Deep.OwnRows
import Derived.WalkKit
import Derived.ProofKit
namespace Go.Proofs.Ytnmgafaebggeiaa.St
open Go.ChangeShapes Go.WideShapes Go.ChangeAt Go.RowKit Go.Maps
set_option linter.unusedVariables false
theorem own_cells {w : World} {B n cap size : Nat} {e : TypeId} {g : Nat} {xs : List Value} (h : w.ownsRow B e size (.slice (some ⟨g, 0, none⟩) n cap) n xs) : (∀ q u, xs[q]? = some u → w.cell? ⟨g, q, none⟩ = some u) ∧ (∀ q, w.frozen? ⟨g, q, none⟩ = false) := by
  rcases h.2 with ⟨h1, _⟩ | ⟨g', cap', cur, hv, hb, hg, hc, hm, hs, ht⟩
  · cases h1
  · injection hv with e1 e2 e3
    injection e1 with e1
    injection e1 with e1
    subst e1 e3
    refine ⟨fun q u hu => ?_, fun q => frozen_of_row w g q cur e hg⟩
    rw [cell_of_row w g q cur e _ hg]
    rw [← ht, List.getElem?_take] at hu
    split at hu
    · simpa using hu
    · cases hu
theorem own_cap {w : World} {B n cap size : Nat} {e : TypeId} {a : Option Addr} {xs : List Value} (h : w.ownsRow B e size (.slice a n cap) n xs) : n ≤ cap := by
  rcases h.2 with ⟨h1, h2⟩ | ⟨g', cap', cur, hv, hb, hg, hc, hm, hs, ht⟩
  · omega
  · injection hv with e1 e2 e3
    subst e3
    exact hc
theorem own_form {w : World} {base n size : Nat} {e : TypeId} {v : Value} {xs : List Value} (h : w.ownsRow base e size v n xs) : ∃ a cap, v = .slice a n cap ∧ (n = 0 ∨ ∃ g, a = some ⟨g, 0, none⟩) := by
  rcases h.2 with ⟨rfl, rfl⟩ | ⟨g, cap, cur, rfl, _, _, hc, _⟩
  · exact ⟨none, 0, rfl, .inl rfl⟩
  · exact ⟨_, cap, rfl, .inr ⟨g, rfl⟩⟩
theorem own_heap {w : World} {base n size g : Nat} {e : TypeId} {v : Value} {xs : List Value} (h : w.ownsRow base e size v n xs) (hg : v.ownBlock = some g) : ∃ cur, w.heap[g]? = some (.cells cur e (0, 0)) := by
  rcases h.2 with ⟨rfl, _⟩ | ⟨g', cap, cur, rfl, hb, hg', _⟩
  · cases hg
  · injection hg with hg
    subst hg
    exact ⟨cur, hg'⟩
theorem own_kept {w w' : World} {base n size : Nat} {e : TypeId} {v : Value} {xs : List Value} (h : w.ownsRow base e size v n xs) (hk : ∀ g, v.ownBlock = some g → w'.heap[g]? = w.heap[g]?) : w'.ownsRow base e size v n xs := by
  refine ⟨h.1, ?_⟩
  rcases h.2 with h2 | ⟨g, cap, cur, rfl, hb, hg, h3⟩
  · exact .inl h2
  · exact .inr ⟨g, cap, cur, rfl, hb, (hk g rfl).trans hg, h3⟩
theorem own_past {w w' : World} {base n size : Nat} {e : TypeId} {v : Value} {xs : List Value} (h : w.ownsRow base e size v n xs) (hb : Below w.heap.size w w') : w'.ownsRow base e size v n xs := own_kept h fun g hg => hb.block g (h.lt g hg).2
theorem own_raise {w : World} {b b' n size : Nat} {e : TypeId} {v : Value} {xs : List Value} (h : w.ownsRow b e size v n xs) (hb : b' ≤ b) : w.ownsRow b' e size v n xs := by
  refine ⟨h.1, ?_⟩
  rcases h.2 with h2 | ⟨g, cap, cur, hv, hb2, h3⟩
  · exact .inl h2
  · exact .inr ⟨g, cap, cur, hv, Nat.le_trans hb hb2, h3⟩
theorem step_append_run {P : Program} {w : World} {ops : Array Oper} {o : Oper} {a : Act} {K : Act → World → Prop} {Q : Exit → Act → World → Prop} {E : Prop} (hgd : o.guard = none) (s x : Operand) (t : TypeId)
    (ho : o.op = .call { callee := .builtin .append, args := #[s, x], argTypes := #[t, t] }) (v v2 v' : Value) (w' : World) (hs : a.eval s = v) (hx : a.eval x = v2)
    (hr : (Builtin.append_ #[t, t] o.type #[v, v2]).run P w = .ok v' w') (h : K (a.put o.dst v') w') : if Region.wanted o (yielded ops a.tmps) = true then Oper.wp P o a w K Q else E := by
  have hw : Region.wanted o (yielded ops a.tmps) = true := by simp [Region.wanted, hgd]
  rw [if_pos hw]
  unfold Oper.wp execOp
  simp only [ho, resolve, invoke, builtin, Sem.run_bind, Sem.run_pure, Result.andThen_ok, List.map_toArray, List.map_cons, List.map_nil, hs, hx, hr]
  exact h
theorem own_pos {w : World} {b n size : Nat} {e : TypeId} {v : Value} {xs : List Value} (h : w.ownsRow b e size v n xs) (h0 : 0 < n) : ∃ g cap, v = .slice (some ⟨g, 0, none⟩) n cap ∧ b ≤ g ∧ g < w.heap.size := by
  rcases h.2 with ⟨_, h2⟩ | ⟨g, cap, cur, hv, hb, hg, _⟩
  · omega
  · exact ⟨g, cap, hv, hb, (Array.getElem?_eq_some_iff.1 hg).1⟩
theorem wpList_append_run' {P : Program} {w : World} {ops : Array Oper} {rest : List Oper} {o : Oper} {a : Act} {Q : Exit → Act → World → Prop} (hgd : o.guard = none) (s x : Operand) (t : TypeId)
    (ho : o.op = .call { callee := .builtin .append, args := #[s, x], argTypes := #[t, t] }) (v v2 v' : Value) (w' : World) (hs : a.eval s = v) (hx : a.eval x = v2)
    (hr : (Builtin.append_ #[t, t] o.type #[v, v2]).run P w = .ok v' w') (h : wpList P ops Q rest (a.put o.dst v') w') : wpList P ops Q (o :: rest) a w := by
  refine wpList_plain hgd fun K hK => ?_
  unfold Oper.wp
  simp only [execOp, ho, resolve, invoke, builtin, Sem.run_bind, Sem.run_pure, Result.andThen_ok, List.map_toArray, List.map_cons, List.map_nil, hs, hx, hr]
  exact hK _ _ h
/-! ### A region with one operation, number z, that may break what is held: it waits for all others -/
section
variable {P : Program} {ops : Array Oper} {Q : Exit → Act → World → Prop} {md : Region.Mode} {S : World → Prop} {z : Nat}
/-- The world behind operation i, with what is left to be done. -/
def Behind (S : World → Prop) (K : Array Bool → Act → World → Prop) (z : Nat) (l : Array Bool) (i : Nat) : Act → World → Prop := fun a w => (i ≠ z → S w) ∧ K (l.setIfInBounds i true) a w
def AnyE (P : Program) (md : Region.Mode) (ops : Array Oper) (Q : Exit → Act → World → Prop) (S : World → Prop) (z : Nat) : Nat → Array Bool → Act → World → Prop
  | 0 => fun l a w => Region.ready md ops l = [] ∧ Q .normal a w
  | n + 1 => fun l a w => (Region.ready md ops l = [] → Q .normal a w) ∧ ∀ i ∈ Region.ready md ops l, wpOp P ops Q i (Behind S (AnyE P md ops Q S z n) z l i) a w
theorem AnyE.any : ∀ (n : Nat) {l : Array Bool} {a : Act} {w : World}, AnyE P md ops Q S z n l a w → wpAny P md ops Q n l a w
  | 0, _, _, _, h => h
  | n + 1, _, _, _, h => ⟨h.1, fun i hi => wpOp_mono (fun _ _ hb => AnyE.any n hb.2) (h.2 i hi)⟩
theorem waits_not {i j : Nat} {l : Array Bool} (hi : i ∈ Region.ready md ops l) (hj : j ∈ Region.ready md ops l) : ∃ o, ops[j]? = some o ∧ l.getD j true = false ∧ ∀ e ∈ o.after, Region.binds md e = true → e.on ≠ i := by
  obtain ⟨u, o, ho, hall⟩ := mem_ready.1 hj
  refine ⟨o, ho, u, fun e he hb heq => ?_⟩
  have h1 := hall e he hb
  have h0 := (mem_ready.1 hi).1
  rw [heq] at h1
  by_cases hs : i < l.size
  · simp [hs] at h0 h1
    rw [h0] at h1
    cases h1
  · simp [hs] at h1
/-- The operation z waits for i. -/
def waitsB (md : Region.Mode) (ops : Array Oper) (z i : Nat) : Bool := match ops[z]? with
  | some o => o.after.any fun e => Region.binds md e && e.on == i
  | none => false
theorem waits_z {i j : Nat} {l : Array Bool} (hw : waitsB md ops z i = true) (hi : i ∈ Region.ready md ops l) (hj : j ∈ Region.ready md ops l) : j ≠ z := fun e => by
  subst e
  obtain ⟨o, ho, _, hn⟩ := waits_not hi hj
  unfold waitsB at hw
  rw [ho] at hw
  obtain ⟨e, he, hb⟩ := Array.any_eq_true'.1 hw
  simp at hb
  exact hn e he hb.1 hb.2
theorem AnyE.first {i : Nat} {oi : Oper} {v : Value} (hi : ops[i]? = some oi) (hns : Region.noSelect ops = true) (hw : waitsB md ops z i = true) (hQ : ∀ c a w, Q (.panic c) (a.put oi.dst v) w → Q (.panic c) a w) :
    ∀ (n : Nat) {l : Array Bool} {a : Act} {w : World}, (∀ j oj, ops[j]? = some oj → j ≠ i → l.getD j true = false → (∀ e ∈ oj.after, Region.binds md e = true → e.on ≠ i) → oi.apart ops oj = true) →
      i ∈ Region.ready md ops l → YieldsIf P ops S oi v a → S w → AnyE P md ops Q S z n (l.setIfInBounds i true) (a.put oi.dst v) w → AnyE P md ops Q S z (n + 1) l a w := by
  have hsel := Region.noSelect_spec hns
  intro n
  induction n with
  | zero =>
    intro l a w hf hr hy hS H
    refine ⟨fun h0 => absurd (h0 ▸ hr) List.not_mem_nil, fun j hj => ?_⟩
    have e : j = i := Classical.byContradiction fun hne => by
      have h1 := ready_mono hj hne
      rw [H.1] at h1
      exact List.not_mem_nil h1
    subst e
    exact hy.wpOp hi hS ⟨fun _ => hS, H⟩
  | succ n ih =>
    intro l a w hf hr hy hS H
    refine ⟨fun h0 => absurd (h0 ▸ hr) List.not_mem_nil, fun j hj => ?_⟩
    by_cases e : j = i
    · subst e
      exact hy.wpOp hi hS ⟨fun _ => hS, H⟩
    · obtain ⟨oj, hoj, hu, hnot⟩ := waits_not hr hj
      have hjz := waits_z hw hr hj
      refine wpOp_mono (fun a' w' hb => ?_) (wpOp_putIf hoj (hf j oj hoj e hu hnot) (fun cs b => hsel i oi cs b hi) (fun cs b => hsel j oj cs b hoj) hQ hy (H.2 j (ready_mono hj e)))
      obtain ⟨hy', hS', hK⟩ := hb
      refine ⟨fun _ => hS' hjz, ih (fun k ok hk hki hku hno => hf k ok hk hki ?_ hno) (ready_mono hr (fun h => e h.symm)) hy' (hS' hjz) ?_⟩
      · by_cases hjk : j = k
        · subst hjk; exact hu
        · rw [getD_set_ne true hjk] at hku
          exact hku
      · rw [Array.setIfInBounds_comm _ _ e]
        exact hK
/-- Take operation i now. -/
theorem AnyE.take {i : Nat} {oi : Oper} {v : Value} {n : Nat} {l : Array Bool} {a : Act} {w : World} (hi : ops[i]? = some oi) (hns : Region.noSelect ops = true) (hf : Region.free md ops l i = true) (hr : (Region.ready md ops l).contains i = true) (hw : waitsB md ops z i = true)
    (hQ : ∀ c a w, Q (.panic c) (a.put oi.dst v) w → Q (.panic c) a w) (hy : YieldsIf P ops S oi v a) (hS : S w) (h : AnyE P md ops Q S z n (l.setIfInBounds i true) (a.put oi.dst v) w) : AnyE P md ops Q S z (n + 1) l a w :=
  AnyE.first hi hns hw hQ n (Region.free_spec hi hf) (by simpa using hr) hy hS h
theorem AnyE.done {n : Nat} {l : Array Bool} {a : Act} {w : World} (hr : Region.ready md ops l = []) (h : Q .normal a w) : AnyE P md ops Q S z n l a w := by
  cases n with
  | zero => exact ⟨hr, h⟩
  | succ n => exact ⟨fun _ => h, fun i hi => absurd (hr ▸ hi) List.not_mem_nil⟩
/-- Operations that come up now, in whichever order. -/
def AllE (P : Program) (md : Region.Mode) (ops : Array Oper) (Q : Exit → Act → World → Prop) (S : World → Prop) (z n : Nat) (l : Array Bool) (a : Act) (w : World) (rs : List Nat) : Prop := ∀ i ∈ rs, wpOp P ops Q i (Behind S (AnyE P md ops Q S z n) z l i) a w
theorem AnyE.ready {rs : List Nat} {n : Nat} {l : Array Bool} {a : Act} {w : World} (hr : Region.ready md ops l = rs) (hne : rs ≠ []) (h : AllE P md ops Q S z n l a w rs) : AnyE P md ops Q S z (n + 1) l a w := ⟨fun h0 => absurd (hr ▸ h0) hne, hr ▸ h⟩
theorem AllE.nil {n : Nat} {l : Array Bool} {a : Act} {w : World} : AllE P md ops Q S z n l a w [] := fun _ h => absurd h List.not_mem_nil
theorem AllE.cons {n : Nat} {l : Array Bool} {a : Act} {w : World} {i : Nat} {o : Oper} {rs : List Nat} (ho : ops[i]? = some o)
    (h : ∀ K' : Act → World → Prop, Shut (∀ a w, S w → (S w → AnyE P md ops Q S z n (l.setIfInBounds i true) a w) → K' a w) → if Region.wanted o (yielded ops a.tmps) = true then Oper.wp P o a w K' Q else K' (a.put o.dst undef) w)
    (hs : AllE P md ops Q S z n l a w rs) : AllE P md ops Q S z n l a w (i :: rs) := fun j hj => (List.mem_cons.1 hj).elim (fun e => by
      subst e
      exact wpOp_step ho fun K' hK => h K' fun a w hS hW => hK a w ⟨fun _ => hS, hW hS⟩) (fun hm => hs j hm)
/-- The last one: nothing is asked behind it. -/
theorem AllE.last {n : Nat} {l : Array Bool} {a : Act} {w : World} {o : Oper} (ho : ops[z]? = some o) (hl : Region.ready md ops (l.setIfInBounds z true) = [])
    (h : ∀ K' : Act → World → Prop, Shut (∀ a w, Q .normal a w → K' a w) → if Region.wanted o (yielded ops a.tmps) = true then Oper.wp P o a w K' Q else K' (a.put o.dst undef) w) : AllE P md ops Q S z n l a w [z] := fun j hj => by
  have e := List.mem_singleton.1 hj
  subst e
  exact wpOp_step ho fun K' hK => h K' fun a w hq => hK a w ⟨fun hne => absurd rfl hne, AnyE.done hl hq⟩
theorem region_e (z : Nat) (S : World → Prop) {id : Nat} {a : Act} {w : World} (hm : P.follows .mixedOrders = true) (hS : S w.drew) (h : S w.drew → AnyE P .any ops Q S z ops.size (Array.replicate ops.size false) a w.drew) : (Code.region id ops true).wp P Q a w :=
  wp_region_any hm (AnyE.any _ (h hS))
end
structure Kp (FP : Nat → Prop) (w w' : World) : Prop where
  os : w'.os = w.os
  tape : w'.tape = w.tape
  output : w'.output = w.output
  size : w.heap.size ≤ w'.heap.size
  block : ∀ k, k < w.heap.size → ¬ FP k → w'.heap[k]? = w.heap[k]?
theorem Kp.refl (FP : Nat → Prop) (w : World) : Kp FP w w := ⟨rfl, rfl, rfl, Nat.le_refl _, fun _ _ _ => rfl⟩
theorem Kp.trans {FP FP' : Nat → Prop} {w w' w'' : World} (h : Kp FP w w') (h' : Kp FP' w' w'') (hs : ∀ k, FP' k → FP k ∨ w.heap.size ≤ k) : Kp FP w w'' :=
  ⟨h'.os.trans h.os, h'.tape.trans h.tape, h'.output.trans h.output, Nat.le_trans h.size h'.size, fun k hk hn => (h'.block k (Nat.lt_of_lt_of_le hk h.size) (fun hf => by
    rcases hs k hf with h1 | h1
    · exact hn h1
    · omega)).trans (h.block k hk hn)⟩
theorem Kp.of_below {FP : Nat → Prop} {w w' : World} (h : Below w.heap.size w w') : Kp FP w w' := ⟨h.os, h.tape, h.output, h.size, fun k hk _ => h.block k hk⟩
theorem Kp.of_grown {FP : Nat → Prop} {w w' : World} {r : Option Nat} (h : w.grownBy w' r) (hr : ∀ b, r = some b → FP b) : Kp FP w w' := ⟨h.os, h.tape, h.output, h.size, fun k hk hn => h.block k hk (fun e => hn (hr k e.symm))⟩
theorem Kp.below {FP : Nat → Prop} {w w' : World} {B : Nat} (h : Kp FP w w') (hB : B ≤ w.heap.size) (hf : ∀ k, FP k → B ≤ k) : Below B w w' := ⟨h.os, h.tape, h.output, h.size, fun k hk => h.block k (by omega) (fun e => by have := hf k e; omega)⟩
theorem Kp.mono {FP FP' : Nat → Prop} {w w' : World} (h : Kp FP w w') (hs : ∀ k, FP k → FP' k) : Kp FP' w w' := ⟨h.os, h.tape, h.output, h.size, fun k hk hn => h.block k hk (fun e => hn (hs k e))⟩
/-- Elements of a slice type. -/
structure El (lt e : TypeId) (size : Nat) : Prop where
  ex : ∃ i z bytes, Try.prog.underlying lt = some (.slice e) ∧ Try.prog.info? e = some i ∧ i.zero = some z ∧ i.size = size ∧ i.bytes = bytes ∧ z.cells.size = size ∧ 0 < size ∧ bytes ≤ 64
/-- What an append reads. -/
def Src (W : World) (size : Nat) (u : Value) (m : Nat) (news : List Value) : Prop := ∃ a c, u = .slice (some a) m c ∧ news.length = m * size ∧ (∀ j x, news[j]? = some x → W.cell? (a.add j) = some x) ∧ ∀ x ∈ news, x.oneCell' = true
theorem Src.past {w w' : World} {size m : Nat} {u : Value} {news : List Value} (h : Src w size u m news) (hb : Below w.heap.size w w') : Src w' size u m news := by
  obtain ⟨a, c, e, hl, hc, h1⟩ := h
  exact ⟨a, c, e, hl, fun j x hj => (hb.cell (p := a.add j) (World.block_lt_of_cell? w _ (hc j x hj))).trans (hc j x hj), h1⟩
theorem app_c {lt e : TypeId} {size : Nat} (he : El lt e size) (W : World) (base n m : Nat) (v u : Value) (xs news : List Value) (ho : W.ownsRow base e size v n xs) (hs : Src W size u m news) (hm : n + m ≤ 1100000) (hb : base ≤ W.heap.size) :
    ∃ v' W', (Builtin.append_ #[lt, lt] lt #[v, u]).run Try.prog W = .ok v' W' ∧ W'.ownsRow base e size v' (n + m) (xs ++ news) ∧ W.grownBy W' v.ownBlock ∧ (v'.ownBlock = v.ownBlock ∨ v'.ownBlock = some W.heap.size) := by
  obtain ⟨i0, z, bytes, h1, hi, hz0, hz1, hz2, hzs, hp, hby⟩ := he.ex
  obtain ⟨a, c, rfl, hl, hc, h1'⟩ := hs
  obtain ⟨v', W', h2, h3, h4, _, h5⟩ := run_append_own_at (P := Try.prog) W base lt lt e i0 z size bytes h1 hi hz0 hz1 hz2 hzs hp v n xs ho a m c news hl hc h1' (by unfold maxLen; omega) (Nat.le_trans (Nat.mul_le_mul hm hby) (by omega)) hb
  exact ⟨v', W', h2, h3, h4, h5⟩
theorem own_srcs {w : World} {base n g cap size : Nat} {e : TypeId} {xs : List Value} (h : w.ownsRow base e size (.slice (some ⟨g, 0, none⟩) n cap) n xs) (h1 : ∀ x ∈ xs, x.oneCell' = true) {i : Nat} (hi : i < n) :
    Src w size (.slice (some ⟨g, 0, none⟩) i cap) i (xs.take (i * size)) ∧ Src w size (.slice (some (if cap = i + 1 then ⟨g, 0, none⟩ else ⟨g, (i + 1) * size, none⟩)) (n - (i + 1)) (cap - (i + 1))) (n - (i + 1)) (xs.drop ((i + 1) * size)) := by
  have hcell := (own_cells h).1
  have hcap := own_cap h
  have hlen := h.1
  have hle : (i + 1) * size ≤ n * size := Nat.mul_le_mul_right _ hi
  refine ⟨⟨_, _, rfl, ?_, fun j x hj => ?_, fun x hx => h1 x (List.mem_of_mem_take hx)⟩, ⟨_, _, rfl, ?_, fun j x hj => ?_, fun x hx => h1 x (List.mem_of_mem_drop hx)⟩⟩
  · rw [List.length_take, hlen, Nat.min_eq_left (by rw [Nat.add_mul] at hle; omega)]
  · rw [Go.WideShapes.add_plain, Nat.zero_add]
    refine hcell j x ?_
    rw [List.getElem?_take] at hj
    split at hj
    · exact hj
    · cases hj
  · rw [List.length_drop, hlen, Nat.sub_mul]
  · rw [List.getElem?_drop] at hj
    by_cases hc : cap = i + 1
    · have hlt := (List.getElem?_eq_some_iff.1 hj).1
      have : n = i + 1 := by omega
      subst this
      omega
    · rw [if_neg hc, Go.WideShapes.add_plain]
      exact hcell _ x hj
theorem below_drewN {B : Nat} {a w : World} (h : Below B a w) (n : Nat) : Below B a (w.drewN n) := ⟨h.os, h.tape, h.output, h.size, h.block⟩
end Go.Proofs.Ytnmgafaebggeiaa.St
