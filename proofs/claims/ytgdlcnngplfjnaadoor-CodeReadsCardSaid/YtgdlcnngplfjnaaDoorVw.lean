import Derived.Test.YtgdlcnngplfjnaaDoorVc
import Derived.OrdersHeld
import Derived.Deep.RegionHeld
namespace Go.Proofs.YtgdlcnngplfjnaaDoor.Vf
open Go.ChangeShapes Go.WideShapes Go.ChangeAt Go.RowKit
set_option linter.unusedVariables false
/-! ### A region with one operation, number z, that may break what is held: it waits for all others -/
section
variable {P : Program} {ops : Array Oper} {Q : Exit → Act → World → Prop} {md : Region.Mode} {S : World → Prop} {z : Nat}
/-- The world behind operation i, with what is left to be done. -/
def Behind (S : World → Prop) (K : Array Bool → Act → World → Prop) (z : Nat) (l : Array Bool) (i : Nat) : Act → World → Prop := fun a w => (i ≠ z → S w) ∧ K (l.setIfInBounds i true) a w
def AnyE (P : Program) (md : Region.Mode) (ops : Array Oper) (Q : Exit → Act → World → Prop) (S : World → Prop) (z : Nat) : Nat → Array Bool → Act → World → Prop
  | 0 => fun l a w => Region.ready md ops l = [] ∧ Q .normal a w
  | n + 1 => fun l a w => (Region.ready md ops l = [] → Q .normal a w) ∧ ∀ i ∈ Region.ready md ops l, wpOp P ops Q i (Behind S (AnyE P md ops Q S z n) z l i) a w
theorem AnyE.any : ∀ (n : Nat) {l : Array Bool} {a : Act} {w : World}, AnyE P md ops Q S z n l a w → wpAny P md ops Q n l a w
  | 0, _, _, _, h => h
  | n + 1, _, _, _, h => ⟨h.1, fun i hi => wpOp_mono (fun _ _ hb => AnyE.any n hb.2) (h.2 i hi)⟩
theorem waits_not {i j : Nat} {l : Array Bool} (hi : i ∈ Region.ready md ops l) (hj : j ∈ Region.ready md ops l) : ∃ o, ops[j]? = some o ∧ l.getD j true = false ∧ ∀ e ∈ o.after, Region.binds md e = true → e.on ≠ i := by
  obtain ⟨u, o, ho, hall⟩ := mem_ready.1 hj
  refine ⟨o, ho, u, fun e he hb heq => ?_⟩
  have h1 := hall e he hb
  have h0 := (mem_ready.1 hi).1
  rw [heq] at h1
  by_cases hs : i < l.size
  · simp [hs] at h0 h1
    rw [h0] at h1
    cases h1
  · simp [hs] at h1
/-- The operation z waits for i. -/
def waitsB (md : Region.Mode) (ops : Array Oper) (z i : Nat) : Bool := match ops[z]? with
  | some o => o.after.any fun e => Region.binds md e && e.on == i
  | none => false
theorem waits_z {i j : Nat} {l : Array Bool} (hw : waitsB md ops z i = true) (hi : i ∈ Region.ready md ops l) (hj : j ∈ Region.ready md ops l) : j ≠ z := fun e => by
  subst e
  obtain ⟨o, ho, _, hn⟩ := waits_not hi hj
  unfold waitsB at hw
  rw [ho] at hw
  obtain ⟨e, he, hb⟩ := Array.any_eq_true'.1 hw
  simp at hb
  exact hn e he hb.1 hb.2
theorem AnyE.first {i : Nat} {oi : Oper} {v : Value} (hi : ops[i]? = some oi) (hns : Region.noSelect ops = true) (hw : waitsB md ops z i = true) (hQ : ∀ c a w, Q (.panic c) (a.put oi.dst v) w → Q (.panic c) a w) :
    ∀ (n : Nat) {l : Array Bool} {a : Act} {w : World}, (∀ j oj, ops[j]? = some oj → j ≠ i → l.getD j true = false → (∀ e ∈ oj.after, Region.binds md e = true → e.on ≠ i) → oi.apart ops oj = true) →
      i ∈ Region.ready md ops l → YieldsIf P ops S oi v a → S w → AnyE P md ops Q S z n (l.setIfInBounds i true) (a.put oi.dst v) w → AnyE P md ops Q S z (n + 1) l a w := by
  have hsel := Region.noSelect_spec hns
  intro n
  induction n with
  | zero =>
    intro l a w hf hr hy hS H
    refine ⟨fun h0 => absurd (h0 ▸ hr) List.not_mem_nil, fun j hj => ?_⟩
    have e : j = i := Classical.byContradiction fun hne => by
      have h1 := ready_mono hj hne
      rw [H.1] at h1
      exact List.not_mem_nil h1
    subst e
    exact hy.wpOp hi hS ⟨fun _ => hS, H⟩
  | succ n ih =>
    intro l a w hf hr hy hS H
    refine ⟨fun h0 => absurd (h0 ▸ hr) List.not_mem_nil, fun j hj => ?_⟩
    by_cases e : j = i
    · subst e
      exact hy.wpOp hi hS ⟨fun _ => hS, H⟩
    · obtain ⟨oj, hoj, hu, hnot⟩ := waits_not hr hj
      have hjz := waits_z hw hr hj
      refine wpOp_mono (fun a' w' hb => ?_) (wpOp_putIf hoj (hf j oj hoj e hu hnot) (fun cs b => hsel i oi cs b hi) (fun cs b => hsel j oj cs b hoj) hQ hy (H.2 j (ready_mono hj e)))
      obtain ⟨hy', hS', hK⟩ := hb
      refine ⟨fun _ => hS' hjz, ih (fun k ok hk hki hku hno => hf k ok hk hki ?_ hno) (ready_mono hr (fun h => e h.symm)) hy' (hS' hjz) ?_⟩
      · by_cases hjk : j = k
        · subst hjk; exact hu
        · rw [getD_set_ne true hjk] at hku
          exact hku
      · rw [Array.setIfInBounds_comm _ _ e]
        exact hK
/-- Take operation i now. -/
theorem AnyE.take {i : Nat} {oi : Oper} {v : Value} {n : Nat} {l : Array Bool} {a : Act} {w : World} (hi : ops[i]? = some oi) (hns : Region.noSelect ops = true) (hf : Region.free md ops l i = true) (hr : (Region.ready md ops l).contains i = true) (hw : waitsB md ops z i = true)
    (hQ : ∀ c a w, Q (.panic c) (a.put oi.dst v) w → Q (.panic c) a w) (hy : YieldsIf P ops S oi v a) (hS : S w) (h : AnyE P md ops Q S z n (l.setIfInBounds i true) (a.put oi.dst v) w) : AnyE P md ops Q S z (n + 1) l a w :=
  AnyE.first hi hns hw hQ n (Region.free_spec hi hf) (by simpa using hr) hy hS h
theorem AnyE.done {n : Nat} {l : Array Bool} {a : Act} {w : World} (hr : Region.ready md ops l = []) (h : Q .normal a w) : AnyE P md ops Q S z n l a w := by
  cases n with
  | zero => exact ⟨hr, h⟩
  | succ n => exact ⟨fun _ => h, fun i hi => absurd (hr ▸ hi) List.not_mem_nil⟩
/-- Operations that come up now, in whichever order. -/
def AllE (P : Program) (md : Region.Mode) (ops : Array Oper) (Q : Exit → Act → World → Prop) (S : World → Prop) (z n : Nat) (l : Array Bool) (a : Act) (w : World) (rs : List Nat) : Prop := ∀ i ∈ rs, wpOp P ops Q i (Behind S (AnyE P md ops Q S z n) z l i) a w
theorem AnyE.ready {rs : List Nat} {n : Nat} {l : Array Bool} {a : Act} {w : World} (hr : Region.ready md ops l = rs) (hne : rs ≠ []) (h : AllE P md ops Q S z n l a w rs) : AnyE P md ops Q S z (n + 1) l a w := ⟨fun h0 => absurd (hr ▸ h0) hne, hr ▸ h⟩
theorem AllE.nil {n : Nat} {l : Array Bool} {a : Act} {w : World} : AllE P md ops Q S z n l a w [] := fun _ h => absurd h List.not_mem_nil
theorem AllE.cons {n : Nat} {l : Array Bool} {a : Act} {w : World} {i : Nat} {o : Oper} {rs : List Nat} (ho : ops[i]? = some o)
    (h : ∀ K' : Act → World → Prop, Shut (∀ a w, S w → (S w → AnyE P md ops Q S z n (l.setIfInBounds i true) a w) → K' a w) → if Region.wanted o (yielded ops a.tmps) = true then Oper.wp P o a w K' Q else K' (a.put o.dst undef) w)
    (hs : AllE P md ops Q S z n l a w rs) : AllE P md ops Q S z n l a w (i :: rs) := fun j hj => (List.mem_cons.1 hj).elim (fun e => by
      subst e
      exact wpOp_step ho fun K' hK => h K' fun a w hS hW => hK a w ⟨fun _ => hS, hW hS⟩) (fun hm => hs j hm)
/-- The last one: nothing is asked behind it. -/
theorem AllE.last {n : Nat} {l : Array Bool} {a : Act} {w : World} {o : Oper} (ho : ops[z]? = some o) (hl : Region.ready md ops (l.setIfInBounds z true) = [])
    (h : ∀ K' : Act → World → Prop, Shut (∀ a w, Q .normal a w → K' a w) → if Region.wanted o (yielded ops a.tmps) = true then Oper.wp P o a w K' Q else K' (a.put o.dst undef) w) : AllE P md ops Q S z n l a w [z] := fun j hj => by
  have e := List.mem_singleton.1 hj
  subst e
  exact wpOp_step ho fun K' hK => h K' fun a w hq => hK a w ⟨fun hne => absurd rfl hne, AnyE.done hl hq⟩
theorem region_e (z : Nat) (S : World → Prop) {id : Nat} {a : Act} {w : World} (hm : P.follows .mixedOrders = true) (hS : S w.drew) (h : S w.drew → AnyE P .any ops Q S z ops.size (Array.replicate ops.size false) a w.drew) : (Code.region id ops true).wp P Q a w :=
  wp_region_any hm (AnyE.any _ (h hS))
end
section
variable {P : Program} {ops : Array Oper} {Q : Exit → Act → World → Prop} {md : Region.Mode} {S : World → Prop}
def waysB (md : Region.Mode) (ops : Array Oper) (l : Array Bool) (i : Nat) : Nat → List Nat → Bool
  | z, [] => waitsB md ops z i
  | z, a :: ps => waitsB md ops z a && (l.getD a true == false) && waysB md ops l i a ps
theorem ways_not {l : Array Bool} {i j : Nat} (hi : i ∈ Region.ready md ops l) (hj : j ∈ Region.ready md ops l) : ∀ (ps : List Nat) (z : Nat), waysB md ops l i z ps = true → j ≠ z ∧ ∀ a ∈ ps, j ≠ a
  | [], z, h => ⟨waits_z h hi hj, fun a ha => absurd ha List.not_mem_nil⟩
  | a :: ps, z, h => by
    simp only [waysB, Bool.and_eq_true] at h
    obtain ⟨⟨h1, h2⟩, h3⟩ := h
    obtain ⟨q1, q2⟩ := ways_not hi hj ps a h3
    refine ⟨fun e => ?_, fun b hb => ?_⟩
    · subst e
      obtain ⟨u, o, ho, hall⟩ := mem_ready.1 hj
      unfold waitsB at h1
      rw [ho] at h1
      obtain ⟨e, he, hb⟩ := Array.any_eq_true'.1 h1
      simp at hb
      have := hall e he hb.1
      rw [hb.2] at this
      by_cases hs : a < l.size
      · simp [hs] at this h2
        rw [this] at h2
        cases h2
      · simp [hs] at this
    · rcases List.mem_cons.1 hb with rfl | hb
      · exact q1
      · exact q2 b hb
theorem ways_set {l : Array Bool} {i j : Nat} : ∀ (ps : List Nat) (z : Nat), waysB md ops l i z ps = true → (∀ a ∈ ps, j ≠ a) → waysB md ops (l.setIfInBounds j true) i z ps = true
  | [], z, h, _ => h
  | a :: ps, z, h, hn => by
    simp only [waysB, Bool.and_eq_true] at h ⊢
    refine ⟨⟨h.1.1, ?_⟩, ways_set ps a h.2 fun b hb => hn b (List.mem_cons_of_mem _ hb)⟩
    rw [getD_set_ne true (hn a List.mem_cons_self)]
    exact h.1.2
theorem AnyE.first2 {z i : Nat} {ps : List Nat} {oi : Oper} {v : Value} (hi : ops[i]? = some oi) (hns : Region.noSelect ops = true) (hQ : ∀ c a w, Q (.panic c) (a.put oi.dst v) w → Q (.panic c) a w) :
    ∀ (n : Nat) {l : Array Bool} {a : Act} {w : World}, waysB md ops l i z ps = true → (∀ j oj, ops[j]? = some oj → j ≠ i → l.getD j true = false → (∀ e ∈ oj.after, Region.binds md e = true → e.on ≠ i) → oi.apart ops oj = true) →
      i ∈ Region.ready md ops l → YieldsIf P ops S oi v a → S w → AnyE P md ops Q S z n (l.setIfInBounds i true) (a.put oi.dst v) w → AnyE P md ops Q S z (n + 1) l a w := by
  have hsel := Region.noSelect_spec hns
  intro n
  induction n with
  | zero =>
    intro l a w hw hf hr hy hS H
    refine ⟨fun h0 => absurd (h0 ▸ hr) List.not_mem_nil, fun j hj => ?_⟩
    have e : j = i := Classical.byContradiction fun hne => by
      have h1 := ready_mono hj hne
      rw [H.1] at h1
      exact List.not_mem_nil h1
    subst e
    exact hy.wpOp hi hS ⟨fun _ => hS, H⟩
  | succ n ih =>
    intro l a w hw hf hr hy hS H
    refine ⟨fun h0 => absurd (h0 ▸ hr) List.not_mem_nil, fun j hj => ?_⟩
    by_cases e : j = i
    · subst e
      exact hy.wpOp hi hS ⟨fun _ => hS, H⟩
    · obtain ⟨oj, hoj, hu, hnot⟩ := waits_not hr hj
      obtain ⟨hjz, hjp⟩ := ways_not hr hj ps z hw
      refine wpOp_mono (fun a' w' hb => ?_) (wpOp_putIf hoj (hf j oj hoj e hu hnot) (fun cs b => hsel i oi cs b hi) (fun cs b => hsel j oj cs b hoj) hQ hy (H.2 j (ready_mono hj e)))
      obtain ⟨hy', hS', hK⟩ := hb
      refine ⟨fun _ => hS' hjz, ih (ways_set ps z hw hjp) (fun k ok hk hki hku hno => hf k ok hk hki ?_ hno) (ready_mono hr (fun h => e h.symm)) hy' (hS' hjz) ?_⟩
      · by_cases hjk : j = k
        · subst hjk; exact hu
        · rw [getD_set_ne true hjk] at hku
          exact hku
      · rw [Array.setIfInBounds_comm _ _ e]
        exact hK
theorem AnyE.take2 {z i : Nat} (ps : List Nat) {oi : Oper} {v : Value} {n : Nat} {l : Array Bool} {a : Act} {w : World} (hi : ops[i]? = some oi) (hns : Region.noSelect ops = true) (hf : Region.free md ops l i = true) (hr : (Region.ready md ops l).contains i = true) (hw : waysB md ops l i z ps = true)
    (hQ : ∀ c a w, Q (.panic c) (a.put oi.dst v) w → Q (.panic c) a w) (hy : YieldsIf P ops S oi v a) (hS : S w) (h : AnyE P md ops Q S z n (l.setIfInBounds i true) (a.put oi.dst v) w) : AnyE P md ops Q S z (n + 1) l a w :=
  AnyE.first2 hi hns hQ n hw (Region.free_spec hi hf) (by simpa using hr) hy hS h
end
end Go.Proofs.YtgdlcnngplfjnaaDoor.Vf
