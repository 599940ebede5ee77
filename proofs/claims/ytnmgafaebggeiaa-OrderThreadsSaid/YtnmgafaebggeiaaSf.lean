import Derived.Test.YtnmgafaebggeiaaSe
namespace Go.Proofs.Ytnmgafaebggeiaa.St
open Go.ChangeShapes Go.WideShapes Go.ChangeAt Go.RowKit Go.Maps
set_option linter.unusedVariables false
/-! ### Taking an operation that the last one waits for by way of others -/
section
variable {P : Program} {ops : Array Oper} {Q : Exit → Act → World → Prop} {md : Region.Mode} {S : World → Prop}
def waysB (md : Region.Mode) (ops : Array Oper) (l : Array Bool) (i : Nat) : Nat → List Nat → Bool
  | z, [] => waitsB md ops z i
  | z, a :: ps => waitsB md ops z a && (l.getD a true == false) && waysB md ops l i a ps
theorem ways_not {l : Array Bool} {i j : Nat} (hi : i ∈ Region.ready md ops l) (hj : j ∈ Region.ready md ops l) : ∀ (ps : List Nat) (z : Nat), waysB md ops l i z ps = true → j ≠ z ∧ ∀ a ∈ ps, j ≠ a
  | [], z, h => ⟨waits_z h hi hj, fun a ha => absurd ha List.not_mem_nil⟩
  | a :: ps, z, h => by
    simp only [waysB, Bool.and_eq_true] at h
    obtain ⟨⟨h1, h2⟩, h3⟩ := h
    obtain ⟨q1, q2⟩ := ways_not hi hj ps a h3
    refine ⟨fun e => ?_, fun b hb => ?_⟩
    · subst e
      obtain ⟨u, o, ho, hall⟩ := mem_ready.1 hj
      unfold waitsB at h1
      rw [ho] at h1
      obtain ⟨e, he, hb⟩ := Array.any_eq_true'.1 h1
      simp at hb
      have := hall e he hb.1
      rw [hb.2] at this
      by_cases hs : a < l.size
      · simp [hs] at this h2
        rw [this] at h2
        cases h2
      · simp [hs] at this
    · rcases List.mem_cons.1 hb with rfl | hb
      · exact q1
      · exact q2 b hb
theorem ways_set {l : Array Bool} {i j : Nat} : ∀ (ps : List Nat) (z : Nat), waysB md ops l i z ps = true → (∀ a ∈ ps, j ≠ a) → waysB md ops (l.setIfInBounds j true) i z ps = true
  | [], z, h, _ => h
  | a :: ps, z, h, hn => by
    simp only [waysB, Bool.and_eq_true] at h ⊢
    refine ⟨⟨h.1.1, ?_⟩, ways_set ps a h.2 fun b hb => hn b (List.mem_cons_of_mem _ hb)⟩
    rw [getD_set_ne true (hn a List.mem_cons_self)]
    exact h.1.2
theorem AnyE.first2 {z i : Nat} {ps : List Nat} {oi : Oper} {v : Value} (hi : ops[i]? = some oi) (hns : Region.noSelect ops = true) (hQ : ∀ c a w, Q (.panic c) (a.put oi.dst v) w → Q (.panic c) a w) :
    ∀ (n : Nat) {l : Array Bool} {a : Act} {w : World}, waysB md ops l i z ps = true → (∀ j oj, ops[j]? = some oj → j ≠ i → l.getD j true = false → (∀ e ∈ oj.after, Region.binds md e = true → e.on ≠ i) → oi.apart ops oj = true) →
      i ∈ Region.ready md ops l → YieldsIf P ops S oi v a → S w → AnyE P md ops Q S z n (l.setIfInBounds i true) (a.put oi.dst v) w → AnyE P md ops Q S z (n + 1) l a w := by
  have hsel := Region.noSelect_spec hns
  intro n
  induction n with
  | zero =>
    intro l a w hw hf hr hy hS H
    refine ⟨fun h0 => absurd (h0 ▸ hr) List.not_mem_nil, fun j hj => ?_⟩
    have e : j = i := Classical.byContradiction fun hne => by
      have h1 := ready_mono hj hne
      rw [H.1] at h1
      exact List.not_mem_nil h1
    subst e
    exact hy.wpOp hi hS ⟨fun _ => hS, H⟩
  | succ n ih =>
    intro l a w hw hf hr hy hS H
    refine ⟨fun h0 => absurd (h0 ▸ hr) List.not_mem_nil, fun j hj => ?_⟩
    by_cases e : j = i
    · subst e
      exact hy.wpOp hi hS ⟨fun _ => hS, H⟩
    · obtain ⟨oj, hoj, hu, hnot⟩ := waits_not hr hj
      obtain ⟨hjz, hjp⟩ := ways_not hr hj ps z hw
      refine wpOp_mono (fun a' w' hb => ?_) (wpOp_putIf hoj (hf j oj hoj e hu hnot) (fun cs b => hsel i oi cs b hi) (fun cs b => hsel j oj cs b hoj) hQ hy (H.2 j (ready_mono hj e)))
      obtain ⟨hy', hS', hK⟩ := hb
      refine ⟨fun _ => hS' hjz, ih (ways_set ps z hw hjp) (fun k ok hk hki hku hno => hf k ok hk hki ?_ hno) (ready_mono hr (fun h => e h.symm)) hy' (hS' hjz) ?_⟩
      · by_cases hjk : j = k
        · subst hjk; exact hu
        · rw [getD_set_ne true hjk] at hku
          exact hku
      · rw [Array.setIfInBounds_comm _ _ e]
        exact hK
theorem AnyE.take2 {z i : Nat} (ps : List Nat) {oi : Oper} {v : Value} {n : Nat} {l : Array Bool} {a : Act} {w : World} (hi : ops[i]? = some oi) (hns : Region.noSelect ops = true) (hf : Region.free md ops l i = true) (hr : (Region.ready md ops l).contains i = true) (hw : waysB md ops l i z ps = true)
    (hQ : ∀ c a w, Q (.panic c) (a.put oi.dst v) w → Q (.panic c) a w) (hy : YieldsIf P ops S oi v a) (hS : S w) (h : AnyE P md ops Q S z n (l.setIfInBounds i true) (a.put oi.dst v) w) : AnyE P md ops Q S z (n + 1) l a w :=
  AnyE.first2 hi hns hQ n hw (Region.free_spec hi hf) (by simpa using hr) hy hS h
end
end Go.Proofs.Ytnmgafaebggeiaa.St
