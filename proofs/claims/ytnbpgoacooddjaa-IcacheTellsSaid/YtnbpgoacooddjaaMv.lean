import Derived.Test.YtnbpgoacooddjaaMn
namespace Go.Proofs.Ytnbpgoacooddjaa.Mm
set_option linter.unusedVariables false
/-! ### Rows of regions in another order -/
theorem inj_surj : ∀ (n : Nat) (π : Nat → Nat), (∀ x, x < n → π x < n) → (∀ x y, x < n → y < n → π x = π y → x = y) → ∀ y, y < n → ∃ x, x < n ∧ π x = y
  | 0, _, _, _, y, hy => by omega
  | n + 1, π, h1, h2, y, hy => by
    have hz := h1 n (by omega)
    have ih := inj_surj n (fun x => if π x = n then π n else π x) (fun x hx => by
      have := h1 x (by omega)
      show (if π x = n then π n else π x) < n
      split
      · rename_i e
        have : π n ≠ n := fun e2 => by have := h2 x n (by omega) (by omega) (by omega); omega
        omega
      · omega) (fun x y hx hy e => by
      have e : (if π x = n then π n else π x) = (if π y = n then π n else π y) := e
      split at e
      · rename_i ex
        split at e
        · rename_i ey
          exact h2 x y (by omega) (by omega) (by omega)
        · have := h2 n y (by omega) (by omega) e; omega
      · split at e
        · have := h2 x n (by omega) (by omega) e; omega
        · exact h2 x y (by omega) (by omega) e)
    by_cases e1 : y = π n
    · exact ⟨n, by omega, e1.symm⟩
    · by_cases e2 : y = n
      · obtain ⟨x, hx, e⟩ := ih (π n) (by omega)
        have e : (if π x = n then π n else π x) = π n := e
        split at e
        · rename_i ex
          exact ⟨x, by omega, by omega⟩
        · have := h2 x n (by omega) (by omega) e; omega
      · obtain ⟨x, hx, e⟩ := ih y (by omega)
        have e : (if π x = n then π n else π x) = y := e
        split at e
        · omega
        · exact ⟨x, by omega, e⟩
/-- What the document's New asks of a row, in the order in which it is handed. -/
def RightD (A S : Nat → Nat) (n : Nat) : Prop := (∀ i, i < n → rightOne (A i) (S i)) ∧ ∀ i k, i < n → k < n → i ≠ k → A i + S i ≤ A k ∨ A k + S k ≤ A i
theorem RightR.strict {A S : Nat → Nat} {n : Nat} (h : RightR A S n) : ∀ i j, i < j → j < n → A i < A j := fun i j hij hj => by
  have h1 := h.ord i j hij hj
  obtain ⟨_, _, h3, _⟩ := (h i (by omega)).1
  omega
theorem RightR.toD {n : Nat} {A0 S0 : Nat → Nat} {W0 X0 : Nat → Bool} {A S : Nat → Nat} {W X : Nat → Bool} (hd : Dat n A0 S0 W0 X0 A S W X) (h : RightR A S n) : RightD A0 S0 n := by
  obtain ⟨π, h1, h2, rfl, rfl, rfl, rfl⟩ := hd
  have hs := inj_surj n π h1 h2
  refine ⟨fun i hi => ?_, fun i k hi hk hne => ?_⟩
  · obtain ⟨t, ht, rfl⟩ := hs i hi
    exact (h t ht).1
  · obtain ⟨s, hs1, rfl⟩ := hs i hi
    obtain ⟨t, ht1, rfl⟩ := hs k hk
    rcases Nat.lt_trichotomy s t with e | e | e
    · exact .inl (h.ord s t e ht1)
    · subst e; exact absurd rfl hne
    · exact .inr (h.ord t s e hs1)
theorem RightD.toR {n : Nat} {A0 S0 : Nat → Nat} {W0 X0 : Nat → Bool} {A S : Nat → Nat} {W X : Nat → Bool} (hd : Dat n A0 S0 W0 X0 A S W X) (hs : ∀ x y, x < y → y < n → A x ≤ A y) (h : RightD A0 S0 n) : RightR A S n := by
  obtain ⟨π, h1, h2, rfl, rfl, rfl, rfl⟩ := hd
  intro i hi
  refine ⟨h.1 _ (h1 i hi), ?_⟩
  cases i with
  | zero => exact Nat.zero_le _
  | succ j =>
    show A0 (π j) + S0 (π j) ≤ A0 (π (j + 1))
    have e1 := hs j (j + 1) (by omega) hi
    have e1 : A0 (π j) ≤ A0 (π (j + 1)) := e1
    obtain ⟨_, _, h3, _⟩ := h.1 _ (h1 (j + 1) hi)
    rcases h.2 (π j) (π (j + 1)) (h1 j (by omega)) (h1 (j + 1) hi) (fun e => by have := h2 _ _ (by omega) hi e; omega) with e | e
    · exact e
    · omega
theorem Dat.uniq {n : Nat} {A0 S0 : Nat → Nat} {W0 X0 : Nat → Bool} {A S A' S' : Nat → Nat} {W X W' X' : Nat → Bool} (h : Dat n A0 S0 W0 X0 A S W X) (h' : Dat n A0 S0 W0 X0 A' S' W' X') (hs : ∀ i j, i < j → j < n → A i < A j) (hs' : ∀ i j, i < j → j < n → A' i < A' j) :
    ∀ i, i < n → A i = A' i ∧ S i = S' i ∧ W i = W' i ∧ X i = X' i := by
  obtain ⟨π, h1, h2, rfl, rfl, rfl, rfl⟩ := h
  obtain ⟨σ, k1, k2, rfl, rfl, rfl, rfl⟩ := h'
  have hp := inj_surj n π h1 h2
  have hq := inj_surj n σ k1 k2
  have key : ∀ i, i < n → π i = σ i := by
    intro i
    induction i using Nat.strongRecOn with
    | _ i ih =>
      intro hi
      obtain ⟨t, ht, et⟩ := hp (σ i) (k1 i hi)
      obtain ⟨s, hs1, es⟩ := hq (π i) (h1 i hi)
      have ht2 : i ≤ t := by
        rcases Nat.lt_or_ge t i with e | e
        · have := ih t e ht
          rw [et] at this
          have := k2 i t hi ht this
          omega
        · exact e
      have hs2 : i ≤ s := by
        rcases Nat.lt_or_ge s i with e | e
        · have := ih s e hs1
          rw [es] at this
          have := h2 s i hs1 hi this
          omega
        · exact e
      rcases Nat.lt_or_eq_of_le ht2 with e | e
      · have a1 : A0 (π i) < A0 (π t) := hs i t e ht
        rcases Nat.lt_or_eq_of_le hs2 with e2 | e2
        · have a2 : A0 (σ i) < A0 (σ s) := hs' i s e2 hs1
          rw [et] at a1
          rw [es] at a2
          omega
        · subst e2
          exact es.symm
      · subst e
        exact et
  intro i hi
  have := key i hi
  simp only [this, and_self]
end Go.Proofs.Ytnbpgoacooddjaa.Mm
