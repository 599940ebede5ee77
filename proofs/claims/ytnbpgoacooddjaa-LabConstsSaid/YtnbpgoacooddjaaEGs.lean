import Derived.Test.YtnbpgoacooddjaaEGq
namespace Go.Proofs.Ytnbpgoacooddjaa.Fr
end Go.Proofs.Ytnbpgoacooddjaa.Fr
namespace Go.Proofs.Ytnbpgoacooddjaa.En
open Go.Proofs.Ytnbpgoacooddjaa.Fr
open Go.ChangeShapes Go.WideShapes Go.ChangeAt Go.RowKit
set_option linter.unusedVariables false
theorem wordN_range (j : Nat) (hj : j < 43) (d n m a c i : Int) : 0 ≤ wordN j d n m a c i ∧ wordN j d n m a c i < 4294967296 := by
  obtain ⟨l, hl, hw⟩ := wordN_lays j hj d n m a c i
  rw [hw]
  exact lays_range l _ (base_range j hj)
/-- A right instruction's word is that instruction's. -/
theorem decP_of (j : Nat) (hj : j < 43) (d n m a c i : Int) (h : okN j d n m a c i = true) : DecP (wordN j d n m a c i) (j : Int) d n m a c i := by
  by_cases h0 : j = 0
  · subst h0
    have h' : ok_0 d n m a c i = true := h
    simp only [ok_0, wi, Bool.and_eq_true, decide_eq_true_eq, beq_iff_eq] at h'
    obtain ⟨⟨⟨⟨⟨rfl, rfl⟩, rfl⟩, rfl⟩, rfl⟩, h1, h2⟩ := h'
    have hw : wordN 0 0 0 0 0 0 i = i := put_zero i ⟨h1, h2⟩
    refine .inr ⟨⟨rfl, rfl, rfl, rfl, rfl, rfl, ?_⟩, fun j2 h1' h43' d2 n2 m2 a2 c2 i2 hok' hw' => ?_⟩
    · rw [hw]
      unfold fd
      simp only [show (2 : Int) ^ 0 = 1 from rfl, show (2 : Int) ^ 16 = 65536 from rfl]
      omega
    · obtain ⟨l, hl, hlw⟩ := wordN_lays 0 (by decide) 0 0 0 0 0 i
      obtain ⟨l', hl', hlw'⟩ := wordN_lays j2 h43' d2 n2 m2 a2 c2 i2
      have := unlike_ops 0 j2 (by decide) h43' l l' hl hl' (by rw [← hlw, ← hlw', hw'])
      omega
  · exact .inl ⟨j, by omega, hj, rfl, h, rfl⟩
/-- A word's instruction is right, and has that word, or is UDF of its lowest bits. -/
theorem decP_back {x o d n m a c i : Int} (h : DecP x o d n m a c i) : ∃ j : Nat, j < 43 ∧ o = (j : Int) ∧ okN j d n m a c i = true ∧ (o ≠ 0 → wordN j d n m a c i = x) ∧ (o = 0 → i = fd x 0 16) := by
  rcases h with ⟨j, h1, h43, rfl, hok, hw⟩ | ⟨⟨rfl, rfl, rfl, rfl, rfl, rfl, rfl⟩, _⟩
  · exact ⟨j, h43, rfl, hok, fun _ => hw, fun h => by omega⟩
  · refine ⟨0, by decide, rfl, ?_, fun h => absurd rfl h, fun _ => rfl⟩
    show ok_0 0 0 0 0 0 (fd x 0 16) = true
    unfold ok_0
    exact and6 rfl rfl rfl rfl rfl (fd_in x 0 16 65535 rfl)
end Go.Proofs.Ytnbpgoacooddjaa.En
