import Derived.Test.YtnbpgoacooddjaaIn
namespace Go.Proofs.Ytnbpgoacooddjaa.Mm
open Go.ChangeShapes Go.WideShapes Go.ChangeAt Go.RowKit Go.Maps
set_option linter.unusedVariables false
/-- What one core's own acts leave of another core. -/
structure Oth (c : Int) (S S' : Sd) : Prop where
  C : ∀ a, S'.C c a = S.C c a
  H : ∀ a, S'.H c a = S.H c a
  T : S'.T = S.T
theorem Oth.refl (c : Int) (S : Sd) : Oth c S S := ⟨fun _ => rfl, fun _ => rfl, rfl⟩
theorem Oth.trans {c : Int} {S S' S'' : Sd} (h : Oth c S S') (h' : Oth c S' S'') : Oth c S S'' := ⟨fun a => (h'.C a).trans (h.C a), fun a => (h'.H a).trans (h.H a), h'.T.trans h.T⟩
theorem fill_oth {S : Sd} {c k : Int} (hne : c ≠ k) (x : Nat) : Oth c S (S.fill k x) := by
  unfold Sd.fill
  split
  · exact Oth.refl _ _
  · exact ⟨fun a => by show (if c = k ∧ a = x then _ else _) = _; rw [if_neg (fun h => hne h.1)], fun _ => rfl, rfl⟩
theorem act_oth {S : Sd} {c : Int} (M : Me) {x : Nx} (hne : c ≠ x.core) (ho : x.op = 1 ∨ x.op = 2 ∨ x.op = 3 ∨ x.op = 4 ∨ x.op = 9) : Oth c S (S.act M x) := by
  have hf := fill_oth (S := S) hne x.ad
  unfold Sd.act
  split
  · unfold Sd.fetch
    repeat' split
    all_goals first | exact hf | exact Oth.refl _ _
  · split
    · unfold Sd.ahead
      split
      · exact ⟨hf.C, fun a => by show (if c = x.core ∧ a = x.ad then _ else (S.fill x.core x.ad).H c a) = _; rw [if_neg (fun h => hne h.1)]; exact hf.H a, hf.T⟩
      · exact Oth.refl _ _
    · split
      · unfold Sd.refill
        split
        · exact hf
        · exact Oth.refl _ _
      · split
        · exact ⟨fun a => by show (if c = x.core ∧ a = x.ad then _ else _) = _; rw [if_neg (fun h => hne h.1)], fun _ => rfl, rfl⟩
        · split
          · omega
          · split
            · omega
            · split
              · omega
              · split
                · omega
                · split
                  · unfold Sd.sync
                    split
                    · exact ⟨fun _ => rfl, fun a => by show (if c = x.core then none else S.H c a) = _; rw [if_neg hne], rfl⟩
                    · exact Oth.refl _ _
                  · exact Oth.refl _ _
end Go.Proofs.Ytnbpgoacooddjaa.Mm
