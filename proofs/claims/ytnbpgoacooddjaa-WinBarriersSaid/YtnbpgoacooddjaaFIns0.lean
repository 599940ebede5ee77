import Derived.WalkKit
import Derived.Laws.CopyOwn
import Derived.Maps.AppendAt
import Derived.Deep.RegionHeld3
import Derived.Lib.Hide
import Derived.Deep.OwnRows
import Derived.Deep.AppendLies
import Derived.Below
import Derived.Deep.RegionLaw
import Derived.WalkSmall
import Derived.BigGuardPart
import Derived.ProofKit
import Derived.Outline
import Derived.Test.YtnbpgoacooddjaaRows
namespace Go.Proofs.Ytnbpgoacooddjaa.Fr
open Go.RowKit
set_option linter.unusedVariables false
/-- r into a rising row. -/
def ins : List Int → Int → List Int
  | [], r => [r]
  | x :: xs, r => if x < r then x :: ins xs r else if x = r then x :: xs else r :: x :: xs
def ivs (xs : List Int) : List Value := xs.map fun x => Value.int .i64 x
theorem ivs_length (xs : List Int) : (ivs xs).length = xs.length := by simp [ivs]
theorem ivs_append (xs ys : List Int) : ivs (xs ++ ys) = ivs xs ++ ivs ys := by simp [ivs]
theorem ivs_take (xs : List Int) (k : Nat) : (ivs xs).take k = ivs (xs.take k) := by simp [ivs]
theorem ivs_drop (xs : List Int) (k : Nat) : (ivs xs).drop k = ivs (xs.drop k) := by simp [ivs]
theorem ivs_get (xs : List Int) (p : Nat) (h : p < xs.length) : (ivs xs)[p]? = some (.int .i64 (xs.getD p 0)) := by
  simp [ivs, List.getD, List.getElem?_eq_getElem h]
theorem ins_at (r : Int) : ∀ (xs : List Int) (k : Nat), xs.Pairwise (· < ·) → k ≤ xs.length → (k = 0 ∨ xs.getD (k - 1) 0 < r) → (k < xs.length → r ≤ xs.getD k 0) →
    ins xs r = if k < xs.length ∧ xs.getD k 0 = r then xs else xs.take k ++ r :: xs.drop k
  | [], k, _, h1, _, _ => by
    have : k = 0 := by simpa using h1
    subst this
    simp [ins]
  | x :: xs, 0, hp, _, _, h3 => by
    have hx : r ≤ x := by simpa using h3 (by simp)
    by_cases he : x = r
    · subst he
      simp [ins]
    · simp [ins, he, show ¬ x < r by omega]
  | x :: xs, k + 1, hp, h1, h2, h3 => by
    have hk : k ≤ xs.length := by simpa using h1
    have hpx : xs.Pairwise (· < ·) := (List.pairwise_cons.1 hp).2
    have hall := (List.pairwise_cons.1 hp).1
    have h2' : k = 0 ∨ xs.getD (k - 1) 0 < r := by
      rcases k with _ | k
      · exact .inl rfl
      · right
        rcases h2 with h | h
        · omega
        · simpa using h
    have hxr : x < r := by
      rcases h2 with h | h
      · omega
      · rcases k with _ | k
        · simpa using h
        · have h4 : (x :: xs).getD (k + 1) 0 < r := by simpa using h
          have h5 : x < xs.getD k 0 := by
            have hkl : k < xs.length := by omega
            rw [List.getD, List.getElem?_eq_getElem hkl]
            exact hall _ (List.getElem_mem hkl)
          have h6 : (x :: xs).getD (k + 1) 0 = xs.getD k 0 := by simp
          omega
    have ih := ins_at r xs k hpx hk h2' (fun h => by simpa using h3 (by simpa using h))
    simp only [ins, hxr, if_true]
    rw [ih]
    by_cases hc : k < xs.length ∧ xs.getD k 0 = r
    · rw [if_pos hc, if_pos (by simpa using hc)]
    · rw [if_neg hc, if_neg (by simpa using hc)]
      simp
theorem rows_of {w : World} {g n cp base size : Nat} {e : TypeId} {xs : List Value} (h : w.ownsRow base e size (.slice (some ⟨g, 0, none⟩) n cp) n xs) : base ≤ g ∧ n ≤ cp ∧ (∀ p u, xs[p]? = some u → w.cell? ⟨g, p, none⟩ = some u) ∧ (∀ p, w.frozen? ⟨g, p, none⟩ = false) := by
  rcases h.2 with ⟨h1, _⟩ | ⟨g', cap, cur, hv, hb, hg, hn, hm, hs, ht⟩
  · cases h1
  · injection hv with h1 h2 h3
    injection h1 with h1
    injection h1 with h1
    subst h1 h3
    refine ⟨hb, hn, fun p u hu => ?_, fun p => frozen_of_row w g p cur e hg⟩
    rw [cell_of_row w g p cur e _ hg]
    rw [← ht] at hu
    have hp := (List.getElem?_eq_some_iff.1 hu).1
    rw [List.getElem?_take] at hu
    split at hu
    · simpa using hu
    · cases hu
theorem info3 : (Try.prog.info? 3).map (fun i => (i.zero, i.size, i.bytes)) = some (some (.int .i64 0), 1, 8) := by kernel_rfl
end Go.Proofs.Ytnbpgoacooddjaa.Fr
