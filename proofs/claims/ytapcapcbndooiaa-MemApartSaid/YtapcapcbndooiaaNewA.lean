import Derived.Test.YtapcapcbndooiaaRows
import Derived.WalkKit
import Derived.ProofKit
import Derived.OpenShut
import Derived.Deep.QuietTactic
import Derived.BigQuiet
import Derived.Outline
import Derived.WalkSmall
import Derived.WalkLawsBesides
import Derived.WalkSpells
import Derived.BigGuardPart
import Derived.RegionTactic
import Derived.Deep.RegionHeld3
import Derived.Lib.Hide
import Derived.Deep.OwnRows
import Derived.Maps.AppendAt
import Derived.Deep.AppendLies
import Derived.Below
import Derived.Test.YtapcapcbndooiaaSortS
namespace Go.Proofs.Ytapcapcbndooiaa
open Go.ChangeShapes Go.WideShapes Go.ChangeAt Go.RowKit
set_option linter.unusedVariables false
def areaCell (A S : Nat → Nat) (W X : Nat → Bool) (B : Nat → Nat) (p : Nat) : Value := if p % 5 = 0 then .int .u64 (A (p / 5) : Nat) else if p % 5 = 1 then .int .u64 (S (p / 5) : Nat) else if p % 5 = 2 then .bool (W (p / 5)) else if p % 5 = 3 then .bool (X (p / 5)) else .slice (some ⟨B (p / 5), 0, none⟩) (S (p / 5)) (S (p / 5))
def areaCells (A S : Nat → Nat) (W X : Nat → Bool) (B : Nat → Nat) (n : Nat) : List Value := (List.range (n * 5)).map (areaCell A S W X B)
theorem areaCells_at (A S : Nat → Nat) (W X : Nat → Bool) (B : Nat → Nat) (n p : Nat) (h : p < n * 5) : (areaCells A S W X B n)[p]? = some (areaCell A S W X B p) := by
  unfold areaCells; rw [List.getElem?_map, List.getElem?_range h]; rfl
theorem areaCell_at (A S : Nat → Nat) (W X : Nat → Bool) (B : Nat → Nat) (j : Nat) :
    areaCell A S W X B (j * 5) = .int .u64 (A j : Nat) ∧ areaCell A S W X B (j * 5 + 1) = .int .u64 (S j : Nat) ∧ areaCell A S W X B (j * 5 + 2) = .bool (W j) ∧ areaCell A S W X B (j * 5 + 3) = .bool (X j) ∧ areaCell A S W X B (j * 5 + 4) = .slice (some ⟨B j, 0, none⟩) (S j) (S j) := by
  refine ⟨?_, ?_, ?_, ?_, ?_⟩
  · unfold areaCell; rw [if_pos (by omega), Nat.mul_div_cancel _ (by decide)]
  · unfold areaCell; rw [if_neg (by omega), if_pos (by omega), show (j * 5 + 1) / 5 = j by omega]
  · unfold areaCell; rw [if_neg (by omega), if_neg (by omega), if_pos (by omega), show (j * 5 + 2) / 5 = j by omega]
  · unfold areaCell; rw [if_neg (by omega), if_neg (by omega), if_neg (by omega), if_pos (by omega), show (j * 5 + 3) / 5 = j by omega]
  · unfold areaCell; rw [if_neg (by omega), if_neg (by omega), if_neg (by omega), if_neg (by omega), show (j * 5 + 4) / 5 = j by omega]
theorem areaCells_snoc (A S : Nat → Nat) (W X : Nat → Bool) (B : Nat → Nat) (j b : Nat) :
    areaCells A S W X (fun i => if i = j then b else B i) (j + 1) = areaCells A S W X B j ++ [.int .u64 (A j : Nat), .int .u64 (S j : Nat), .bool (W j), .bool (X j), .slice (some ⟨b, 0, none⟩) (S j) (S j)] := by
  apply List.ext_getElem?
  intro p
  rcases Nat.lt_or_ge p (j * 5) with h | h
  · rw [areaCells_at _ _ _ _ _ _ _ (by omega), List.getElem?_append_left (by unfold areaCells; simpa using h), areaCells_at _ _ _ _ _ _ _ h]
    have e : p / 5 ≠ j := by omega
    unfold areaCell
    simp [e]
  · rw [List.getElem?_append_right (by unfold areaCells; simpa using h)]
    have hl : (areaCells A S W X B j).length = j * 5 := by simp [areaCells]
    rw [hl]
    obtain ⟨c0, c1, c2, c3, c4⟩ := areaCell_at A S W X (fun i => if i = j then b else B i) j
    rcases Nat.lt_or_ge p ((j + 1) * 5) with k | k
    · rw [areaCells_at _ _ _ _ _ _ _ k]
      have : p = j * 5 ∨ p = j * 5 + 1 ∨ p = j * 5 + 2 ∨ p = j * 5 + 3 ∨ p = j * 5 + 4 := by omega
      rcases this with rfl | rfl | rfl | rfl | rfl
      · rw [c0]; simp
      · rw [c1]; simp
      · rw [c2]; simp
      · rw [c3]; simp
      · rw [c4]; simp
    · rw [List.getElem?_eq_none (by unfold areaCells; simpa using k), List.getElem?_eq_none (by simp; omega)]
theorem info113 : (Try.prog.info? 113).map (fun i => (i.zero, i.size, i.bytes)) = some (some (.agg #[.int .u64 0, .int .u64 0, .bool false, .bool false, .slice none 0 0]), 5, 48) := by kernel_rfl
theorem info5 : (Try.prog.info? 5).map (fun i => (i.zero, i.size, i.bytes)) = some (some (.int .u8 0), 1, 1) := by kernel_rfl
def Made (wr : World) (mb : Nat) (v : Value) (j : Nat) (A S : Nat → Nat) (W X : Nat → Bool) (B : Nat → Nat) : Prop :=
  wr.cell? ⟨mb, 0, none⟩ = some v ∧ wr.frozen? ⟨mb, 0, none⟩ = false ∧ mb < wr.heap.size ∧ wr.ownsRow (mb + 1) 113 5 v j (areaCells A S W X B j) ∧
  (∀ i, i < j → mb < B i ∧ B i < wr.heap.size ∧ v.ownBlock ≠ some (B i) ∧ (∀ p, p < S i → wr.cell? ⟨B i, p, none⟩ = some (.int .u8 0) ∧ wr.frozen? ⟨B i, p, none⟩ = false)) ∧ (∀ i k, i < j → k < j → i ≠ k → B i ≠ B k)
def right (A S : Nat → Nat) (n : Nat) : Prop := ∀ j, j < n → A j % 8 = 0 ∧ S j % 8 = 0 ∧ 0 < S j ∧ S j ≤ 16777216 ∧ A j + S j ≤ 281474976710656
theorem isRight_y (a s : Nat) (p q : Bool) (w : World) (h1 : a % 8 = 0) (h2 : s % 8 = 0) (h3 : 0 < s) (h4 : s ≤ 16777216) (h5 : a + s ≤ 281474976710656) :
    Calls Try.prog 98 #[.agg #[.int .u64 a, .int .u64 s, .bool p, .bool q]] w fun e w' => e = .returned (.bool true) ∧ Below w.heap.size w w' := by
  have i1 : (a : Int) % 8 = 0 := by omega
  have i2 : (s : Int) % 8 = 0 := by omega
  have i3 : decide ((0 : Nat) < s) = true := decide_eq_true h3
  have i6 : decide ((0 : Int) < (s : Int)) = true := decide_eq_true (by omega)
  have i4 : decide ((s : Int) ≤ 16777216) = true := decide_eq_true (by omega)
  have i7 : decide (s ≤ 16777216) = true := decide_eq_true (by omega)
  have i5 : decide ((a : Int) ≤ 281474976710656 - (s : Int)) = true := decide_eq_true (by omega)
  go_enter Try.func98, Try.ntmps98
  go_wp2
  go_ret
  exact ⟨rfl, (Below.refl _ _).alloc (Nat.le_refl _) _⟩
end Go.Proofs.Ytapcapcbndooiaa
