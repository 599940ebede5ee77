import Derived.WalkKit
import Derived.Laws.IdiomStrings
import Derived.Test.YtnchckbgdekfbaaMath
namespace Go.Proofs.Ytnchckbgdekfbaa
open Go.RowKit
set_option linter.unusedVariables false

def dig (x : Int) : Int := if x < 10 then 48 + x else 87 + x
def digb (x : Int) : UInt8 := UInt8.ofNat (dig x).toNat
theorem digb_toNat (x : Int) (h : 0 ≤ x) (h' : x < 16) : ((digb x).toNat : Int) = dig x := by
  unfold digb dig
  rw [UInt8.toNat_ofNat']
  split <;> omega

theorem lookup (n : Nat) (h : n < 16) (hs : n < (⟨#[48, 49, 50, 51, 52, 53, 54, 55, 56, 57, 97, 98, 99, 100, 101, 102]⟩ : ByteArray).size) :
    (((⟨#[48, 49, 50, 51, 52, 53, 54, 55, 56, 57, 97, 98, 99, 100, 101, 102]⟩ : ByteArray)[n]'hs).toNat : Int) = dig (n : Int) := by
  have : ∀ m : Fin 16, (((⟨#[48, 49, 50, 51, 52, 53, 54, 55, 56, 57, 97, 98, 99, 100, 101, 102]⟩ : ByteArray)[m.val]'(by have := m.isLt; exact this)).toNat : Int) = dig (m.val : Int) := by decide
  exact this ⟨n, h⟩

def hexL (v : Int) : Nat → List UInt8
  | 0 => []
  | k + 1 => digb (v / 16 ^ k % 16) :: hexL v k
theorem hexL_length (v : Int) : ∀ k, (hexL v k).length = k
  | 0 => rfl
  | k + 1 => by simp [hexL, hexL_length v k]
def hexA (v : Int) : Nat → Array Value
  | 0 => #[Value.int IntKind.u8 0, Value.int IntKind.u8 0, Value.int IntKind.u8 0, Value.int IntKind.u8 0,
        Value.int IntKind.u8 0, Value.int IntKind.u8 0, Value.int IntKind.u8 0, Value.int IntKind.u8 0,
        Value.int IntKind.u8 0, Value.int IntKind.u8 0, Value.int IntKind.u8 0, Value.int IntKind.u8 0,
        Value.int IntKind.u8 0, Value.int IntKind.u8 0, Value.int IntKind.u8 0, Value.int IntKind.u8 0]
  | k + 1 => (hexA v k).setIfInBounds (15 - k) (.int .u8 (dig (v / 16 ^ k % 16)))
theorem hexA_size (v : Int) : ∀ k, (hexA v k).size = 16
  | 0 => rfl
  | k + 1 => by simp [hexA, hexA_size v k]
theorem hexA_get (v : Int) (k : Nat) (j : Nat) (hj : j < 16) : ∃ c, (hexA v k)[j]? = some c :=
  ⟨(hexA v k)[j]'(by rw [hexA_size]; exact hj), by simp [hexA_size, hj]⟩
theorem hexA_cell (v : Int) : ∀ k, k ≤ 16 → ∀ j (hj : j < (hexL v k).length), (hexA v k)[16 - k + j]? = some (.int .u8 ((hexL v k)[j].toNat : Int))
  | 0, _, j, hj => by simp [hexL] at hj
  | k + 1, hk, j, hj => by
    have hx0 : 0 ≤ v / 16 ^ k % 16 := by omega
    have hx1 : v / 16 ^ k % 16 < 16 := by omega
    cases j with
    | zero =>
      have e : 16 - (k + 1) + 0 = 15 - k := by omega
      rw [e]
      simp only [hexA, hexL, List.getElem_cons_zero]
      rw [Array.getElem?_setIfInBounds_self_of_lt (by rw [hexA_size]; omega), digb_toNat _ hx0 hx1]
    | succ j =>
      have hj' : j < (hexL v k).length := by simpa [hexL] using hj
      have e : 16 - (k + 1) + (j + 1) = 16 - k + j := by omega
      rw [e]
      simp only [hexA, hexL, List.getElem_cons_succ]
      rw [Array.getElem?_setIfInBounds_ne (by omega)]
      exact hexA_cell v k (by omega) j hj'

/-- how many digits: the first number from D on at which nothing is left -/
def HexNot (v : Int) (D k : Nat) : Prop := ∀ j, j < k → ¬ (D ≤ j ∧ v / 16 ^ j = 0)
def HexIs (v : Int) (D k : Nat) : Prop := (D ≤ k ∧ v / 16 ^ k = 0) ∧ HexNot v D k
theorem HexNot.zero (v : Int) (D : Nat) : HexNot v D 0 := fun j h => by omega
theorem HexNot.step {v : Int} {D k : Nat} (h : HexNot v D k) (hn : ¬ (D ≤ k ∧ v / 16 ^ k = 0)) : HexNot v D (k + 1) := fun j hj => by
  rcases Nat.lt_or_ge j k with h1 | h1
  · exact h j h1
  · obtain rfl : j = k := by omega
    exact hn
theorem HexIs.uniq {v : Int} {D k l : Nat} (h : HexIs v D k) (h' : HexIs v D l) : k = l := by
  rcases Nat.lt_trichotomy k l with h1 | h1 | h1
  · exact absurd h.1 (h'.2 k h1)
  · exact h1
  · exact absurd h'.1 (h.2 l h1)
theorem hex_top (v : Int) (h : 0 ≤ v) (h' : v < 18446744073709551616) : v / 16 ^ 16 = 0 := by
  have : (16 : Int) ^ 16 = 18446744073709551616 := by decide
  rw [this]; omega
theorem hex_succ (v : Int) (k : Nat) : v / 16 ^ k / 16 = v / 16 ^ (k + 1) := by
  rw [Int.pow_succ, Int.ediv_ediv_of_nonneg (Int.le_of_lt (Int.pow_pos (by decide)))]
theorem and15 (x : Int) (h : 0 ≤ x) (h' : x < 18446744073709551616) : bits .and .u64 x 15 = x % 16 := by
  have := and_mask x 4 (by decide) h h'
  simpa using this
theorem hex_div_range (v : Int) (k : Nat) (h : 0 ≤ v) (h' : v < 18446744073709551616) : 0 ≤ v / 16 ^ k ∧ v / 16 ^ k < 18446744073709551616 :=
  udiv_range v (16 ^ k) (Int.pow_pos (by decide)) h h'
end Go.Proofs.Ytnchckbgdekfbaa
