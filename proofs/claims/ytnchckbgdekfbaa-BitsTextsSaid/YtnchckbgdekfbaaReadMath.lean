import Derived.Test.YtnchckbgdekfbaaHexMath
namespace Go.Proofs.Ytnchckbgdekfbaa
open Go.RowKit
set_option linter.unusedVariables false

def digN (c : Int) : Int := if 48 ≤ c ∧ c ≤ 57 then c - 48 else if 97 ≤ c ∧ c ≤ 102 then c - 87 else if 65 ≤ c ∧ c ≤ 70 then c - 55 else 0
def isD (c : Int) : Bool := decide (48 ≤ c ∧ c ≤ 57) || decide (97 ≤ c ∧ c ≤ 102) || decide (65 ≤ c ∧ c ≤ 70)
theorem digN_range (c : Int) : 0 ≤ digN c ∧ digN c < 16 := by unfold digN; repeat' split <;> omega
def val (f : Nat → Int) : Nat → Int
  | 0 => 0
  | j + 1 => val f j * 16 + digN (f j)
theorem val_range (f : Nat → Int) : ∀ j, 0 ≤ val f j ∧ val f j < 16 ^ j
  | 0 => by simp [val]
  | j + 1 => by
    have h := val_range f j
    have d := digN_range (f j)
    rw [Int.pow_succ]; unfold val; omega
theorem val_top (f : Nat → Int) (j : Nat) (hj : j ≤ 15) : 0 ≤ val f j ∧ val f j < 1152921504606846976 := by
  have h := val_range f j
  have : 16 ^ j ≤ 16 ^ 15 := Nat.pow_le_pow_right (by decide) hj
  have hc : (16 : Int) ^ j = ((16 ^ j : Nat) : Int) := by simp
  rw [show (16 : Nat) ^ 15 = 1152921504606846976 from rfl] at this
  omega
theorem or_dig (a d : Int) (ha : 0 ≤ a) (ha' : a < 1152921504606846976) (hd : 0 ≤ d) (hd' : d < 16) : bits .or .u64 (a * 16) d = a * 16 + d := by
  rw [u64_or _ _ (by omega) (by omega) (by omega) (by omega), nat_join 4 _ _ (by omega) (by omega)]
  omega
def chr (s : ByteArray) (j : Nat) : Int := if h : j < s.size then ((s[j]'h).toNat : Int) else 0
theorem chr_eq (s : ByteArray) (j : Nat) (h : j < s.size) : ((s[j]'h).toNat : Int) = chr s j := by unfold chr; rw [dif_pos h]
theorem chr_range (s : ByteArray) (j : Nat) : 0 ≤ chr s j ∧ chr s j < 256 := by
  unfold chr
  split
  · rename_i h
    have := (s[j]'h).toNat_lt
    omega
  · omega
def ReadOk (s : ByteArray) : Prop := 1 ≤ s.size ∧ s.size ≤ 16 ∧ ∀ j, j < s.size → isD (chr s j) = true

/-- the digits of a number say it -/
theorem isD_dig (x : Int) (h : 0 ≤ x) (h' : x < 16) : isD (dig x) = true ∧ digN (dig x) = x := by
  unfold isD dig digN
  by_cases h1 : x < 10
  · rw [if_pos h1]; constructor
    · simp; omega
    · rw [if_pos (by omega)]; omega
  · rw [if_neg h1]; constructor
    · simp; omega
    · rw [if_neg (by omega), if_pos (by omega)]; omega
theorem hexL_get (v : Int) : ∀ k j (hj : j < (hexL v k).length), (hexL v k)[j] = digb (v / 16 ^ (k - 1 - j) % 16)
  | 0, j, hj => by simp [hexL] at hj
  | k + 1, 0, hj => by simp [hexL]
  | k + 1, j + 1, hj => by
    have hj' : j < (hexL v k).length := by simpa [hexL] using hj
    simp only [hexL, List.getElem_cons_succ]
    rw [hexL_get v k j hj']
    have e : k + 1 - 1 - (j + 1) = k - 1 - j := by omega
    rw [e]
theorem chr_hexL (v : Int) (k j : Nat) (hj : j < k) : chr ⟨(hexL v k).toArray⟩ j = dig (v / 16 ^ (k - 1 - j) % 16) := by
  have hl : j < (hexL v k).length := by rw [hexL_length]; exact hj
  have hs : j < (⟨(hexL v k).toArray⟩ : ByteArray).size := by simpa [ByteArray.size] using hl
  rw [← chr_eq _ j hs]
  have e : ((⟨(hexL v k).toArray⟩ : ByteArray)[j]'hs) = (hexL v k)[j] := rfl
  rw [e, hexL_get, digb_toNat _ (by omega) (by omega)]
theorem val_hexL (v : Int) (k : Nat) (hz : v / 16 ^ k = 0) : ∀ j, j ≤ k → val (chr ⟨(hexL v k).toArray⟩) j = v / 16 ^ (k - j)
  | 0, _ => by simp [val, hz]
  | j + 1, hj => by
    have ih := val_hexL v k hz j (by omega)
    unfold val
    rw [ih, chr_hexL v k j (by omega), (isD_dig _ (by omega) (by omega)).2]
    have e : k - j = (k - (j + 1)) + 1 := by omega
    have e2 : k - 1 - j = k - (j + 1) := by omega
    rw [e, ← hex_succ, e2]
    omega
theorem readOk_hexL (v : Int) (D k : Nat) (hD : 1 ≤ D) (hD' : D ≤ 16) (h : 0 ≤ v) (h' : v < 18446744073709551616) (hk : HexIs v D k) : ReadOk ⟨(hexL v k).toArray⟩ ∧ val (chr ⟨(hexL v k).toArray⟩) k = v := by
  have hs : (⟨(hexL v k).toArray⟩ : ByteArray).size = k := by simp [ByteArray.size, hexL_length]
  have hk16 : k ≤ 16 := by
    rcases Nat.lt_or_ge 16 k with h1 | h1
    · exact absurd ⟨hD', hex_top v h h'⟩ (hk.2 16 h1)
    · exact h1
  refine ⟨⟨by rw [hs]; have := hk.1.1; omega, by rw [hs]; exact hk16, fun j hj => ?_⟩, ?_⟩
  · rw [hs] at hj
    rw [chr_hexL v k j hj]
    exact (isD_dig _ (by omega) (by omega)).1
  · rw [val_hexL v k hk.1.2 k (Nat.le_refl _)]; simp
end Go.Proofs.Ytnchckbgdekfbaa
