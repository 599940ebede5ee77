import Derived.Test.YtgdlcnngplfjnaaDoorVe
import Derived.Lib.Fields
import Derived.Lib.ItoaNum
import Derived.Lib.Atoi
import Derived.KernelRfl
namespace Go.Proofs.YtgdlcnngplfjnaaDoor.Co
open Go.Proofs.YtgdlcnngplfjnaaDoor Vf
set_option linter.unusedVariables false
/-- The names of bytecodes, by their codes. -/
def nmL : List (List UInt8) := [[110, 111, 112], [99, 111, 110, 115, 116], [115, 109, 97, 108, 108], [110, 117, 108, 108], [103, 101, 116], [115, 101, 116], [100, 117, 112], [100, 114, 111, 112], [115, 119, 97, 112], [97, 100, 100], [115, 117, 98], [109, 117, 108], [100, 105, 118], [114, 101, 109], [97, 110, 100], [111, 114], [120, 111, 114], [115, 104, 108], [115, 104, 114], [117, 115, 104, 114], [110, 101, 103], [108, 116], [101, 113], [115, 97, 109, 101], [105, 115, 110, 117, 108, 108], [106, 117, 109, 112], [105, 102], [99, 97, 108, 108], [114, 101, 116], [110, 101, 119], [103, 101, 116, 102], [112, 117, 116, 102], [110, 101, 119, 97], [103, 101, 116, 97], [112, 117, 116, 97], [108, 101, 110], [101, 110, 116, 101, 114], [101, 120, 105, 116], [115, 112, 97, 119, 110], [106, 111, 105, 110], [112, 114, 105, 110, 116]]
/-- The names in one row, as the program has them. -/
def allN : List UInt8 := [110, 111, 112, 32, 99, 111, 110, 115, 116, 32, 115, 109, 97, 108, 108, 32, 110, 117, 108, 108, 32, 103, 101, 116, 32, 115, 101, 116, 32, 100, 117, 112, 32, 100, 114, 111, 112, 32, 115, 119, 97, 112, 32, 97, 100, 100, 32, 115, 117, 98, 32, 109, 117, 108, 32, 100, 105, 118, 32, 114, 101, 109, 32, 97, 110, 100, 32, 111, 114, 32, 120, 111, 114, 32, 115, 104, 108, 32, 115, 104, 114, 32, 117, 115, 104, 114, 32, 110, 101, 103, 32, 108, 116, 32, 101, 113, 32, 115, 97, 109, 101, 32, 105, 115, 110, 117, 108, 108, 32, 106, 117, 109, 112, 32, 105, 102, 32, 99, 97, 108, 108, 32, 114, 101, 116, 32, 110, 101, 119, 32, 103, 101, 116, 102, 32, 112, 117, 116, 102, 32, 110, 101, 119, 97, 32, 103, 101, 116, 97, 32, 112, 117, 116, 97, 32, 108, 101, 110, 32, 101, 110, 116, 101, 114, 32, 101, 120, 105, 116, 32, 115, 112, 97, 119, 110, 32, 106, 111, 105, 110, 32, 112, 114, 105, 110, 116]
theorem nmL_fields : Lib.fields allN = nmL := by decide +kernel
theorem nmL_len : nmL.length = 41 := rfl
theorem nmL_ascii : ∀ (j : Nat) (b : UInt8), allN[j]? = some b → b.toNat < 128 := by
  intro j b h
  have : ∀ x ∈ allN, x.toNat < 128 := by decide +kernel
  exact this b (List.mem_of_getElem? h)
def nmC (c : Nat) : List UInt8 := nmL.getD c []
/-- A name's code. -/
def kindP (s : List UInt8) : Option Nat := if s ∈ nmL then some (nmL.idxOf s) else none
theorem nmL_nodup : nmL.Nodup := by decide +kernel
theorem nmC_at {c : Nat} (h : c < 41) : nmL[c]? = some (nmC c) := by
  unfold nmC
  rw [List.getD_eq_getElem?_getD, List.getElem?_eq_getElem (by rw [nmL_len]; exact h)]
  rfl
theorem kindP_nm {c : Nat} (h : c < 41) : kindP (nmC c) = some c := by
  have hm : nmC c ∈ nmL := List.mem_of_getElem? (nmC_at h)
  unfold kindP
  rw [if_pos hm]
  have : ∀ q, q < 41 → nmL.idxOf (nmC q) = q := by decide +kernel
  rw [this c h]
theorem kindP_lt {s : List UInt8} {c : Nat} (h : kindP s = some c) : c < 41 ∧ nmC c = s := by
  unfold kindP at h
  split at h
  · rename_i hm
    injection h with h
    subst h
    have hl := List.idxOf_lt_length_iff.2 hm
    refine ⟨by rw [← nmL_len]; exact hl, ?_⟩
    unfold nmC
    rw [List.getD_eq_getElem?_getD, List.getElem?_eq_getElem hl, List.getElem_idxOf]
    rfl
  · cases h
/-! ### Write -/
/-- The error of Write. -/
def wrE (c a b : Int) : Int :=
  if ¬ (0 ≤ c ∧ c < 41) then 5
  else if kindO c = 0 then (if a ≠ 0 ∨ b ≠ 0 then 1 else 0)
  else if kindO c = 2 then (if ¬ (-128 ≤ a ∧ a ≤ 127) ∨ b ≠ 0 then 1 else 0)
  else if kindO c = 3 then (if ¬ (-32768 ≤ a ∧ a ≤ 32767) ∨ b ≠ 0 then 1 else 0)
  else if kindO c = 4 then (if ¬ (0 ≤ a ∧ a ≤ 255) ∨ ¬ (0 ≤ b ∧ b ≤ 255) then 1 else 0)
  else (if ¬ (0 ≤ a ∧ a ≤ 255) ∨ b ≠ 0 then 1 else 0)
/-- The bytes of one that may be. -/
def wrL (c a b : Int) : List Int :=
  c :: (if kindO c = 0 then [] else if kindO c = 3 then [a % 256, a / 256 % 256] else if kindO c = 4 then [a, b] else [a % 256])
/-! ### Text -/
/-- A bytecode's line, without its end. -/
def lineP (c : Nat) (a b : Int) : List UInt8 := nmC c ++ (if kindO c = 0 then [] else 32 :: Lib.itoa a) ++ (if kindO c = 4 then 32 :: Lib.itoa b else [])
def textP (n : Nat) (D : Nat → Nat) (l : List Nat) : List UInt8 := l.flatMap fun k => lineP (D k) (opA D k) (opB D k) ++ [10]
end Go.Proofs.YtgdlcnngplfjnaaDoor.Co
