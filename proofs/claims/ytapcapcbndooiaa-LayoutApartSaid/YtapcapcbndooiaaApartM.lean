import Derived.Test.YtapcapcbndooiaaRows
import Derived.WalkKit
import Derived.ProofKit
import Derived.OpenShut
import Derived.Deep.QuietTactic
import Derived.BigQuiet
import Derived.Outline
import Derived.WalkSmall
import Derived.WalkLawsBesides
import Derived.WalkSpells
import Derived.BigGuardPart
import Derived.RegionTactic
import Derived.Deep.RegionHeld3
import Derived.Lib.Hide
import Derived.Deep.OwnRows
import Derived.Maps.AppendAt
import Derived.Deep.AppendLies
import Derived.Below
import Derived.Test.YtapcapcbndooiaaAtC
import Derived.Test.YtapcapcbndooiaaHolder
namespace Go.Proofs.Ytapcapcbndooiaa
open Go.ChangeShapes Go.WideShapes Go.ChangeAt Go.RowKit
set_option linter.unusedVariables false
def A5 (j : Nat) : Nat := (rb j).toNat
def S5 (c0 c1 c3 : Int) (j : Nat) : Nat := (rs c0 c1 c3 j).toNat
theorem A5_cast (j : Nat) : ((A5 j : Nat) : Int) = rb j := by have := rb_range j; unfold A5; omega
theorem S5_cast (c0 c1 c3 : Int) (j : Nat) (h0 : 1 ≤ c0) (h0' : c0 ≤ 4) (h1 : c1 ≤ 65536) (h3 : c3 ≤ 65536) : ((S5 c0 c1 c3 j : Nat) : Int) = rs c0 c1 c3 j := by have := rs_range c0 c1 c3 j h0 h0' h1 h3; unfold S5; omega
theorem rb8 (j : Nat) : rb j % 8 = 0 := by
  unfold rb
  split
  · decide
  · split
    · decide
    · split
      · decide
      · split <;> decide
theorem rs8 (c0 c1 c3 : Int) (j : Nat) (h : c3 % 16 = 0) : rs c0 c1 c3 j % 8 = 0 := by
  unfold rs hp cd; repeat' split
  all_goals omega
theorem rs_next (c0 c1 c3 : Int) (j : Nat) (hj : j + 1 < 5) (h0 : 1 ≤ c0) (h0' : c0 ≤ 4) (h1 : c1 ≤ 65536) (h3 : c3 ≤ 65536) : rb j + rs c0 c1 c3 j ≤ rb (j + 1) := by
  have : j = 0 ∨ j = 1 ∨ j = 2 ∨ j = 3 := by omega
  rcases this with rfl | rfl | rfl | rfl
  · show (65536 : Int) + 262144 ≤ 524288; decide
  · show (524288 : Int) + 262144 ≤ 1048576; decide
  · show (1048576 : Int) + 131072 * c0 ≤ 2097152; omega
  · show (2097152 : Int) + hp c1 ≤ 3145728; unfold hp; split <;> omega
theorem right5 (c0 c1 c3 : Int) (h0 : 1 ≤ c0) (h0' : c0 ≤ 4) (h1 : c1 ≤ 65536) (h3 : c3 ≤ 65536) (h : c3 % 16 = 0) : right A5 (S5 c0 c1 c3) 5 := fun j hj => by
  have e1 := A5_cast j
  have e2 := S5_cast c0 c1 c3 j h0 h0' h1 h3
  have r1 := rb_range j
  have r2 := rs_range c0 c1 c3 j h0 h0' h1 h3
  have r3 := rb8 j
  have r4 := rs8 c0 c1 c3 j h
  omega
theorem sorted5 (c0 c1 c3 : Int) (h0 : 1 ≤ c0) (h0' : c0 ≤ 4) (h1 : c1 ≤ 65536) (h3 : c3 ≤ 65536) : ∀ j, j + 1 < 5 → A5 j + S5 c0 c1 c3 j ≤ A5 (j + 1) := fun j hj => by
  have e1 := A5_cast j
  have e2 := S5_cast c0 c1 c3 j h0 h0' h1 h3
  have e3 := A5_cast (j + 1)
  have := rs_next c0 c1 c3 j hj h0 h0' h1 h3
  omega
theorem inA5 (c0 c1 c3 : Int) (j a : Nat) (h0 : 1 ≤ c0) (h0' : c0 ≤ 4) (h1 : c1 ≤ 65536) (h3 : c3 ≤ 65536) : inA A5 (S5 c0 c1 c3) j a ↔ inR c0 c1 c3 j a := by
  have e1 := A5_cast j
  have e2 := S5_cast c0 c1 c3 j h0 h0' h1 h3
  unfold inA inR
  omega
theorem RegAt.regs {w : World} {g : Nat} {c0 c1 c3 : Int} (h : RegAt w g c0 c1 c3) (h0 : 1 ≤ c0) (h0' : c0 ≤ 4) (h1 : c1 ≤ 65536) (h3 : c3 ≤ 65536) : RegsAt w g 5 A5 (S5 c0 c1 c3) rwr rx := fun p hp => by
  obtain ⟨a0, a1, a2, a3⟩ := h (p / 4) (by omega)
  rw [← A5_cast] at a0
  rw [← S5_cast c0 c1 c3 _ h0 h0' h1 h3] at a1
  unfold regCell
  have : p % 4 = 0 ∨ p % 4 = 1 ∨ p % 4 = 2 ∨ p % 4 = 3 := by omega
  rcases this with e | e | e | e
  · rw [if_pos e, ← a0]; congr 2; omega
  · rw [if_neg (by omega), if_pos e, ← a1]; congr 2; omega
  · rw [if_neg (by omega), if_neg (by omega), if_pos e, ← a2]; congr 2; omega
  · rw [if_neg (by omega), if_neg (by omega), if_neg (by omega), ← a3]; congr 2; omega
theorem obj_addr (o : Int) (h : 1 ≤ o) (h' : o ≤ 65536) : objS (addrS o) = o := by
  have e : addrS o = 2097152 + 8 * (o - 1) := if_pos ⟨h, h'⟩
  unfold objS
  rw [e, if_pos (by omega)]
  omega
theorem class_kind (c : Int) : (kindS c == 0) = true ∨ classS (kindS c) = c := by
  unfold classS kindS
  by_cases h1 : 0 ≤ c ∧ c ≤ 49
  · right; rw [if_pos h1, if_pos (by omega)]; omega
  · rw [if_neg h1]
    by_cases h2 : c = -1
    · right; subst h2; rfl
    · rw [if_neg h2]
      by_cases h3 : c = -2
      · right; subst h3; rfl
      · left; rw [if_neg h3]; rfl
theorem kindS_range (c : Int) : 0 ≤ kindS c ∧ kindS c < 18446744073709551616 := by unfold kindS; repeat' split <;> omega
end Go.Proofs.Ytapcapcbndooiaa
