import Derived.Test.YtapcapcbndooiaaRows
import Derived.WalkKit
import Derived.ProofKit
import Derived.OpenShut
import Derived.Deep.QuietTactic
import Derived.BigQuiet
import Derived.Outline
import Derived.WalkSmall
import Derived.WalkLawsBesides
import Derived.WalkSpells
import Derived.BigGuardPart
import Derived.RegionTactic
import Derived.Deep.RegionHeld3
import Derived.Lib.Hide
import Derived.Deep.OwnRows
import Derived.Maps.AppendAt
import Derived.Deep.AppendLies
import Derived.Below
import Derived.Deep.RegionLaw
import Derived.Test.YtapcapcbndooiaaCloneG
namespace Go.Proofs.Ytapcapcbndooiaa
open Go.ChangeShapes Go.WideShapes Go.ChangeAt Go.RowKit
set_option linter.unusedVariables false
def rightOne (a s : Nat) : Prop := a % 8 = 0 ∧ s % 8 = 0 ∧ 0 < s ∧ s ≤ 16777216 ∧ a + s ≤ 281474976710656
theorem isRight_n (a s : Nat) (p q : Bool) (w : World) (h : ¬ rightOne a s) :
    Calls Try.prog 98 #[.agg #[.int .u64 a, .int .u64 s, .bool p, .bool q]] w fun e w' => e = .returned (.bool false) ∧ Below w.heap.size w w' := by
  have fin : Below w.heap.size w (w.alloc (.cells #[.int .u64 a, .int .u64 s, .bool p, .bool q] 43)) := (Below.refl _ _).alloc (Nat.le_refl _) _
  have HF := Lib.hid fin
  clear fin
  by_cases h1 : a % 8 = 0
  · have i1 : (a : Int) % 8 = 0 := by omega
    by_cases h2 : s % 8 = 0
    · have i2 : (s : Int) % 8 = 0 := by omega
      by_cases h3 : 0 < s
      · have i3 : decide ((0 : Nat) < s) = true := decide_eq_true h3
        have i6 : decide ((0 : Int) < (s : Int)) = true := decide_eq_true (by omega)
        by_cases h4 : s ≤ 16777216
        · have i4 : decide ((s : Int) ≤ 16777216) = true := decide_eq_true (by omega)
          have i7 : decide (s ≤ 16777216) = true := decide_eq_true (by omega)
          have h5 : 281474976710656 < a + s := by unfold rightOne at h; omega
          have i5 : decide ((a : Int) ≤ 281474976710656 - (s : Int)) = false := decide_eq_false (by omega)
          clear h h1 h2
          go_enter Try.func98, Try.ntmps98
          go_wp2
          go_ret
          exact ⟨rfl, HF.out⟩
        · have i4 : decide ((s : Int) ≤ 16777216) = false := decide_eq_false (by omega)
          have i7 : decide (s ≤ 16777216) = false := decide_eq_false (by omega)
          clear h h1 h2
          go_enter Try.func98, Try.ntmps98
          go_wp2
          go_ret
          exact ⟨rfl, HF.out⟩
      · have i3 : decide ((0 : Nat) < s) = false := decide_eq_false h3
        have i6 : decide ((0 : Int) < (s : Int)) = false := decide_eq_false (by omega)
        clear h h1 h2
        go_enter Try.func98, Try.ntmps98
        go_wp2
        go_ret
        exact ⟨rfl, HF.out⟩
    · have i2 : ¬ (s : Int) % 8 = 0 := by omega
      have i8 : ((s : Int) % 8 == 0) = false := by simp; omega
      clear h h1
      go_enter Try.func98, Try.ntmps98
      go_wp2
      go_ret
      exact ⟨rfl, HF.out⟩
  · have i1 : ¬ (a : Int) % 8 = 0 := by omega
    have i8 : ((a : Int) % 8 == 0) = false := by simp; omega
    clear h
    go_enter Try.func98, Try.ntmps98
    go_wp2
    go_ret
    exact ⟨rfl, HF.out⟩
end Go.Proofs.Ytapcapcbndooiaa
