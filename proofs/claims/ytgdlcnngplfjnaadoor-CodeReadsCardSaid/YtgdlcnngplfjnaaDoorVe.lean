import Derived.Test.YtgdlcnngplfjnaaDoorVb
namespace Go.Proofs.YtgdlcnngplfjnaaDoor.Vf
open Go.ChangeShapes Go.WideShapes Go.ChangeAt Go.RowKit
set_option linter.unusedVariables false
/-! What the verifier does, in plain words. -/
/-- What stands at a place. -/
def opA (D : Nat → Nat) (k : Nat) : Int := if kindO (D k) = 0 then 0 else if kindO (D k) = 2 then IntKind.i8.wrap (D (k + 1) : Nat) else if kindO (D k) = 3 then IntKind.i16.wrap (D (k + 1) + 256 * D (k + 2) : Nat) else (D (k + 1) : Nat)
def opB (D : Nat → Nat) (k : Nat) : Int := if kindO (D k) = 4 then (D (k + 2) : Nat) else 0
def szK (k : Nat) : Nat := if k = 3 then 3 else if k = 4 then 3 else if k = 0 then 1 else 2
theorem szK_int (k : Nat) : sizeK k = (szK k : Int) := by
  unfold sizeK szK
  by_cases h3 : k = 3
  · subst h3; rfl
  by_cases h4 : k = 4
  · subst h4; rfl
  by_cases h0 : k = 0
  · subst h0; rfl
  simp only [h3, h4, h0, if_false]; rfl
theorem szK_bd (k : Nat) : 1 ≤ szK k ∧ szK k ≤ 3 := by
  unfold szK
  split
  · omega
  · split
    · omega
    · split <;> omega
/-- Why what stands at a place within is none: 5, 6; 0: it is one. -/
def rdE (n : Nat) (D : Nat → Nat) (k : Nat) : Int := if 41 ≤ D k then 5 else if n < k + szK (kindO (D k)) then 6 else 0
/-- The error of Read. -/
def opE (n : Nat) (D : Nat → Nat) (p : Int) : Int := if p < 0 ∨ (n : Int) < p then 1 else if p = n then 6 else rdE n D p.toNat
def opC (n : Nat) (D : Nat → Nat) (p : Int) : Array Value := if opE n D p = 0 then #[.int .i64 (D p.toNat : Nat), .int .i64 (opA D p.toNat), .int .i64 (opB D p.toNat), .int .i64 (szK (kindO (D p.toNat)) : Nat)] else #[.int .i64 0, .int .i64 0, .int .i64 0, .int .i64 0]
def isIn (n : Int) (c : Nat) : Bool := decide (0 ≤ n ∧ n < c)
/-- Places: what the n-th is, how far they go. -/
def begs (n : Nat) (D : Nat → Nat) : Nat → Nat → List Nat
  | 0, _ => []
  | f + 1, k => if k < n then (if rdE n D k = 0 then k :: begs n D f (k + szK (kindO (D k))) else []) else []
/-- Where reading ends. -/
def endP (n : Nat) (D : Nat → Nat) : Nat → Nat → Nat
  | 0, k => k
  | f + 1, k => if k < n then (if rdE n D k = 0 then endP n D f (k + szK (kindO (D k))) else k) else k
end Go.Proofs.YtgdlcnngplfjnaaDoor.Vf
