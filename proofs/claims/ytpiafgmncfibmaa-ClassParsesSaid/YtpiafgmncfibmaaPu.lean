import Derived.Test.YtpiafgmncfibmaaSc
import Derived.Test.YtpiafgmncfibmaaTz
import Derived.Test.YtpiafgmncfibmaaRows
import Derived.WalkKit
import Derived.ProofKit
import Derived.OpenShut
import Derived.Deep.QuietTactic
import Derived.BigQuiet
import Derived.Outline
import Derived.WalkSmall
import Derived.WalkLawsBesides
import Derived.WalkSpells
import Derived.BigGuardPart
import Derived.RegionTactic
import Derived.Deep.RegionHeld3
import Derived.Lib.Hide
import Derived.Deep.MidRow
import Derived.Below
import Derived.Deep.RegionWith
import Derived.Deep.OwnRows
import Derived.Deep.AppendLies
import Derived.Deep.RegionLaw
namespace Go.Proofs.Ytpiafgmncfibmaa
open Go.ChangeShapes Go.WideShapes Go.ChangeAt Go.RowKit
set_option linter.unusedVariables false

/-- What is wrong first: where, and which error. -/
def Er := Option (Nat × Int)
def nxE (n : Nat) (d : Nat → Nat) (er : Int) (ok : Nat → Bool) (k : Nat) : Option (Nat × Int) := if n ≤ k then some (n, 6) else if ok (d k) = true then none else some (k, er)
def firE (f : Nat → Option (Nat × Int)) : Nat → Option (Nat × Int)
  | 0 => none
  | m + 1 => (firE f m).or (f m)
theorem firE_lt {f : Nat → Option (Nat × Int)} : ∀ {m : Nat}, firE f m = none → ∀ j, j < m → f j = none
  | 0, _, j, hj => absurd hj (Nat.not_lt_zero j)
  | m + 1, h, j, hj => by
    have h' := Option.or_eq_none_iff.1 (show (firE f m).or (f m) = none from h)
    rcases Nat.lt_succ_iff_lt_or_eq.1 hj with h1 | rfl
    · exact firE_lt h'.1 j h1
    · exact h'.2
theorem firE_none {f : Nat → Option (Nat × Int)} : ∀ {m : Nat}, (∀ j, j < m → f j = none) → firE f m = none
  | 0, _ => rfl
  | m + 1, h => by
    show (firE f m).or (f m) = none
    rw [firE_none fun j hj => h j (Nat.lt_succ_of_lt hj), h m (Nat.lt_succ_self m)]
    rfl
theorem firE_at {f : Nat → Option (Nat × Int)} {j : Nat} {x : Nat × Int} (h : firE f j = none) (hx : f j = some x) : ∀ {m : Nat}, j < m → firE f m = some x
  | 0, hj => absurd hj (Nat.not_lt_zero j)
  | m + 1, hj => by
    show (firE f m).or (f m) = some x
    rcases Nat.lt_succ_iff_lt_or_eq.1 hj with h1 | rfl
    · rw [firE_at h hx h1]; rfl
    · rw [h, hx]; rfl
theorem firE_succ {f : Nat → Option (Nat × Int)} {j : Nat} (h : firE f j = none) (hx : f j = none) : firE f (j + 1) = none := by
  show (firE f j).or (f j) = none
  rw [h, hx]; rfl
theorem or_some {a b : Option (Nat × Int)} {x : Nat × Int} (h : a = some x) : a.or b = some x := by rw [h]; rfl
theorem or_none {a b : Option (Nat × Int)} (h : a = none) : a.or b = b := by rw [h]; rfl
theorem nxE_short {n : Nat} {d : Nat → Nat} {er : Int} {ok : Nat → Bool} {k : Nat} (h : n ≤ k) : nxE n d er ok k = some (n, 6) := if_pos h
theorem nxE_bad {n : Nat} {d : Nat → Nat} {er : Int} {ok : Nat → Bool} {k : Nat} (h : k < n) (h2 : ok (d k) = false) : nxE n d er ok k = some (k, er) := by
  unfold nxE
  rw [if_neg (by omega), if_neg (by rw [h2]; decide)]
theorem nxE_ok {n : Nat} {d : Nat → Nat} {er : Int} {ok : Nat → Bool} {k : Nat} (h : k < n) (h2 : ok (d k) = true) : nxE n d er ok k = none := by
  unfold nxE
  rw [if_neg (by omega), if_pos h2]
theorem nxE_none {n : Nat} {d : Nat → Nat} {er : Int} {ok : Nat → Bool} {k : Nat} (h : nxE n d er ok k = none) : k < n ∧ ok (d k) = true := by
  unfold nxE at h
  split at h
  · cases h
  · split at h
    · rename_i h1 h2
      exact ⟨by omega, h2⟩
    · cases h
def anyB (v : Nat) : Bool := true
def leB (m : Int) (v : Nat) : Bool := decide ((v : Int) ≤ m)
def eqB (c : Nat) (v : Nat) : Bool := (v : Int) == (c : Int)
def tyB (v : Nat) : Bool := isTB v
def rtB (v : Nat) : Bool := isRB v
def flB (v : Nat) : Bool := isTB v || isTB ((v : Int) - 16)
def magN (i : Nat) : Nat := if i = 0 then 66 else if i = 1 then 90 else if i = 2 then 82 else 49
/-- Numbers of eight bytes. -/
def numU (d : Nat → Nat) (k : Nat) : Nat → Nat
  | 0 => 0
  | m + 1 => numU d k m + d (k + m) * 2 ^ (8 * m)
/-- Where the classes, the methods begin. -/
def cS (d : Nat → Nat) (k : Nat) : Nat → Nat
  | 0 => k
  | i + 1 => cS d k i + 1 + d (cS d k i)
def mSz (d : Nat → Nat) (k : Nat) : Nat := d (k + 4 + d k + d (k + 2 + d k)) + 256 * d (k + 5 + d k + d (k + 2 + d k))
def mS (d : Nat → Nat) (k : Nat) : Nat → Nat
  | 0 => k
  | i + 1 => mS d k i + 6 + d (mS d k i) + d (mS d k i + 2 + d (mS d k i)) + mSz d (mS d k i)
def c0 (d : Nat → Nat) : Nat := 5 + 8 * d 4
def m0 (d : Nat → Nat) : Nat := cS d (c0 d + 1) (d (c0 d))
/-- The program whose bytes d are. -/
def prs (d : Nat → Nat) : Pg where
  np := d 4
  po i := IntKind.i64.wrap (numU d (5 + 8 * i) 8)
  nc := d (c0 d)
  nf i := d (cS d (c0 d + 1) i)
  ft i j := ((d (cS d (c0 d + 1) i + 1 + j) % 16 : Nat) : Int)
  fv i j := decide (16 ≤ d (cS d (c0 d + 1) i + 1 + j))
  nm := d (m0 d)
  pn i := d (mS d (m0 d + 1) i)
  pt i j := (d (mS d (m0 d + 1) i + 1 + j) : Int)
  rt i := (d (mS d (m0 d + 1) i + 1 + d (mS d (m0 d + 1) i)) : Int)
  ln i := d (mS d (m0 d + 1) i + 2 + d (mS d (m0 d + 1) i))
  lt i j := (d (mS d (m0 d + 1) i + 3 + d (mS d (m0 d + 1) i) + j) : Int)
  sk i := (d (mS d (m0 d + 1) i + 3 + d (mS d (m0 d + 1) i) + d (mS d (m0 d + 1) i + 2 + d (mS d (m0 d + 1) i))) : Int)
  cn i := mSz d (mS d (m0 d + 1) i)
  cd i j := d (mS d (m0 d + 1) i + 6 + d (mS d (m0 d + 1) i) + d (mS d (m0 d + 1) i + 2 + d (mS d (m0 d + 1) i)) + j)
section
variable (n : Nat) (d : Nat → Nat)
def tysE (k m : Nat) : Option (Nat × Int) := firE (fun i => nxE n d 5 tyB (k + i)) m
def numE (k : Nat) : Option (Nat × Int) := firE (fun i => nxE n d 0 anyB (k + i)) 8
def fldsE (k : Nat) : Option (Nat × Int) := (nxE n d 2 (leB 50) k).or (firE (fun j => nxE n d 5 flB (k + 1 + j)) (d k))
def sizE (k sz : Nat) : Option (Nat × Int) := if 4096 < sz then some (k, 2) else if sz = 0 then some (k, 26) else none
def methE (k : Nat) : Option (Nat × Int) :=
  (nxE n d 0 anyB k).or <| (tysE n d (k + 1) (d k)).or <| (nxE n d 5 rtB (k + 1 + d k)).or <| (nxE n d 2 (leB (40 - (d k : Int))) (k + 2 + d k)).or <|
  (tysE n d (k + 3 + d k) (d (k + 2 + d k))).or <| (nxE n d 2 (leB 40) (k + 3 + d k + d (k + 2 + d k))).or <| (nxE n d 0 anyB (k + 4 + d k + d (k + 2 + d k))).or <| (nxE n d 0 anyB (k + 5 + d k + d (k + 2 + d k))).or <|
  (sizE (k + 4 + d k + d (k + 2 + d k)) (mSz d k)).or (firE (fun i => nxE n d 0 anyB (k + 6 + d k + d (k + 2 + d k) + i)) (mSz d k))
def argE : Option (Nat × Int) := if d (m0 d + 1) = 0 ∧ d (m0 d + 2 + d (m0 d + 1)) = 0 then none else some (n, 1)
def noneE (k : Nat) : Option (Nat × Int) := if d k = 0 then some (k, 3) else none
/-- What is wrong first with n bytes. -/
def prsE : Option (Nat × Int) :=
  (firE (fun i => nxE n d 5 (eqB (magN i)) i) 4).or <| (nxE n d 2 (leB 200) 4).or <| (firE (fun i => numE n d (5 + 8 * i)) (d 4)).or <| (nxE n d 2 (leB 50) (c0 d)).or <|
  (firE (fun i => fldsE n d (cS d (c0 d + 1) i)) (d (c0 d))).or <| (nxE n d 2 (leB 100) (m0 d)).or <| (noneE d (m0 d)).or <|
  (firE (fun i => methE n d (mS d (m0 d + 1) i)) (d (m0 d))).or <| (if mS d (m0 d + 1) (d (m0 d)) < n then some (mS d (m0 d + 1) (d (m0 d)), 5) else none).or (argE n d)
end
theorem or_nn {a b : Option (Nat × Int)} (ha : a = none) (hb : b = none) : a.or b = none := by rw [ha, hb]; rfl
theorem argE_eq (n : Nat) (d : Nat → Nat) : argE n d = if decide ((prs d).pn 0 = 0 ∧ (prs d).rt 0 = 0) = true then none else some (n, 1) := by
  unfold argE
  have e : ((prs d).pn 0 = 0 ∧ (prs d).rt 0 = 0) ↔ (d (m0 d + 1) = 0 ∧ d (m0 d + 2 + d (m0 d + 1)) = 0) := by
    have e2 : (prs d).rt 0 = ((d (m0 d + 2 + d (m0 d + 1)) : Nat) : Int) := rfl
    have e1 : (prs d).pn 0 = d (m0 d + 1) := rfl
    rw [e1, e2]
    omega
  by_cases h : d (m0 d + 1) = 0 ∧ d (m0 d + 2 + d (m0 d + 1)) = 0
  · rw [if_pos h, if_pos (decide_eq_true (e.2 h))]
  · rw [if_neg h, if_neg (by simpa using fun h1 h2 => h (e.1 ⟨h1, h2⟩))]
end Go.Proofs.Ytpiafgmncfibmaa
