import Derived.Test.YtpiafgmncfibmaaCm
import Derived.Test.YtpiafgmncfibmaaVb
namespace Go.Proofs.Ytpiafgmncfibmaa.Vf
open Go.ChangeShapes Go.WideShapes Go.ChangeAt Go.RowKit
set_option linter.unusedVariables false
/-! What the verifier does, in plain words. -/
/-- What stands at a place. -/
def opA (D : Nat → Nat) (k : Nat) : Int := if kindO (D k) = 0 then 0 else if kindO (D k) = 2 then IntKind.i8.wrap (D (k + 1) : Nat) else if kindO (D k) = 3 then IntKind.i16.wrap (D (k + 1) + 256 * D (k + 2) : Nat) else (D (k + 1) : Nat)
def opB (D : Nat → Nat) (k : Nat) : Int := if kindO (D k) = 4 then (D (k + 2) : Nat) else 0
def szK (k : Nat) : Nat := if k = 3 then 3 else if k = 4 then 3 else if k = 0 then 1 else 2
theorem szK_int (k : Nat) : sizeK k = (szK k : Int) := by
  unfold sizeK szK
  by_cases h3 : k = 3
  · subst h3; rfl
  by_cases h4 : k = 4
  · subst h4; rfl
  by_cases h0 : k = 0
  · subst h0; rfl
  simp only [h3, h4, h0, if_false]; rfl
theorem szK_bd (k : Nat) : 1 ≤ szK k ∧ szK k ≤ 3 := by
  unfold szK
  split
  · omega
  · split
    · omega
    · split <;> omega
/-- Why what stands at a place within is none: 5, 6; 0: it is one. -/
def rdE (n : Nat) (D : Nat → Nat) (k : Nat) : Int := if 41 ≤ D k then 5 else if n < k + szK (kindO (D k)) then 6 else 0
/-- The error of Read. -/
def opE (n : Nat) (D : Nat → Nat) (p : Int) : Int := if p < 0 ∨ (n : Int) < p then 1 else if p = n then 6 else rdE n D p.toNat
def opC (n : Nat) (D : Nat → Nat) (p : Int) : Array Value := if opE n D p = 0 then #[.int .i64 (D p.toNat : Nat), .int .i64 (opA D p.toNat), .int .i64 (opB D p.toNat), .int .i64 (szK (kindO (D p.toNat)) : Nat)] else #[.int .i64 0, .int .i64 0, .int .i64 0, .int .i64 0]
def isIn (n : Int) (c : Nat) : Bool := decide (0 ≤ n ∧ n < c)
def thr (P : Pg) (i : Nat) : Bool := decide (P.pn i = 1 ∧ P.pt i 0 = 2 ∧ P.rt i = 0)
/-- Do operands name something? -/
def nmB (P : Pg) (m c : Nat) (a b : Int) : Bool :=
  if c = 1 then isIn a P.np else if c = 4 ∨ c = 5 then isIn a (P.pn m + P.ln m) else if c = 27 then isIn a P.nm else if c = 29 then isIn a P.nc
  else if c = 30 ∨ c = 31 then isIn a P.nc && isIn b (P.nf a.toNat) else if c = 32 ∨ c = 33 ∨ c = 34 then decide (a = 1 ∨ a = 2) else if c = 38 then isIn a P.nm && thr P a.toNat else true
/-- A local's type. -/
def loc (P : Pg) (m : Nat) (a : Nat) : Int := if a < P.pn m then P.pt m a else P.lt m (a - P.pn m)
def parL (P : Pg) (m : Nat) : List Int := (List.range (P.pn m)).map (P.pt m)
def valL (r : Int) : List Int := if r = 0 then [] else [r]
def isSum (c : Nat) : Bool := decide (9 ≤ c ∧ c ≤ 19 ∨ c = 21 ∨ c = 22)
/-- What is taken, the topmost last; -1: any. -/
def takes (P : Pg) (m c : Nat) (a b : Int) : List Int :=
  if c = 5 then [loc P m a.toNat] else if c = 6 ∨ c = 7 then [-1] else if c = 8 then [-1, -1] else if c = 20 ∨ c = 26 ∨ c = 32 ∨ c = 39 ∨ c = 40 then [1]
  else if c = 23 then [2, 2] else if c = 24 ∨ c = 30 ∨ c = 35 ∨ c = 36 ∨ c = 37 ∨ c = 38 then [2] else if c = 27 then parL P a.toNat else if c = 28 then valL (P.rt m)
  else if c = 31 then [2, P.ft a.toNat b.toNat] else if c = 33 then [2, 1] else if c = 34 then [2, 1, a] else if isSum c then [1, 1] else []
/-- What is put, where t was taken. -/
def puts (P : Pg) (m c : Nat) (a b : Int) (t : List Int) : List Int :=
  if c = 4 then [loc P m a.toNat] else if c = 6 then [t.getD 0 0, t.getD 0 0] else if c = 8 then [t.getD 1 0, t.getD 0 0] else if c = 1 ∨ c = 2 ∨ c = 20 ∨ c = 23 ∨ c = 24 ∨ c = 35 ∨ c = 38 then [1]
  else if c = 3 ∨ c = 29 ∨ c = 32 then [2] else if c = 27 then valL (P.rt a.toNat) else if c = 30 then [P.ft a.toNat b.toNat] else if c = 33 then [a] else if isSum c then [1] else []
/-- A shape. -/
structure Sh where
  l : List Int
  h : Int
def fitT : List Int → List Int → Bool
  | t :: ts, s :: ss => (t == -1 || t == s) && fitT ts ss
  | [], [] => true
  | _, _ => false
def effE (P : Pg) (m c : Nat) (a b : Int) (s : Sh) : Int :=
  if s.l.length < (takes P m c a b).length then 22 else if fitT (takes P m c a b) (s.l.drop (s.l.length - (takes P m c a b).length)) = false then 21
  else if c = 36 ∧ 10 ≤ s.h ∨ c = 37 ∧ s.h = 0 then 25 else 0
def heldN (c : Nat) (h : Int) : Int := if c = 36 then h + 1 else if c = 37 then h - 1 else h
def effS (P : Pg) (m c : Nat) (a b : Int) (s : Sh) : Sh :=
  ⟨s.l.take (s.l.length - (takes P m c a b).length) ++ puts P m c a b (s.l.drop (s.l.length - (takes P m c a b).length)), heldN c s.h⟩
/-- Shapes by place. -/
structure Fl where
  S : Nat → Sh
  H : Nat → Bool
  G : Nat → Bool
def set1 {α : Type} (f : Nat → α) (k : Nat) (v : α) : Nat → α := fun i => if i = k then v else f i
def Fl.z : Fl := ⟨fun _ => ⟨[], 0⟩, fun i => decide (i = 0), fun _ => false⟩
def reachE (F : Fl) (k : Nat) (s : Sh) : Int := if F.H k = false then 0 else if (F.S k).l.length ≠ s.l.length then 22 else if (F.S k).l ≠ s.l then 21 else if (F.S k).h ≠ s.h then 25 else 0
def reachF (F : Fl) (k : Nat) (s : Sh) : Fl := if F.H k = false then ⟨set1 F.S k s, set1 F.H k true, F.G⟩ else F
def jumpB (c : Nat) : Bool := decide (c = 25 ∨ c = 26)
def onB (c : Nat) : Bool := decide (c ≠ 25 ∧ c ≠ 28)
section
variable (P : Pg) (m n : Nat) (D : Nat → Nat) (stk : Int)
def jmp (k : Nat) : Nat := (k + opA D k).toNat
def nxt (k : Nat) : Nat := k + szK (kindO (D k))
/-- The shape behind a place. -/
def beh (F : Fl) (k : Nat) : Sh := effS P m (D k) (opA D k) (opB D k) (F.S k)
/-- The error ahead of the ways on. -/
def preE (F : Fl) (k : Nat) : Int :=
  if effE P m (D k) (opA D k) (opB D k) (F.S k) ≠ 0 then effE P m (D k) (opA D k) (opB D k) (F.S k)
  else if stk < (beh P m D F k).l.length ∨ D k = 28 ∧ 0 < (beh P m D F k).l.length then 22 else if D k = 28 ∧ (beh P m D F k).h ≠ 0 then 25 else 0
def onE (F : Fl) (k : Nat) : Int := if onB (D k) then (if nxt D k = n then 26 else reachE F (nxt D k) (beh P m D F k)) else 0
def onF (F : Fl) (k : Nat) : Fl := if onB (D k) then (if nxt D k = n then F else reachF F (nxt D k) (beh P m D F k)) else F
def jmE (F : Fl) (k : Nat) (s : Sh) : Int := if jumpB (D k) then reachE F (jmp D k) s else 0
def jmF (F : Fl) (k : Nat) (s : Sh) : Fl := if jumpB (D k) then reachF F (jmp D k) s else F
/-- A place is gone through. -/
def stE (F : Fl) (k : Nat) : Int :=
  if preE P m D stk F k ≠ 0 then preE P m D stk F k else if onE P m n D F k ≠ 0 then onE P m n D F k else jmE D (onF P m n D F k) k (beh P m D F k)
def stF (F : Fl) (k : Nat) : Fl :=
  if preE P m D stk F k ≠ 0 then F else if onE P m n D F k ≠ 0 then onF P m n D F k else jmF D (onF P m n D F k) k (beh P m D F k)
def Fl.gone (F : Fl) (k : Nat) : Fl := ⟨F.S, F.H, set1 F.G k true⟩
def Fl.pick (F : Fl) (n : Nat) : Option Nat := (List.range n).find? fun i => F.H i && !F.G i
/-- All is gone through: shapes, and the place and the error of the first that is wrong. -/
def runF : Nat → Fl → Fl × Nat × Int
  | 0, F => (F, 0, 0)
  | k + 1, F => match F.pick n with
    | none => (F, 0, 0)
    | some i => if stE P m n D stk (F.gone i) i ≠ 0 then (stF P m n D stk (F.gone i) i, i, stE P m n D stk (F.gone i) i) else runF k (stF P m n D stk (F.gone i) i)
end
/-- Places: what the n-th is, how far they go. -/
def begs (n : Nat) (D : Nat → Nat) : Nat → Nat → List Nat
  | 0, _ => []
  | f + 1, k => if k < n then (if rdE n D k = 0 then k :: begs n D f (k + szK (kindO (D k))) else []) else []
/-- Where reading ends. -/
def endP (n : Nat) (D : Nat → Nat) : Nat → Nat → Nat
  | 0, k => k
  | f + 1, k => if k < n then (if rdE n D k = 0 then endP n D f (k + szK (kindO (D k))) else k) else k
end Go.Proofs.Ytpiafgmncfibmaa.Vf
