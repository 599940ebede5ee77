import Derived.Test.YtnbpgoacooddjaaSmA
namespace Go.Proofs.Ytnbpgoacooddjaa
open Go.ChangeShapes Go.WideShapes Go.ChangeAt Go.RowKit
set_option linter.unusedVariables false
/-- An instruction of a window. -/
structure WI where
  pc : Int
  op : Int
  d : Int
  n : Int
  m : Int
  a : Int
  c : Int
  i : Int
  nx : Int
  dn : Bool
  r : Rg
def WI.ins (I : WI) : Array Value := #[.int .i64 I.op, .int .i64 I.d, .int .i64 I.n, .int .i64 I.m, .int .i64 I.a, .int .i64 I.c, .int .i64 I.i]
def WI.arr (I : WI) : Array Value := #[.int .u64 I.pc, .int .i64 I.op, .int .i64 I.d, .int .i64 I.n, .int .i64 I.m, .int .i64 I.a, .int .i64 I.c, .int .i64 I.i, .int .u64 I.nx, .bool I.dn] ++ I.r.arr
theorem WI.size (I : WI) : I.arr.size = 46 := by simp [WI.arr, I.r.size]
theorem WI.lo (I : WI) (k : Nat) (hk : k < 10) : I.arr[k]? = #[Value.int .u64 I.pc, .int .i64 I.op, .int .i64 I.d, .int .i64 I.n, .int .i64 I.m, .int .i64 I.a, .int .i64 I.c, .int .i64 I.i, .int .u64 I.nx, .bool I.dn][k]? := by
  unfold WI.arr
  rw [Array.getElem?_append_left (by simpa using hk)]
theorem WI.hi (I : WI) (k : Nat) : I.arr[10 + k]? = I.r.arr[k]? := by
  unfold WI.arr
  rw [Array.getElem?_append_right (by simp)]
  simp
/-- The flags as a number. -/
def Rg.fl (r : Rg) : Int := (if r.z then 1 else 0) + (if r.n then 2 else 0) + (if r.c then 4 else 0) + (if r.v then 8 else 0)
def bitB (v : Int) (k : Int) : Bool := !(bits .and .u64 v k == 0)
def getF (r : Rg) (reg : Int) : Int := if reg = 33 then r.fl else r.get reg
def flR (r : Rg) (v : Int) : Rg := { r with z := bitB v 1, n := bitB v 2, c := bitB v 4, v := bitB v 8 }
def setF (r : Rg) (reg v : Int) : Rg := if reg = 33 then flR r v else r.set reg v
/-- What is known of an instruction: whether it may be, what it reads and writes, where it touches. -/
structure InsF where
  ck : Int
  inL : List Int
  outL : List Int
  ad : Int → Rg → Int
section
variable (f : WI → InsF) (F : Nat → WI) (base : Rg)
def valS (reg : Int) : Nat → Option Int
  | 0 => some (getF base reg)
  | j + 1 => if reg ∈ (f (F j)).outL then (if (F j).dn then some (getF (F j).r reg) else none) else valS reg j
def valW (i : Nat) (reg : Int) : Option Int := if reg < 0 ∨ 33 < reg ∨ reg = 31 then some 0 else valS f F base reg i
def inpS (i : Nat) : List Int → Rg → Option Rg
  | [], r => some r
  | reg :: L, r => match valW f F base i reg with
    | some v => inpS i L (setF r reg v)
    | none => none
def memB (o : Int) : Bool := decide (28 ≤ o) && decide (o ≤ 36)
def loadB (o : Int) : Bool := o == 28 || o == 30 || o == 31 || o == 33 || o == 35
def storeB (o : Int) : Bool := o == 29 || o == 32 || o == 34 || o == 36
def plainB (o : Int) : Bool := o == 28 || o == 30 || o == 31
def tchs (o : Int) : Bool := memB o || o == 40 || o == 41
def adN (I : WI) : Int := if I.n = 31 ∧ memB I.op = true then 32 else I.n
def adM (I : WI) : Int := if I.op = 31 ∨ I.op = 32 then I.m else 31
def adS (i : Nat) : Option Int :=
  if tchs (F i).op = true ∧ (f (F i)).ck = 0 then
    match inpS f F base i [adN (F i), adM (F i)] base with
    | some r => some ((f (F i)).ad (F i).pc r)
    | none => none
  else none
def handB (j : Nat) : Bool := !(F j).dn && ((F j).op == 29 || (F j).op == 32) && (valW f F base j (F j).d).isSome
def fwdL (a : Int) : Nat → Option Nat
  | 0 => none
  | j + 1 => match adS f F base j with
    | none => fwdL a j
    | some b => if b / 8 = a / 8 then
        (if loadB (F j).op = true ∧ (F j).dn = false then none
         else if storeB (F j).op = true then (if handB f F base j = true then some j else none)
         else fwdL a j)
      else fwdL a j
def fwdS (i : Nat) : Option Nat :=
  match adS f F base i with
  | none => none
  | some a => if plainB (F i).op = true ∧ ((F i).op = 30 ∨ a % 8 = 0) then fwdL f F base a i else none
/-- A store that hands on stands ahead, touches the granule, is plain, not done, with known data; no other store of it between. -/
theorem fwdL_spec (a : Int) : ∀ i j, fwdL f F base a i = some j → j < i ∧ (∃ b, adS f F base j = some b ∧ b / 8 = a / 8) ∧ (F j).dn = false ∧ ((F j).op = 29 ∨ (F j).op = 32) ∧ (valW f F base j (F j).d).isSome = true ∧
    ∀ k, j < k → k < i → ∀ c, adS f F base k = some c → c / 8 = a / 8 → storeB (F k).op = false := by
  intro i
  induction i with
  | zero => intro j h; cases h
  | succ i ih =>
    intro j h
    unfold fwdL at h
    cases hb : adS f F base i with
    | none =>
      rw [hb] at h
      obtain ⟨h1, h2, h3, h4, h5, h6⟩ := ih j h
      refine ⟨by omega, h2, h3, h4, h5, fun k k1 k2 c hc hca => ?_⟩
      rcases Nat.lt_or_ge k i with hk | hk
      · exact h6 k k1 hk c hc hca
      · obtain rfl : k = i := by omega
        rw [hb] at hc; cases hc
    | some b =>
      rw [hb] at h
      simp only at h
      split at h
      · rename_i hg
        split at h
        · cases h
        · split at h
          · split at h
            · rename_i hh
              injection h with h
              subst h
              simp only [handB, Bool.and_eq_true, Bool.or_eq_true, beq_iff_eq, Bool.not_eq_true'] at hh
              exact ⟨by omega, ⟨b, hb, hg⟩, hh.1.1, hh.1.2, hh.2, fun k k1 k2 => by omega⟩
            · cases h
          · rename_i hs
            obtain ⟨h1, h2, h3, h4, h5, h6⟩ := ih j h
            refine ⟨by omega, h2, h3, h4, h5, fun k k1 k2 c hc hca => ?_⟩
            rcases Nat.lt_or_ge k i with hk | hk
            · exact h6 k k1 hk c hc hca
            · obtain rfl : k = i := by omega
              simpa using hs
      · rename_i hg
        obtain ⟨h1, h2, h3, h4, h5, h6⟩ := ih j h
        refine ⟨by omega, h2, h3, h4, h5, fun k k1 k2 c hc hca => ?_⟩
        rcases Nat.lt_or_ge k i with hk | hk
        · exact h6 k k1 hk c hc hca
        · obtain rfl : k = i := by omega
          rw [hb] at hc
          injection hc with hc
          subst hc
          exact absurd hca hg
theorem fwdS_spec (i j : Nat) (h : fwdS f F base i = some j) : j < i ∧ ∃ a b, adS f F base i = some a ∧ adS f F base j = some b ∧ b / 8 = a / 8 ∧ (F j).dn = false ∧ ((F j).op = 29 ∨ (F j).op = 32) ∧ (valW f F base j (F j).d).isSome = true ∧
    ∀ k, j < k → k < i → ∀ c, adS f F base k = some c → c / 8 = a / 8 → storeB (F k).op = false := by
  unfold fwdS at h
  cases ha : adS f F base i with
  | none => rw [ha] at h; cases h
  | some a =>
    rw [ha] at h
    simp only at h
    split at h
    · obtain ⟨h1, ⟨b, hb, hg⟩, h3, h4, h5, h6⟩ := fwdL_spec f F base a i j h
      exact ⟨h1, a, b, rfl, hb, hg, h3, h4, h5, h6⟩
    · cases h
/-- Where all ahead are done all is known. -/
theorem valS_done (reg : Int) : ∀ i, (∀ j, j < i → (F j).dn = true) → (valS f F base reg i).isSome = true := by
  intro i
  induction i with
  | zero => intro _; rfl
  | succ i ih =>
    intro h
    unfold valS
    split
    · rw [if_pos (h i (by omega))]; rfl
    · exact ih (fun j hj => h j (by omega))
theorem valW_done (reg : Int) (i : Nat) (h : ∀ j, j < i → (F j).dn = true) : (valW f F base i reg).isSome = true := by
  unfold valW
  split
  · rfl
  · exact valS_done f F base reg i h
theorem inpS_done (i : Nat) (h : ∀ j, j < i → (F j).dn = true) : ∀ (L : List Int) (r : Rg), (inpS f F base i L r).isSome = true := by
  intro L
  induction L with
  | nil => intro r; rfl
  | cons x L ih =>
    intro r
    unfold inpS
    have := valW_done f F base x i h
    cases hv : valW f F base i x with
    | none => rw [hv] at this; cases this
    | some v => exact ih _
end
end Go.Proofs.Ytnbpgoacooddjaa
