import Derived.Test.YtgdlcnngplfjnaaDoorRows
import Derived.WalkKit
import Derived.ProofKit
import Derived.OpenShut
import Derived.Lib.Hide
import Derived.Below
namespace Go.Proofs.YtgdlcnngplfjnaaDoor
open Go.ChangeShapes Go.WideShapes Go.ChangeAt Go.RowKit
set_option linter.unusedVariables false
/-- n elements of one cell each. -/
def Row1 (w : World) (a : Option Addr) (n : Nat) (F : Nat → Value) : Prop := n = 0 ∨ ∃ b o, a = some ⟨b, o, none⟩ ∧ b < w.heap.size ∧ ∀ i, i < n → w.cell? ⟨b, o + i, none⟩ = some (F i)
def Row2 (w : World) (a : Option Addr) (n : Nat) (F G : Nat → Value) : Prop := n = 0 ∨ ∃ b o, a = some ⟨b, o, none⟩ ∧ b < w.heap.size ∧ ∀ i, i < n → w.cell? ⟨b, o + i * 2, none⟩ = some (F i) ∧ w.cell? ⟨b, o + i * 2 + 1, none⟩ = some (G i)
def Row5 (w : World) (a : Option Addr) (n : Nat) (F G H I J : Nat → Value) : Prop := n = 0 ∨ ∃ b o, a = some ⟨b, o, none⟩ ∧ b < w.heap.size ∧ ∀ i, i < n → w.cell? ⟨b, o + i * 5, none⟩ = some (F i) ∧ w.cell? ⟨b, o + i * 5 + 1, none⟩ = some (G i) ∧ w.cell? ⟨b, o + i * 5 + 2, none⟩ = some (H i) ∧ w.cell? ⟨b, o + i * 5 + 3, none⟩ = some (I i) ∧ w.cell? ⟨b, o + i * 5 + 4, none⟩ = some (J i)
/-- Each block that was in w stands in w' as it did. -/
def Kept (w w' : World) : Prop := w.heap.size ≤ w'.heap.size ∧ ∀ b, b < w.heap.size → ∀ o, w'.cell? ⟨b, o, none⟩ = w.cell? ⟨b, o, none⟩
theorem Kept.of {w w' : World} (h : Below w.heap.size w w') : Kept w w' := ⟨h.size, fun b hb o => h.cell (p := ⟨b, o, none⟩) hb⟩
theorem Kept.refl (w : World) : Kept w w := ⟨Nat.le_refl _, fun _ _ _ => rfl⟩
theorem Row1.kept {w w' : World} {a : Option Addr} {n : Nat} {F : Nat → Value} (h : Row1 w a n F) (k : Kept w w') : Row1 w' a n F := by
  rcases h with h | ⟨b, o, ha, hb, hc⟩
  · exact .inl h
  · exact .inr ⟨b, o, ha, Nat.lt_of_lt_of_le hb k.1, fun i hi => (k.2 b hb _).trans (hc i hi)⟩
theorem Row2.kept {w w' : World} {a : Option Addr} {n : Nat} {F G : Nat → Value} (h : Row2 w a n F G) (k : Kept w w') : Row2 w' a n F G := by
  rcases h with h | ⟨b, o, ha, hb, hc⟩
  · exact .inl h
  · exact .inr ⟨b, o, ha, Nat.lt_of_lt_of_le hb k.1, fun i hi => ⟨(k.2 b hb _).trans (hc i hi).1, (k.2 b hb _).trans (hc i hi).2⟩⟩
theorem Row5.kept {w w' : World} {a : Option Addr} {n : Nat} {F G H I J : Nat → Value} (h : Row5 w a n F G H I J) (k : Kept w w') : Row5 w' a n F G H I J := by
  rcases h with h | ⟨b, o, ha, hb, hc⟩
  · exact .inl h
  · exact .inr ⟨b, o, ha, Nat.lt_of_lt_of_le hb k.1, fun i hi => ⟨(k.2 b hb _).trans (hc i hi).1, (k.2 b hb _).trans (hc i hi).2.1, (k.2 b hb _).trans (hc i hi).2.2.1, (k.2 b hb _).trans (hc i hi).2.2.2.1, (k.2 b hb _).trans (hc i hi).2.2.2.2⟩⟩
/-- A program, and where it lies. -/
structure Pg where
  np : Nat
  po : Nat → Int
  nc : Nat
  nf : Nat → Nat
  ft : Nat → Nat → Int
  fv : Nat → Nat → Bool
  nm : Nat
  pn : Nat → Nat
  pt : Nat → Nat → Int
  rt : Nat → Int
  ln : Nat → Nat
  lt : Nat → Nat → Int
  sk : Nat → Int
  cn : Nat → Nat
  cd : Nat → Nat → Nat
structure Ad where
  pa : Option Addr
  pc : Nat
  ca : Option Addr
  cc : Nat
  ma : Option Addr
  mc : Nat
  fa : Nat → Option Addr
  fc : Nat → Nat
  ppa : Nat → Option Addr
  ppc : Nat → Nat
  lla : Nat → Option Addr
  llc : Nat → Nat
  cda : Nat → Option Addr
  cdc : Nat → Nat
def Pg.cells (P : Pg) (A : Ad) : Array Value := #[.slice A.pa P.np A.pc, .slice A.ca P.nc A.cc, .slice A.ma P.nm A.mc]
def RowP (w : World) (P : Pg) (A : Ad) : Prop := Row1 w A.pa P.np (fun i => .int .i64 (P.po i))
def RowK (w : World) (P : Pg) (A : Ad) : Prop := Row1 w A.ca P.nc (fun i => .slice (A.fa i) (P.nf i) (A.fc i))
def RowF (w : World) (P : Pg) (A : Ad) (i : Nat) : Prop := Row2 w (A.fa i) (P.nf i) (fun j => .int .i64 (P.ft i j)) (fun j => .bool (P.fv i j))
def RowM (w : World) (P : Pg) (A : Ad) : Prop := Row5 w A.ma P.nm (fun i => .slice (A.ppa i) (P.pn i) (A.ppc i)) (fun i => .int .i64 (P.rt i)) (fun i => .slice (A.lla i) (P.ln i) (A.llc i)) (fun i => .int .i64 (P.sk i)) (fun i => .slice (A.cda i) (P.cn i) (A.cdc i))
def RowA (w : World) (P : Pg) (A : Ad) (i : Nat) : Prop := Row1 w (A.ppa i) (P.pn i) (fun j => .int .i64 (P.pt i j))
def RowL (w : World) (P : Pg) (A : Ad) (i : Nat) : Prop := Row1 w (A.lla i) (P.ln i) (fun j => .int .i64 (P.lt i j))
def RowD (w : World) (P : Pg) (A : Ad) (i : Nat) : Prop := Row1 w (A.cda i) (P.cn i) (fun j => .int .u8 (P.cd i j : Nat))
structure PgAt (w : World) (P : Pg) (A : Ad) : Prop where
  p : RowP w P A
  k : RowK w P A
  f : ∀ i, i < P.nc → RowF w P A i
  m : RowM w P A
  a : ∀ i, i < P.nm → RowA w P A i
  l : ∀ i, i < P.nm → RowL w P A i
  d : ∀ i, i < P.nm → RowD w P A i
theorem PgAt.kept {w w' : World} {P : Pg} {A : Ad} (h : PgAt w P A) (q : Kept w w') : PgAt w' P A :=
  ⟨Row1.kept h.p q, Row1.kept h.k q, fun i hi => Row2.kept (h.f i hi) q, Row5.kept h.m q, fun i hi => Row1.kept (h.a i hi) q, fun i hi => Row1.kept (h.l i hi) q, fun i hi => Row1.kept (h.d i hi) q⟩
/-- The most places of a slice. -/
def Big : Nat := 140737488355328
/-- Each number that is one of a right kind; each length at most what may be. -/
structure Fits (P : Pg) (A : Ad) : Prop where
  np : P.np ≤ Big
  nc : P.nc ≤ Big
  nm : P.nm ≤ Big
  po : ∀ i, i < P.np → -9223372036854775808 ≤ P.po i ∧ P.po i ≤ 9223372036854775807
  nf : ∀ i, i < P.nc → P.nf i ≤ Big
  pn : ∀ i, i < P.nm → P.pn i ≤ Big
  ln : ∀ i, i < P.nm → P.ln i ≤ Big
  cn : ∀ i, i < P.nm → P.cn i ≤ Big
  cd : ∀ i j, i < P.nm → j < P.cn i → P.cd i j < 256
end Go.Proofs.YtgdlcnngplfjnaaDoor
