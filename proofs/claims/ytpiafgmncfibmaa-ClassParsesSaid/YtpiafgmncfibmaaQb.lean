import Derived.Laws.BitsLemmas
import Derived.IntWalk
import Derived.Laws.BitsAllLaws
import Derived.Deep.DrawnRows
import Derived.Deep.RegionLaw
import Derived.Test.YtpiafgmncfibmaaQa
import Derived.Test.YtpiafgmncfibmaaRm
import Derived.Test.YtpiafgmncfibmaaRows
import Derived.WalkKit
import Derived.ProofKit
import Derived.OpenShut
import Derived.Deep.QuietTactic
import Derived.BigQuiet
import Derived.Outline
import Derived.WalkSmall
import Derived.WalkLawsBesides
import Derived.WalkSpells
import Derived.BigGuardPart
import Derived.RegionTactic
import Derived.Deep.RegionHeld3
import Derived.Lib.Hide
import Derived.Deep.MidRow
import Derived.Below
import Derived.Deep.RegionWith
import Derived.Deep.OwnRows
import Derived.Deep.AppendLies
import Derived.Deep.RegionLaw
namespace Go.Proofs.Ytpiafgmncfibmaa
open Go.ChangeShapes Go.WideShapes Go.ChangeAt Go.RowKit
set_option linter.unusedVariables false

/-- A method while the document's reader reads it. -/
structure MB2 (S : Src) (w : World) (x : Option (Nat × Int)) (k : Nat) (X : Array Value) (V : World) : Prop where
  rd : R2 S x k V
  res : BoxT V w.heap.size z5 50
  box : BoxT V (w.heap.size + 1) X 50
  gr : w.grownBy V (some S.R)
theorem MB2.call {S : Src} {w V V' : World} {x x' : Option (Nat × Int)} {k k' : Nat} {X : Array Value} (h : MB2 S w x k X V) (hr : R2 S x' k' V') (hg : V.grownBy V' (some S.R)) : MB2 S w x' k' X V' :=
  ⟨hr, h.res.keep (r2_keep h.rd hg 50 (by decide)), h.box.keep (r2_keep h.rd hg 50 (by decide)), grown_trans h.gr hg (.inl rfl)⟩
theorem MO.call2 {S : Src} {x : Option (Nat × Int)} {k : Nat} {w V V' : World} {v0 v1 v2 : Value} {n0 n1 n2 : Nat} {x0 x1 x2 : List Value} (h : MO w v0 n0 x0 v1 n1 x1 v2 n2 x2 V) (hr : R2 S x k V) (hg : V.grownBy V' (some S.R)) : MO w v0 n0 x0 v1 n1 x1 v2 n2 x2 V' := h.keep (r2_keep hr hg 3 (by decide)) (r2_keep hr hg 5 (by decide))
theorem MB2.set {S : Src} {w V : World} {x : Option (Nat × Int)} {k : Nat} {X X' : Array Value} (h : MB2 S w x k X V) (hl : S.W.heap.size ≤ w.heap.size) (j : Nat) (v : Value) (hX : X.setIfInBounds j v = X') : MB2 S w x k X' (V.setCell ⟨w.heap.size + 1, j, none⟩ v) :=
  ⟨h.rd.set h.box (by decide) (by omega) v, h.res.far (by omega) j v, hX ▸ h.box.set j v, grown_own h.gr (grown_set V ⟨w.heap.size + 1, j, none⟩ v) (fun g hg => by obtain rfl := Option.some.inj hg; show w.heap.size ≤ w.heap.size + 1; omega)⟩
theorem MO.set2 {S : Src} {x : Option (Nat × Int)} {k : Nat} {X : Array Value} {w V : World} {v0 v1 v2 : Value} {n0 n1 n2 : Nat} {x0 x1 x2 : List Value} (h : MO w v0 n0 x0 v1 n1 x1 v2 n2 x2 V) (hb : MB2 S w x k X V) (j : Nat) (v : Value) : MO w v0 n0 x0 v1 n1 x1 v2 n2 x2 (V.setCell ⟨w.heap.size + 1, j, none⟩ v) := h.keep (.set hb.box (by decide)) (.set hb.box (by decide))
theorem MB2.alloc {S : Src} {w V : World} {x : Option (Nat × Int)} {k : Nat} {X : Array Value} (h : MB2 S w x k X V) (o : Obj) : MB2 S w x k X (V.alloc o) := ⟨h.rd.alloc o, h.res.keep (.alloc _ _), h.box.keep (.alloc _ _), grown_trans h.gr (grown_alloc V o (some S.R)) (.inl rfl)⟩
theorem MB2.drew {S : Src} {w V : World} {x : Option (Nat × Int)} {k : Nat} {X : Array Value} (h : MB2 S w x k X V) : MB2 S w x k X V.drew := ⟨h.rd.drew, h.res, h.box, ⟨h.gr.os, h.gr.tape, h.gr.output, h.gr.size, h.gr.block⟩⟩
theorem MB2.new {S : Src} {w : World} {x : Option (Nat × Int)} {k : Nat} (h : R2 S x k w) : MB2 S w x k z5 ((w.alloc (.cells z5 50)).alloc (.cells z5 50)) :=
  ⟨(h.alloc _).alloc _, BoxT.keep (show BoxT (w.alloc _) w.heap.size z5 50 from heap_alloc_new _ _) (.alloc _ _), (by have := heap_alloc_new (w.alloc (.cells z5 50)) (.cells z5 50); rw [show (w.alloc (.cells z5 50)).heap.size = w.heap.size + 1 by simp] at this; exact this), grown_trans (grown_alloc w _ (some S.R)) (grown_alloc _ _ (some S.R)) (.inl rfl)⟩
theorem MB2.sz {S : Src} {w V : World} {x : Option (Nat × Int)} {k : Nat} {X : Array Value} (h : MB2 S w x k X V) : w.heap.size + 2 ≤ V.heap.size := by have := h.box.lt; omega
theorem MB2.y {S : Src} {w V : World} {x : Option (Nat × Int)} {k : Nat} {X : Array Value} (h : MB2 S w x k X V) (j : Nat) (v : Value) (hv : X[j]? = some v) : V.cell? ⟨w.heap.size + 1, j, none⟩ = some v ∧ V.frozen? ⟨w.heap.size + 1, j, none⟩ = false := ⟨(h.box.cell j).trans hv, rowAt_frz h.box.row j⟩
theorem MB2.app {S : Src} {w V V' : World} {x : Option (Nat × Int)} {k n : Nat} {X : Array Value} {v : Value} {xs : List Value} {o : Obj} (h : MB2 S w x k X V) (hl : S.W.heap.size ≤ w.heap.size) (hc : V.ownsRow (w.heap.size + 2) 5 1 v n xs) (hg : (V.alloc o).grownBy V' v.ownBlock) : MB2 S w x k X V' :=
  (have h2 := h.rd.app hl (show w.heap.size ≤ w.heap.size + 2 by omega) hc (by decide) hg h.gr
   have k5 : KeepT 50 V V' := (KeepT.alloc V o).trans (.grown hg (own_typed (own_keep hc (.alloc V o))) (by decide))
   ⟨h2.1, h.res.keep k5, h.box.keep k5, h2.2⟩)
structure MF2 (S : Src) (w : World) (x : Option (Nat × Int)) (k : Nat) (X : Array Value) (V : World) : Prop where
  rd : R2 S x k V
  res : BoxT V w.heap.size X 50
  gr : w.grownBy V (some S.R)
theorem MF2.set {S : Src} {w V : World} {x : Option (Nat × Int)} {k : Nat} {X X' : Array Value} (h : MF2 S w x k X V) (hl : S.W.heap.size ≤ w.heap.size) (j : Nat) (v : Value) (hX : X.setIfInBounds j v = X') : MF2 S w x k X' (V.setCell ⟨w.heap.size, j, none⟩ v) :=
  ⟨h.rd.set h.res (by decide) hl v, hX ▸ h.res.set j v, grown_own h.gr (grown_set V ⟨w.heap.size, j, none⟩ v) (fun g hg => by obtain rfl := Option.some.inj hg; exact Nat.le_refl _)⟩
theorem MO.fset2 {S : Src} {x : Option (Nat × Int)} {k : Nat} {X : Array Value} {w V : World} {v0 v1 v2 : Value} {n0 n1 n2 : Nat} {x0 x1 x2 : List Value} (h : MO w v0 n0 x0 v1 n1 x1 v2 n2 x2 V) (hb : MF2 S w x k X V) (j : Nat) (v : Value) : MO w v0 n0 x0 v1 n1 x1 v2 n2 x2 (V.setCell ⟨w.heap.size, j, none⟩ v) := h.keep (.set hb.res (by decide)) (.set hb.res (by decide))
theorem MF2.y {S : Src} {w V : World} {x : Option (Nat × Int)} {k : Nat} {X : Array Value} (h : MF2 S w x k X V) (j : Nat) (v : Value) (hv : X[j]? = some v) : V.cell? ⟨w.heap.size, j, none⟩ = some v ∧ V.frozen? ⟨w.heap.size, j, none⟩ = false := ⟨(h.res.cell j).trans hv, rowAt_frz h.res.row j⟩
theorem R2.at {S : Src} {x : Option (Nat × Int)} {k k' : Nat} {V : World} (h : R2 S x k V) (e : k = k') : R2 S x k' V := e ▸ h
theorem one_ok {S : Src} {k : Nat} {w : World} {e : Ending} {w' : World} (h : OneR S none k w e w') :
    (Hid (nxE S.n S.d 0 anyB k = none) ∧ S.d k < 256 ∧ e = .returned (.int .i64 (S.d k : Nat)) ∧ R2 S none (k + 1) w' ∧ w.grownBy w' (some S.R)) ∨
    (∃ p er, Hid (nxE S.n S.d 0 anyB k = some (p, er)) ∧ e = .returned (.int .i64 0) ∧ R2 S (some (p, er)) 0 w' ∧ w.grownBy w' (some S.R)) := by
  obtain ⟨v, he, h1, h2, h3, h4, h5⟩ := h
  rw [show (none : Option (Nat × Int)).or (nxE S.n S.d 0 anyB k) = nxE S.n S.d 0 anyB k from rfl] at h2 h3 h4
  cases hx : nxE S.n S.d 0 anyB k with
  | none =>
    rw [hx] at h4
    have := h2 hx
    subst this
    exact .inl ⟨Lib.hid rfl, h1, he, h4, h5⟩
  | some pe =>
    rw [hx] at h4
    have := h3 (by rw [hx]; simp)
    subst this
    exact .inr ⟨pe.1, pe.2, Lib.hid rfl, he, r2_any h4, h5⟩
theorem one_bad {S : Src} {k p : Nat} {er : Int} {w : World} {e : Ending} {w' : World} (h : OneR S (some (p, er)) k w e w') : e = .returned (.int .i64 0) ∧ R2 S (some (p, er)) 0 w' ∧ w.grownBy w' (some S.R) := by
  obtain ⟨v, he, h1, h2, h3, h4, h5⟩ := h
  have := h3 (by show some (p, er) ≠ none; simp)
  subst this
  exact ⟨he, r2_any h4, h5⟩
theorem cnt_ok {S : Src} {m : Int} {k : Nat} {w : World} {e : Ending} {w' : World} (h : CntR S m none k w e w') :
    (Hid (nxE S.n S.d 2 (leB m) k = none) ∧ S.d k < 256 ∧ e = .returned (.int .i64 (S.d k : Nat)) ∧ R2 S none (k + 1) w' ∧ w.grownBy w' (some S.R)) ∨
    (∃ p er v, Hid (nxE S.n S.d 2 (leB m) k = some (p, er)) ∧ v < 256 ∧ e = .returned (.int .i64 (v : Nat)) ∧ R2 S (some (p, er)) 0 w' ∧ w.grownBy w' (some S.R)) := by
  obtain ⟨v, he, h1, h2, _, h4, h5⟩ := h
  rw [show (none : Option (Nat × Int)).or (nxE S.n S.d 2 (leB m) k) = nxE S.n S.d 2 (leB m) k from rfl] at h2 h4
  cases hx : nxE S.n S.d 2 (leB m) k with
  | none =>
    rw [hx] at h4
    have := h2 hx
    subst this
    exact .inl ⟨Lib.hid rfl, h1, he, h4, h5⟩
  | some pe =>
    rw [hx] at h4
    exact .inr ⟨pe.1, pe.2, v, Lib.hid rfl, h1, he, r2_any h4, h5⟩
theorem cnt_bad {S : Src} {m : Int} {k p : Nat} {er : Int} {w : World} {e : Ending} {w' : World} (h : CntR S m (some (p, er)) k w e w') : ∃ v : Nat, v < 256 ∧ e = .returned (.int .i64 v) ∧ R2 S (some (p, er)) 0 w' ∧ w.grownBy w' (some S.R) := by
  obtain ⟨v, he, h1, h2, _, h4, h5⟩ := h
  exact ⟨v, h1, he, r2_any h4, h5⟩
theorem cnt_bad0 {S : Src} {m : Int} {k p : Nat} {er : Int} {w : World} {e : Ending} {w' : World} (h : CntR S m (some (p, er)) k w e w') : e = .returned (.int .i64 (0 : Nat)) ∧ R2 S (some (p, er)) 0 w' ∧ w.grownBy w' (some S.R) := by
  obtain ⟨v, he, h1, h2, h3, h4, h5⟩ := h
  have := h3 (by show some (p, er) ≠ none; simp)
  subst this
  exact ⟨he, r2_any h4, h5⟩
theorem cnt_ok0 {S : Src} {m : Int} {k : Nat} {w : World} {e : Ending} {w' : World} (h : CntR S m none k w e w') :
    (Hid (nxE S.n S.d 2 (leB m) k = none) ∧ S.d k < 256 ∧ e = .returned (.int .i64 (S.d k : Nat)) ∧ R2 S none (k + 1) w' ∧ w.grownBy w' (some S.R)) ∨
    (∃ p er, Hid (nxE S.n S.d 2 (leB m) k = some (p, er)) ∧ e = .returned (.int .i64 (0 : Nat)) ∧ R2 S (some (p, er)) 0 w' ∧ w.grownBy w' (some S.R)) := by
  obtain ⟨v, he, h1, h2, h3, h4, h5⟩ := h
  rw [show (none : Option (Nat × Int)).or (nxE S.n S.d 2 (leB m) k) = nxE S.n S.d 2 (leB m) k from rfl] at h2 h3 h4
  cases hx : nxE S.n S.d 2 (leB m) k with
  | none =>
    rw [hx] at h4
    have := h2 hx
    subst this
    exact .inl ⟨Lib.hid rfl, h1, he, h4, h5⟩
  | some pe =>
    rw [hx] at h4
    have := h3 (by rw [hx]; simp)
    subst this
    exact .inr ⟨pe.1, pe.2, Lib.hid rfl, he, r2_any h4, h5⟩
theorem tys_ok {S : Src} {k m : Nat} {w : World} {e : Ending} {w' : World} (h : TysR S none k m w e w') :
    (Hid (tysE S.n S.d k m = none) ∧ ∃ a c, e = .returned (.slice a m c) ∧ w'.ownsRow w.heap.size 3 1 (.slice a m c) m (els1 m fun i => .int .i64 (S.d (k + i) : Nat)) ∧ R2 S none (k + m) w' ∧ w.grownBy w' (some S.R)) ∨
    (∃ p er a m' c, Hid (tysE S.n S.d k m = some (p, er)) ∧ e = .returned (.slice a m' c) ∧ R2 S (some (p, er)) 0 w' ∧ w.grownBy w' (some S.R)) := by
  obtain ⟨a, m', c, he, h2, h4, h5⟩ := h
  rw [show (none : Option (Nat × Int)).or (tysE S.n S.d k m) = tysE S.n S.d k m from rfl] at h2 h4
  cases hx : tysE S.n S.d k m with
  | none =>
    rw [hx] at h4
    obtain ⟨rfl, ho⟩ := h2 hx
    exact .inl ⟨Lib.hid rfl, a, c, he, ho, h4, h5⟩
  | some pe =>
    rw [hx] at h4
    exact .inr ⟨pe.1, pe.2, a, m', c, Lib.hid rfl, he, r2_any h4, h5⟩
theorem tys_bad {S : Src} {k m p : Nat} {er : Int} {w : World} {e : Ending} {w' : World} (h : TysR S (some (p, er)) k m w e w') : ∃ a m' c, e = .returned (.slice a m' c) ∧ R2 S (some (p, er)) 0 w' ∧ w.grownBy w' (some S.R) := by
  obtain ⟨a, m', c, he, h2, h4, h5⟩ := h
  exact ⟨a, m', c, he, r2_any h4, h5⟩
/-- What the document's read of a method tells. -/
def MthR (S : Src) (k : Nat) (w : World) (e : Ending) (w' : World) : Prop :=
  (methE S.n S.d k = none ∧ ∃ v, e = .returned v ∧ MethV S k w v w' ∧ R2 S none (k + 6 + S.d k + S.d (k + 2 + S.d k) + mSz S.d k) w' ∧ w.grownBy w' (some S.R)) ∨
  (∃ p er, methE S.n S.d k = some (p, er) ∧ ∃ a0 n0 c0 r a1 n1 c1 s a2 n2 c2, e = .returned (.agg #[.slice a0 n0 c0, .int .i64 r, .slice a1 n1 c1, .int .i64 s, .slice a2 n2 c2]) ∧ R2 S (some (p, er)) 0 w' ∧ w.grownBy w' (some S.R))
end Go.Proofs.Ytpiafgmncfibmaa
