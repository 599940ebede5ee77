import Derived.Laws.BitsLemmas
import Derived.Laws.BitsAllLaws
import Derived.Deep.DrawnRows
import Derived.Test.YtpiafgmncfibmaaRt
import Derived.Test.YtpiafgmncfibmaaRows
import Derived.WalkKit
import Derived.ProofKit
import Derived.OpenShut
import Derived.Deep.QuietTactic
import Derived.BigQuiet
import Derived.Outline
import Derived.WalkSmall
import Derived.WalkLawsBesides
import Derived.WalkSpells
import Derived.BigGuardPart
import Derived.RegionTactic
import Derived.Deep.RegionHeld3
import Derived.Lib.Hide
import Derived.Deep.MidRow
import Derived.Below
import Derived.Deep.RegionWith
import Derived.Deep.OwnRows
import Derived.Deep.AppendLies
import Derived.Deep.RegionLaw
namespace Go.Proofs.Ytpiafgmncfibmaa
open Go.ChangeShapes Go.WideShapes Go.ChangeAt Go.RowKit
set_option linter.unusedVariables false

theorem or_two {a b : Nat} (ha : a < 256) (hb : b < 256) : bits .or .i64 (a : Int) ((b : Int) * 256) = ((a + 256 * b : Nat) : Int) := by
  have h := or_step (A := a) (x := b) (m := 1) (by omega) hb (by decide)
  have e1 : IntKind.i64.wrap (a : Int) = a := by rw [IntKind.wrap_i64]; omega
  have e2 : IntKind.i64.wrap ((b * 2 ^ (8 * 1) : Nat) : Int) = (b : Int) * 256 := by rw [IntKind.wrap_i64]; omega
  rw [e1, e2] at h
  rw [h, IntKind.wrap_i64]
  omega
/-- A method while it is read: its box, the result's box, the reader. -/
structure MB (S : Src) (w : World) (k : Nat) (X : Array Value) (V : World) : Prop where
  rd : Rd S k V
  res : BoxT V w.heap.size z5 50
  box : BoxT V (w.heap.size + 1) X 50
  gr : w.grownBy V (some S.R)
structure MO (w : World) (v0 : Value) (n0 : Nat) (x0 : List Value) (v1 : Value) (n1 : Nat) (x1 : List Value) (v2 : Value) (n2 : Nat) (x2 : List Value) (V : World) : Prop where
  a : V.ownsRow (w.heap.size + 2) 3 1 v0 n0 x0
  b : V.ownsRow (w.heap.size + 2) 3 1 v1 n1 x1
  c : V.ownsRow (w.heap.size + 2) 5 1 v2 n2 x2
theorem rd_keep {S : Src} {k : Nat} {V V' : World} (h : Rd S k V) (hg : V.grownBy V' (some S.R)) : ∀ e, 95 ≠ e → KeepT e V V' := fun e he => .grown hg (fun g hg => by obtain rfl := Option.some.inj hg; exact ⟨_, _, h.r⟩) he
theorem MB.call {S : Src} {w V V' : World} {k k' : Nat} {X : Array Value} (h : MB S w k X V) (hr : Rd S k' V') (hg : V.grownBy V' (some S.R)) : MB S w k' X V' :=
  ⟨hr, h.res.keep (rd_keep h.rd hg 50 (by decide)), h.box.keep (rd_keep h.rd hg 50 (by decide)), grown_trans h.gr hg (.inl rfl)⟩
theorem MO.keep {w V V' : World} {v0 v1 v2 : Value} {n0 n1 n2 : Nat} {x0 x1 x2 : List Value} (h : MO w v0 n0 x0 v1 n1 x1 v2 n2 x2 V) (k3 : KeepT 3 V V') (k5 : KeepT 5 V V') : MO w v0 n0 x0 v1 n1 x1 v2 n2 x2 V' := ⟨own_keep h.a k3, own_keep h.b k3, own_keep h.c k5⟩
theorem MO.call {S : Src} {k : Nat} {w V V' : World} {v0 v1 v2 : Value} {n0 n1 n2 : Nat} {x0 x1 x2 : List Value} (h : MO w v0 n0 x0 v1 n1 x1 v2 n2 x2 V) (hr : Rd S k V) (hg : V.grownBy V' (some S.R)) : MO w v0 n0 x0 v1 n1 x1 v2 n2 x2 V' := h.keep (rd_keep hr hg 3 (by decide)) (rd_keep hr hg 5 (by decide))
theorem MB.set {S : Src} {w V : World} {k : Nat} {X X' : Array Value} (h : MB S w k X V) (hl : S.W.heap.size ≤ w.heap.size) (j : Nat) (v : Value) (hX : X.setIfInBounds j v = X') : MB S w k X' (V.setCell ⟨w.heap.size + 1, j, none⟩ v) :=
  ⟨h.rd.set h.box (by decide) (by omega) v, h.res.far (by omega) j v, hX ▸ h.box.set j v, grown_own h.gr (grown_set V ⟨w.heap.size + 1, j, none⟩ v) (fun g hg => by obtain rfl := Option.some.inj hg; show w.heap.size ≤ w.heap.size + 1; omega)⟩
theorem MO.set {S : Src} {k : Nat} {X : Array Value} {w V : World} {v0 v1 v2 : Value} {n0 n1 n2 : Nat} {x0 x1 x2 : List Value} (h : MO w v0 n0 x0 v1 n1 x1 v2 n2 x2 V) (hb : MB S w k X V) (j : Nat) (v : Value) : MO w v0 n0 x0 v1 n1 x1 v2 n2 x2 (V.setCell ⟨w.heap.size + 1, j, none⟩ v) := h.keep (.set hb.box (by decide)) (.set hb.box (by decide))
theorem MB.alloc {S : Src} {w V : World} {k : Nat} {X : Array Value} (h : MB S w k X V) (o : Obj) : MB S w k X (V.alloc o) := ⟨h.rd.alloc o, h.res.keep (.alloc _ _), h.box.keep (.alloc _ _), grown_trans h.gr (grown_alloc V o (some S.R)) (.inl rfl)⟩
theorem MB.drew {S : Src} {w V : World} {k : Nat} {X : Array Value} (h : MB S w k X V) : MB S w k X V.drew := ⟨h.rd.drew, h.res, h.box, ⟨h.gr.os, h.gr.tape, h.gr.output, h.gr.size, h.gr.block⟩⟩
theorem MO.alloc {w V : World} {v0 v1 v2 : Value} {n0 n1 n2 : Nat} {x0 x1 x2 : List Value} (h : MO w v0 n0 x0 v1 n1 x1 v2 n2 x2 V) (o : Obj) : MO w v0 n0 x0 v1 n1 x1 v2 n2 x2 (V.alloc o) := h.keep (.alloc _ _) (.alloc _ _)
theorem MB.new {S : Src} {w : World} {k : Nat} (h : Rd S k w) : MB S w k z5 ((w.alloc (.cells z5 50)).alloc (.cells z5 50)) :=
  ⟨(h.alloc _).alloc _, BoxT.keep (show BoxT (w.alloc _) w.heap.size z5 50 from heap_alloc_new _ _) (.alloc _ _), (by have := heap_alloc_new (w.alloc (.cells z5 50)) (.cells z5 50); rw [show (w.alloc (.cells z5 50)).heap.size = w.heap.size + 1 by simp] at this; exact this), grown_trans (grown_alloc w _ (some S.R)) (grown_alloc _ _ (some S.R)) (.inl rfl)⟩
def nilV : Value := .slice none 0 0
theorem MO.new (w V : World) : MO w nilV 0 [] nilV 0 [] nilV 0 [] V := ⟨⟨rfl, .inl ⟨rfl, rfl⟩⟩, ⟨rfl, .inl ⟨rfl, rfl⟩⟩, ⟨rfl, .inl ⟨rfl, rfl⟩⟩⟩
theorem MB.sz {S : Src} {w V : World} {k : Nat} {X : Array Value} (h : MB S w k X V) : w.heap.size + 2 ≤ V.heap.size := by have := h.box.lt; omega
theorem MB.y {S : Src} {w V : World} {k : Nat} {X : Array Value} (h : MB S w k X V) (j : Nat) (v : Value) (hv : X[j]? = some v) : V.cell? ⟨w.heap.size + 1, j, none⟩ = some v ∧ V.frozen? ⟨w.heap.size + 1, j, none⟩ = false := ⟨(h.box.cell j).trans hv, rowAt_frz h.box.row j⟩
theorem MB.app {S : Src} {w V V' : World} {k n : Nat} {X : Array Value} {v : Value} {xs : List Value} {o : Obj} (h : MB S w k X V) (hl : S.W.heap.size ≤ w.heap.size) (hc : (V.alloc o).ownsRow (w.heap.size + 2) 5 1 v n xs) (hg : (V.alloc o).grownBy V' v.ownBlock) : MB S w k X V' :=
  (have k5 : KeepT 50 V V' := (KeepT.alloc V o).trans (.grown hg (own_typed hc) (by decide))
   ⟨(h.rd.alloc o).grown hg (own_typed hc) (by decide) (fun g hg' => by have := own_base hc g hg'; omega), h.res.keep k5, h.box.keep k5, grown_own (grown_trans h.gr (grown_alloc V o (some S.R)) (.inl rfl)) hg (fun g hg' => by have := own_base hc g hg'; omega)⟩)
theorem MO.app {w V V' : World} {v0 v1 v2 v' : Value} {n0 n1 n2 n' : Nat} {x0 x1 x2 x' : List Value} {o : Obj} (h : MO w v0 n0 x0 v1 n1 x1 v2 n2 x2 V) (hg : (V.alloc o).grownBy V' v2.ownBlock) (hc : V'.ownsRow (w.heap.size + 2) 5 1 v' n' x') : MO w v0 n0 x0 v1 n1 x1 v' n' x' V' :=
  (have k3 : KeepT 3 V V' := (KeepT.alloc V o).trans (.grown hg (own_typed (h.alloc o).c) (by decide))
   ⟨own_keep h.a k3, own_keep h.b k3, hc⟩)
/-- A method that has been read, while it is laid into its result. -/
structure MF (S : Src) (w : World) (k : Nat) (X : Array Value) (V : World) : Prop where
  rd : Rd S k V
  res : BoxT V w.heap.size X 50
  gr : w.grownBy V (some S.R)
theorem MF.set {S : Src} {w V : World} {k : Nat} {X X' : Array Value} (h : MF S w k X V) (hl : S.W.heap.size ≤ w.heap.size) (j : Nat) (v : Value) (hX : X.setIfInBounds j v = X') : MF S w k X' (V.setCell ⟨w.heap.size, j, none⟩ v) :=
  ⟨h.rd.set h.res (by decide) hl v, hX ▸ h.res.set j v, grown_own h.gr (grown_set V ⟨w.heap.size, j, none⟩ v) (fun g hg => by obtain rfl := Option.some.inj hg; exact Nat.le_refl _)⟩
theorem MO.fset {S : Src} {k : Nat} {X : Array Value} {w V : World} {v0 v1 v2 : Value} {n0 n1 n2 : Nat} {x0 x1 x2 : List Value} (h : MO w v0 n0 x0 v1 n1 x1 v2 n2 x2 V) (hb : MF S w k X V) (j : Nat) (v : Value) : MO w v0 n0 x0 v1 n1 x1 v2 n2 x2 (V.setCell ⟨w.heap.size, j, none⟩ v) := h.keep (.set hb.res (by decide)) (.set hb.res (by decide))
theorem MF.y {S : Src} {w V : World} {k : Nat} {X : Array Value} (h : MF S w k X V) (j : Nat) (v : Value) (hv : X[j]? = some v) : V.cell? ⟨w.heap.size, j, none⟩ = some v ∧ V.frozen? ⟨w.heap.size, j, none⟩ = false := ⟨(h.res.cell j).trans hv, rowAt_frz h.res.row j⟩
theorem Rd.at {S : Src} {k k' : Nat} {V : World} (h : Rd S k V) (e : k = k') : Rd S k' V := e ▸ h
/-- What a method's read tells. -/
def MethV (S : Src) (k : Nat) (w : World) (v : Value) (V : World) : Prop := ∃ a0 c0 a1 c1 a2 c2,
  v = .agg #[.slice a0 (S.d k) c0, .int .i64 (S.d (k + 1 + S.d k) : Nat), .slice a1 (S.d (k + 2 + S.d k)) c1, .int .i64 (S.d (k + 3 + S.d k + S.d (k + 2 + S.d k)) : Nat), .slice a2 (mSz S.d k) c2] ∧
  V.ownsRow w.heap.size 3 1 (.slice a0 (S.d k) c0) (S.d k) (els1 (S.d k) fun i => .int .i64 (S.d (k + 1 + i) : Nat)) ∧
  V.ownsRow w.heap.size 3 1 (.slice a1 (S.d (k + 2 + S.d k)) c1) (S.d (k + 2 + S.d k)) (els1 (S.d (k + 2 + S.d k)) fun i => .int .i64 (S.d (k + 3 + S.d k + i) : Nat)) ∧
  V.ownsRow w.heap.size 5 1 (.slice a2 (mSz S.d k) c2) (mSz S.d k) (els1 (mSz S.d k) fun i => .int .u8 (S.d (k + 6 + S.d k + S.d (k + 2 + S.d k) + i) : Nat))
set_option maxRecDepth 100000 in
set_option maxHeartbeats 4000000 in
theorem rdx_method (S : Src) (HO : Hid (SrcOk S)) (k : Nat) (w : World) (HR : Hid (Rd S k w)) :
    Calls Try.prog 110 #[.pointer (some ⟨S.R, 0, none⟩)] w (NxR S (methE S.n S.d k) (k + 6 + S.d k + S.d (k + 2 + S.d k) + mSz S.d k) (MethV S k w) w) := by
  have HW := Lib.hid HR.out.b.size
  go_enter Try.func110, Try.ntmps110
  go_wp2_with fail
  have HM : Hid (MB S w k z5 ((w.alloc (.cells z5 50)).alloc (.cells z5 50))) := Lib.hid (.new HR.out)
  generalize hV0 : ((w.alloc (.cells #[.slice none 0 0, .int .i64 0, .slice none 0 0, .int .i64 0, .slice none 0 0] 50)).alloc (.cells #[.slice none 0 0, .int .i64 0, .slice none 0 0, .int .i64 0, .slice none 0 0] 50)) = V0
  replace HM : Hid (MB S w k z5 V0) := Lib.hid (hV0 ▸ HM.out)
  have HN : Hid (MO w nilV 0 [] nilV 0 [] nilV 0 [] V0) := Lib.hid (.new _ _)
  clear hV0
  refine (rdx_any S HO k _ (Lib.hid HM.out.rd)).mono ?_
  intro e V1 h
  rcases h.two with ⟨p, er, h1, rfl, hb⟩ | ⟨h1, v, rfl, hq, hr, hg⟩
  · exact And.intro rfl (.bad (by unfold methE; rw [or_some h1.out]) hb)
  obtain rfl : v = _ := hq
  replace HN := Lib.hid (HN.out.call HM.out.rd hg)
  replace HM := Lib.hid (HM.out.call hr hg)
  have hd0 : S.d k < 256 := HO.out.d _ (nxE_none h1.out).1
  clear hr hg h
  go_wp2_with fail
  refine (rdx_types S HO (S.d k) (by omega) (k + 1) _ (Lib.hid HM.out.rd)).mono ?_
  intro e V2 h
  rcases h.two with ⟨p, er, h2, rfl, hb⟩ | ⟨h2, v, rfl, ⟨a0, f0, rfl, ho⟩, hr, hg⟩
  · exact And.intro rfl (.bad (by unfold methE; rw [or_none h1.out, or_some h2.out]) hb)
  have HO0 := Lib.hid (own_mono ho HM.out.sz)
  replace HN := Lib.hid (HN.out.call HM.out.rd hg)
  replace HM := Lib.hid (HM.out.call hr hg)
  clear hr hg h ho
  obtain ⟨y, z⟩ := HM.out.y 0 _ rfl
  go_wp2_with fail
  replace HN := Lib.hid (MO.set ⟨HO0.out, HN.out.b, HN.out.c⟩ HM.out 0 (.slice a0 (S.d k) f0))
  replace HM := Lib.hid (HM.out.set HW.out 0 (.slice a0 (S.d k) f0) rfl)
  clear y z
  generalize V2.setCell ⟨w.heap.size + 1, 0, none⟩ (.slice a0 (S.d k) f0) = V2s at HM HN ⊢
  refine (nx_ret S HO (k + 1 + S.d k) 5 _ (Lib.hid HM.out.rd)).mono ?_
  intro e V3 h
  rcases h.two with ⟨p, er, h3, rfl, hb⟩ | ⟨h3, v, rfl, hq, hr, hg⟩
  · exact And.intro rfl (.bad (by unfold methE; rw [or_none h1.out, or_none h2.out, or_some h3.out]) hb)
  obtain rfl : v = _ := hq
  replace HN := Lib.hid (HN.out.call HM.out.rd hg)
  replace HM := Lib.hid (HM.out.call (hr.at (show _ = k + 2 + S.d k by omega)) hg)
  clear hr hg h
  obtain ⟨y, z⟩ := HM.out.y 1 _ rfl
  obtain ⟨y0, _⟩ := HM.out.y 0 _ rfl
  go_wp2_with fail
  replace HN := Lib.hid (HN.out.set HM.out 1 (.int .i64 (S.d (k + 1 + S.d k) : Nat)))
  replace HM := Lib.hid (HM.out.set HW.out 1 (.int .i64 (S.d (k + 1 + S.d k) : Nat)) rfl)
  clear y z y0
  generalize V3.setCell ⟨w.heap.size + 1, 1, none⟩ (.int .i64 (S.d (k + 1 + S.d k) : Nat)) = V3s at HM HN ⊢
  refine (rdx_count S HO (40 - (S.d k : Int)) (k + 2 + S.d k) _ (Lib.hid HM.out.rd)).mono ?_
  intro e V4 h
  rcases h.two with ⟨p, er, h4, rfl, hb⟩ | ⟨h4, v, rfl, hq, hr, hg⟩
  · exact And.intro rfl (.bad (by unfold methE; rw [or_none h1.out, or_none h2.out, or_none h3.out, or_some h4.out]) hb)
  obtain rfl : v = _ := hq
  replace HN := Lib.hid (HN.out.call HM.out.rd hg)
  replace HM := Lib.hid (HM.out.call (hr.at (show _ = k + 3 + S.d k by omega)) hg)
  clear hr hg h
  have hd1 : S.d (k + 2 + S.d k) < 256 := HO.out.d _ (nxE_none h4.out).1
  go_wp2_with fail
  refine (rdx_types S HO (S.d (k + 2 + S.d k)) (by omega) (k + 3 + S.d k) _ (Lib.hid HM.out.rd)).mono ?_
  intro e V5 h
  rcases h.two with ⟨p, er, h5, rfl, hb⟩ | ⟨h5, v, rfl, ⟨a1, f1, rfl, ho⟩, hr, hg⟩
  · exact And.intro rfl (.bad (by unfold methE; rw [or_none h1.out, or_none h2.out, or_none h3.out, or_none h4.out, or_some h5.out]) hb)
  have HO1 := Lib.hid (own_mono ho HM.out.sz)
  replace HN := Lib.hid (HN.out.call HM.out.rd hg)
  replace HM := Lib.hid (HM.out.call (hr.at (show _ = k + 3 + S.d k + S.d (k + 2 + S.d k) by omega)) hg)
  clear hr hg h ho
  obtain ⟨y, z⟩ := HM.out.y 2 _ rfl
  go_wp2_with fail
  replace HN := Lib.hid (MO.set ⟨HN.out.a, HO1.out, HN.out.c⟩ HM.out 2 (.slice a1 (S.d (k + 2 + S.d k)) f1))
  replace HM := Lib.hid (HM.out.set HW.out 2 (.slice a1 (S.d (k + 2 + S.d k)) f1) rfl)
  clear y z
  generalize V5.setCell ⟨w.heap.size + 1, 2, none⟩ (.slice a1 (S.d (k + 2 + S.d k)) f1) = V5s at HM HN ⊢
  refine (rdx_count S HO 40 (k + 3 + S.d k + S.d (k + 2 + S.d k)) _ (Lib.hid HM.out.rd)).mono ?_
  intro e V6 h
  rcases h.two with ⟨p, er, h6, rfl, hb⟩ | ⟨h6, v, rfl, hq, hr, hg⟩
  · exact And.intro rfl (.bad (by unfold methE; rw [or_none h1.out, or_none h2.out, or_none h3.out, or_none h4.out, or_none h5.out, or_some h6.out]) hb)
  obtain rfl : v = _ := hq
  replace HN := Lib.hid (HN.out.call HM.out.rd hg)
  replace HM := Lib.hid (HM.out.call (hr.at (show _ = k + 4 + S.d k + S.d (k + 2 + S.d k) by omega)) hg)
  clear hr hg h
  obtain ⟨p, hp⟩ : ∃ p, k + 4 + S.d k + S.d (k + 2 + S.d k) = p := ⟨_, rfl⟩
  have hp1 : k + 5 + S.d k + S.d (k + 2 + S.d k) = p + 1 := by omega
  have hp2 : k + 6 + S.d k + S.d (k + 2 + S.d k) = p + 2 := by omega
  have HE : Hid (methE S.n S.d k = (nxE S.n S.d 0 anyB p).or ((nxE S.n S.d 0 anyB (p + 1)).or ((sizE p (mSz S.d k)).or (firE (fun i => nxE S.n S.d 0 anyB (p + 2 + i)) (mSz S.d k))))) := Lib.hid (by
    unfold methE
    rw [or_none h1.out, or_none h2.out, or_none h3.out, or_none h4.out, or_none h5.out, or_none h6.out, hp, hp1, hp2])
  have HP2 := Lib.hid hp2
  have HMS : Hid (mSz S.d k = S.d p + 256 * S.d (p + 1)) := Lib.hid (by unfold mSz; rw [hp, hp1])
  rw [hp] at HM
  clear hp hp1 hp2
  obtain ⟨_, r1, _⟩ := rd_cells HM.out.rd
  obtain ⟨y, z⟩ := HM.out.y 3 _ rfl
  go_wp2_with fail
  replace HN := Lib.hid (HN.out.set HM.out 3 (.int .i64 (S.d (k + 3 + S.d k + S.d (k + 2 + S.d k)) : Nat)))
  replace HM := Lib.hid (HM.out.set HW.out 3 (.int .i64 (S.d (k + 3 + S.d k + S.d (k + 2 + S.d k)) : Nat)) rfl)
  clear y z r1
  generalize V6.setCell ⟨w.heap.size + 1, 3, none⟩ (.int .i64 (S.d (k + 3 + S.d k + S.d (k + 2 + S.d k)) : Nat)) = V6s at HM HN ⊢
  refine (rdx_any S HO p _ (Lib.hid HM.out.rd)).mono ?_
  intro e V7 h
  rcases h.two with ⟨p, er, h7, rfl, hb⟩ | ⟨h7, v, rfl, hq, hr, hg⟩
  · exact And.intro rfl (.bad (by rw [HE.out, or_some h7.out]) hb)
  obtain rfl : v = _ := hq
  replace HN := Lib.hid (HN.out.call HM.out.rd hg)
  replace HM := Lib.hid (HM.out.call (hr.at (show _ = p + 1 by omega)) hg)
  clear hr hg h
  go_wp2_with fail
  refine (rdx_any S HO (p + 1) _ (Lib.hid HM.out.rd)).mono ?_
  intro e V8 h
  rcases h.two with ⟨p, er, h8, rfl, hb⟩ | ⟨h8, v, rfl, hq, hr, hg⟩
  · exact And.intro rfl (.bad (by rw [HE.out, or_none h7.out, or_some h8.out]) hb)
  obtain rfl : v = _ := hq
  replace HN := Lib.hid (HN.out.call HM.out.rd hg)
  replace HM := Lib.hid (HM.out.call (hr.at (show _ = p + 2 by omega)) hg)
  clear hr hg h
  have hda : S.d p < 256 := HO.out.d _ (nxE_none h7.out).1
  have hdb : S.d (p + 1) < 256 := HO.out.d _ (nxE_none h8.out).1
  obtain ⟨xa, ha⟩ : ∃ x, S.d p = x := ⟨_, rfl⟩
  obtain ⟨xb, hb⟩ : ∃ x, S.d (p + 1) = x := ⟨_, rfl⟩
  obtain ⟨sz, hsz⟩ : ∃ s, xa + 256 * xb = s := ⟨_, rfl⟩
  have hor := or_two (ha ▸ hda) (hb ▸ hdb)
  rw [hsz] at hor
  have HS : Hid (mSz S.d k = sz) := Lib.hid (by rw [HMS.out, ha, hb, hsz])
  rw [ha] at hda ⊢
  rw [hb] at hdb ⊢
  have hszb : sz ≤ 65535 := by omega
  clear ha hb hsz
  have HE2 : Hid (methE S.n S.d k = (sizE p sz).or (firE (fun i => nxE S.n S.d 0 anyB (p + 2 + i)) sz)) := Lib.hid (by rw [HE.out, or_none h7.out, or_none h8.out, HS.out])
  by_cases hbig : 4096 < sz
  · have d1 : decide ((4096 : Int) < (sz : Int)) = true := decide_eq_true (by omega)
    go_wp2_with (first | (go_at_call 109; refine (refuse_c p S.R 2 _).mono ?_; rintro e w' ⟨rfl, rfl⟩))
    exact And.intro rfl (.bad (by rw [HE2.out]; exact or_some (if_pos hbig)) HM.out.rd.b)
  have d1 : decide ((4096 : Int) < (sz : Int)) = false := decide_eq_false (by omega)
  by_cases hz : sz = 0
  · have d2 : ((sz : Int) == 0) = true := by rw [hz]; rfl
    go_wp2_with (first | (go_at_call 109; refine (refuse_c p S.R 26 _).mono ?_; rintro e w' ⟨rfl, rfl⟩))
    exact And.intro rfl (.bad (by rw [HE2.out]; exact or_some ((if_neg hbig).trans (if_pos hz))) HM.out.rd.b)
  have d2 : ((sz : Int) == 0) = false := by simpa using hz
  have HE3 : Hid (methE S.n S.d k = firE (fun i => nxE S.n S.d 0 anyB (p + 2 + i)) sz) := Lib.hid (by rw [HE2.out]; exact or_none ((if_neg hbig).trans (if_neg hz)))
  go_wp2_with fail
  clear d1 d2 hor
  go_loopw [50] (fun ix wr => ∃ (j : Nat) (V : Value), j ≤ sz ∧ ix = .int .i64 j ∧ Hid (firE (fun i => nxE S.n S.d 0 anyB (p + 2 + i)) j = none ∧ MB S w (p + 2 + j) #[.slice a0 (S.d k) f0, .int .i64 (S.d (k + 1 + S.d k) : Nat), .slice a1 (S.d (k + 2 + S.d k)) f1, .int .i64 (S.d (k + 3 + S.d k + S.d (k + 2 + S.d k)) : Nat), V] wr ∧ MO w (.slice a0 (S.d k) f0) (S.d k) (els1 (S.d k) fun i => .int .i64 (S.d (k + 1 + i) : Nat)) (.slice a1 (S.d (k + 2 + S.d k)) f1) (S.d (k + 2 + S.d k)) (els1 (S.d (k + 2 + S.d k)) fun i => .int .i64 (S.d (k + 3 + S.d k + i) : Nat)) V j (els1 j fun i => .int .u8 (S.d (p + 2 + i) : Nat)) wr)) (fun ix _ => sz - (intOf ix).toNat)
  case atStart => exact ⟨0, nilV, by omega, rfl, Lib.hid ⟨rfl, HM.out, HN.out⟩⟩
  case round =>
    obtain ⟨j, V, hj, rfl, HQ⟩ := hrel
    by_cases hjm : j < sz
    · have gj : (j : Int) < sz := by omega
      go_wp2
      have HMd := Lib.hid HQ.out.2.1.drew
      have HNd : Hid (MO w (.slice a0 (S.d k) f0) (S.d k) (els1 (S.d k) fun i => .int .i64 (S.d (k + 1 + i) : Nat)) (.slice a1 (S.d (k + 2 + S.d k)) f1) (S.d (k + 2 + S.d k)) (els1 (S.d (k + 2 + S.d k)) fun i => .int .i64 (S.d (k + 3 + S.d k + i) : Nat)) V j (els1 j fun i => .int .u8 (S.d (p + 2 + i) : Nat)) wr.drew) := Lib.hid (HQ.out.2.2.keep (.drew _) (.drew _))
      have HC := Lib.hid (rdx_any S HO (p + 2 + j) wr.drew (Lib.hid HMd.out.rd))
      have HXD : Hid (nxE S.n S.d 0 anyB (p + 2 + j) = none → S.d (p + 2 + j) < 256) := Lib.hid fun h => HO.out.d _ (nxE_none h).1
      obtain ⟨x, hx0⟩ : ∃ x, S.d (p + 2 + j) = x := ⟨_, rfl⟩
      have HX := Lib.hid hx0
      rw [hx0] at HC HXD
      clear hx0
      obtain ⟨q, _⟩ := HMd.out.y 4 _ rfl
      obtain ⟨i0, ii, iz0, iz1, iz2⟩ := info_parts info5
      go_region_law (first | (go_simp; go_at_call 121; refine HC.out.mono ?_; intro e w4 h; rcases h.two with ⟨p', er, hx, rfl, hb⟩ | ⟨hx, v, rfl, hq, hr, hg⟩; exact And.intro rfl (.bad (HE3.out.trans (firE_at HQ.out.1 hx.out hjm)) hb); obtain rfl : v = _ := hq; have hd := HXD.out hx.out; have hwr : IntKind.u8.wrap (x : Int) = x := (by rw [IntKind.wrap_u8]; omega); have HM4 := Lib.hid (HMd.out.call hr hg); have HN4 := Lib.hid (HNd.out.call HMd.out.rd hg); obtain ⟨q4, _⟩ := HM4.out.y 4 _ rfl; obtain ⟨q4a, _⟩ := (HM4.out.alloc (.cells #[.int .u8 x] 5)).y 4 _ rfl; clear hr hg h) | (refine step_append_lies _ (by rfl) (.tmp 53) (.tmp 57) 29 (by rfl) (w.heap.size + 2) 5 i0 _ 1 1 Try.underlying29 ii iz0 iz1 iz2 rfl (by decide) V j (els1 j fun i => .int .u8 (S.d (p + 2 + i) : Nat)) (by rfl) (HN4.out.alloc _).c ⟨w4.heap.size, 0, none⟩ 1 1 [.int .u8 x] (by rfl) (by rfl) (World.news_of_block (cs := #[.int .u8 x]) (t := 5) (fr := (0, 0)) (heap_alloc_new w4 _)) (by simp [Value.oneCell']) (by omega) (by unfold maxLen; omega) (by omega) (by have := HM4.out.sz; simp; omega) (w4.heap.size + 1) (by simp) ?_; intro gg cap5 w5 hown5 hgrow _ _; have HM5 := Lib.hid (HM4.out.app HW.out (HN4.out.alloc _).c hgrow); have HN5 := Lib.hid (HN4.out.app hgrow hown5); obtain ⟨q5, z5'⟩ := HM5.out.y 4 _ rfl; clear hown5 hgrow))
      all_goals
        clear q q4 q4a hwr
        go_wp2_with fail
        exact ⟨⟨j + 1, _, by omega, by go_num, Lib.hid ⟨firE_succ HQ.out.1 hx.out, HM5.out.set HW.out 4 _ rfl, by rw [← els1_snoc j _ (.int .u8 x) (by rw [HX.out])]; exact HN5.out.set HM5.out 4 _⟩⟩, by simp [intOf]; omega⟩
    · obtain rfl : sz = j := by omega
      have HN9 := Lib.hid HQ.out.2.2
      have HF : Hid (MF S w (p + 2 + sz) z5 wr) := Lib.hid ⟨HQ.out.2.1.rd, HQ.out.2.1.res, HQ.out.2.1.gr⟩
      obtain ⟨y0, _⟩ := HQ.out.2.1.y 0 _ rfl
      obtain ⟨y1, _⟩ := HQ.out.2.1.y 1 _ rfl
      obtain ⟨y2, _⟩ := HQ.out.2.1.y 2 _ rfl
      obtain ⟨y3, _⟩ := HQ.out.2.1.y 3 _ rfl
      obtain ⟨y4, _⟩ := HQ.out.2.1.y 4 _ rfl
      obtain ⟨u0, t0⟩ := HF.out.y 0 _ rfl
      obtain ⟨u1, t1⟩ := HF.out.y 1 _ rfl
      obtain ⟨u2, t2⟩ := HF.out.y 2 _ rfl
      obtain ⟨u3, t3⟩ := HF.out.y 3 _ rfl
      obtain ⟨u4, t4⟩ := HF.out.y 4 _ rfl
      have HEnd := Lib.hid (HE3.out.trans HQ.out.1)
      clear HQ
      obtain ⟨a2, f2, rfl⟩ := own_slice HN9.out.c
      go_wp2
      clear y0 y1 y2 y3 y4 u0 u1 u2 u3 u4 t0 t1 t2 t3 t4
      replace HN9 := Lib.hid (HN9.out.fset HF.out 0 (.slice a0 (S.d k) f0))
      replace HF := Lib.hid (HF.out.set HW.out 0 (.slice a0 (S.d k) f0) rfl)
      generalize wr.setCell ⟨w.heap.size, 0, none⟩ (.slice a0 (S.d k) f0) = e0 at HF HN9 ⊢
      replace HN9 := Lib.hid (HN9.out.fset HF.out 1 (.int .i64 (S.d (k + 1 + S.d k) : Nat)))
      replace HF := Lib.hid (HF.out.set HW.out 1 (.int .i64 (S.d (k + 1 + S.d k) : Nat)) rfl)
      generalize e0.setCell ⟨w.heap.size, 1, none⟩ (.int .i64 (S.d (k + 1 + S.d k) : Nat)) = e1 at HF HN9 ⊢
      replace HN9 := Lib.hid (HN9.out.fset HF.out 2 (.slice a1 (S.d (k + 2 + S.d k)) f1))
      replace HF := Lib.hid (HF.out.set HW.out 2 (.slice a1 (S.d (k + 2 + S.d k)) f1) rfl)
      generalize e1.setCell ⟨w.heap.size, 2, none⟩ (.slice a1 (S.d (k + 2 + S.d k)) f1) = e2 at HF HN9 ⊢
      replace HN9 := Lib.hid (HN9.out.fset HF.out 3 (.int .i64 (S.d (k + 3 + S.d k + S.d (k + 2 + S.d k)) : Nat)))
      replace HF := Lib.hid (HF.out.set HW.out 3 (.int .i64 (S.d (k + 3 + S.d k + S.d (k + 2 + S.d k)) : Nat)) rfl)
      generalize e2.setCell ⟨w.heap.size, 3, none⟩ (.int .i64 (S.d (k + 3 + S.d k + S.d (k + 2 + S.d k)) : Nat)) = e3 at HF HN9 ⊢
      replace HN9 := Lib.hid (HN9.out.fset HF.out 4 (.slice a2 sz f2))
      replace HF := Lib.hid (HF.out.set HW.out 4 (.slice a2 sz f2) rfl)
      generalize e3.setCell ⟨w.heap.size, 4, none⟩ (.slice a2 sz f2) = e4 at HF HN9 ⊢
      have x0 : e4.cell? ⟨w.heap.size, 0, none⟩ = some (.slice a0 (S.d k) f0) := (HF.out.y 0 _ rfl).1
      have x1 : e4.cell? ⟨w.heap.size, 1, none⟩ = some (.int .i64 (S.d (k + 1 + S.d k) : Nat)) := (HF.out.y 1 _ rfl).1
      have x2 : e4.cell? ⟨w.heap.size, 2, none⟩ = some (.slice a1 (S.d (k + 2 + S.d k)) f1) := (HF.out.y 2 _ rfl).1
      have x3 : e4.cell? ⟨w.heap.size, 3, none⟩ = some (.int .i64 (S.d (k + 3 + S.d k + S.d (k + 2 + S.d k)) : Nat)) := (HF.out.y 3 _ rfl).1
      have x4 : e4.cell? ⟨w.heap.size, 4, none⟩ = some (.slice a2 sz f2) := (HF.out.y 4 _ rfl).1
      exact bodyPost_ret (v := .agg #[.slice a0 (S.d k) f0, .int .i64 (S.d (k + 1 + S.d k) : Nat), .slice a1 (S.d (k + 2 + S.d k)) f1, .int .i64 (S.d (k + 3 + S.d k + S.d (k + 2 + S.d k)) : Nat), .slice a2 sz f2]) (by simp [results, Try.results110, go_sem, x0, x1, x2, x3, x4]) rfl (NxR.ok HEnd.out ⟨a0, f0, a1, f1, a2, f2, by rw [HS.out], own_mono HN9.out.a (by omega), own_mono HN9.out.b (by omega), by rw [HS.out, HP2.out]; exact own_mono HN9.out.c (by omega)⟩ (HF.out.rd.at (by rw [HS.out, HP2.out])) HF.out.gr)
end Go.Proofs.Ytpiafgmncfibmaa
