import Derived.Test.YtgdlcnngplfjnaaDoorBl
import Derived.Lib.AppendStr
import Derived.Lib.Builder
import Derived.Lib.FrozenHead
import Derived.Test.YtgdlcnngplfjnaaDoorVg
import Derived.Test.YtgdlcnngplfjnaaDoorCp
import Derived.Test.YtgdlcnngplfjnaaDoorYy
import Derived.BigGuardPart
import Derived.LoopIn
import Derived.LoopNIn
import Derived.OwnWalkIn
import Derived.RangeFuncBound
import Derived.RangeFuncBox
import Derived.RangeFuncCalls
import Derived.RangeFuncLeaves
import Derived.RangeFuncNested
import Derived.Shelf.RegionOpen
import Derived.TacticsInMore
import Derived.Laws.BitsLemmas
import Derived.IntWalk
import Derived.Laws.BitsAllLaws
import Derived.Deep.DrawnRows
import Derived.WalkKit
import Derived.ProofKit
import Derived.OpenShut
import Derived.Deep.QuietTactic
import Derived.BigQuiet
import Derived.Outline
import Derived.WalkSmall
import Derived.WalkLawsBesides
import Derived.WalkSpells
import Derived.BigGuardPart
import Derived.RegionTactic
import Derived.Deep.RegionHeld3
import Derived.Lib.Hide
import Derived.Deep.MidRow
import Derived.Below
import Derived.Deep.RegionWith
import Derived.Deep.OwnRows
import Derived.Deep.AppendLies
import Derived.Deep.RegionLaw
import Derived.Deep.CutBlock
import Derived.Deep.DeepCutAuto
namespace Go.Proofs.YtgdlcnngplfjnaaDoor.Co
open Go.Shelf Go.ChangeShapes Go.WideShapes Go.ChangeAt Go.RowKit Go.Proofs.YtgdlcnngplfjnaaDoor.Vf
set_option linter.unusedVariables false
/-! ### strings.Builder, with a frame of one's own: whatever lies below B but the builder itself stays -/
/-- What may change besides: rows of elements of one type, not below B. -/
def Zs (B b ty : Nat) : Nat → TypeId → Prop := fun q e => q = b ∨ (e = ty ∧ B ≤ q)
structure KpX (B b ty : Nat) (w w' : World) : Prop where
  os : w'.os = w.os
  tape : w'.tape = w.tape
  output : w'.output = w.output
  size : w.heap.size ≤ w'.heap.size
  block : ∀ k, k < B → k ≠ b → w'.heap[k]? = w.heap[k]?
  z : KpZ (Zs B b ty) w w'
theorem KpX.refl (B b ty : Nat) (w : World) : KpX B b ty w w := ⟨rfl, rfl, rfl, Nat.le_refl _, fun _ _ _ => rfl, fun _ _ _ _ _ h => h⟩
theorem KpX.t {B b ty : Nat} {u v w : World} (h : KpX B b ty u v) (k : KpX B b ty v w) : KpX B b ty u w := ⟨k.os.trans h.os, k.tape.trans h.tape, k.output.trans h.output, Nat.le_trans h.size k.size, fun q h1 h2 => (k.block q h1 h2).trans (h.block q h1 h2), h.z.t k.z⟩
theorem KpX.below {B b ty : Nat} {u v : World} (hs : B ≤ u.heap.size) (h : Below u.heap.size u v) : KpX B b ty u v := ⟨h.os, h.tape, h.output, h.size, fun q h1 _ => h.block q (by omega), KpZ.below h⟩
theorem KpX.set {B b ty : Nat} (w : World) (k : Nat) (v : Value) : KpX B b ty w (w.setCell ⟨b, k, none⟩ v) := ⟨rfl, rfl, rfl, by simp [World.setCell], fun q _ h2 => Below.heap_setCell _ _ _ _ h2, KpZ.set _ _ _ _ (fun _ => .inl rfl)⟩
theorem KpX.own {B b ty s n : Nat} {w w' : World} {v : Value} {xs : List Value} (hs : B ≤ w.heap.size) (ho : w.ownsRow B ty s v n xs) (hg : w.grownBy w' v.ownBlock) : KpX B b ty w w' := by
  refine ⟨hg.os, hg.tape, hg.output, hg.size, fun q h1 _ => hg.block q (by omega) (fun e => by have := (ho.lt q e.symm).1; omega), fun q C e t hz hq => ?_⟩
  have hlt := (Array.getElem?_eq_some_iff.1 hq).1
  by_cases he : some q = v.ownBlock
  · exfalso
    rcases ho.2 with ⟨rfl, _⟩ | ⟨g, cap, cur, rfl, h2, h3, h4⟩
    · cases he
    · injection he with he
      subst he
      rw [h3] at hq
      injection hq with hq
      injection hq with _ hq _
      exact hz (.inr ⟨hq.symm, h2⟩)
  · exact (hg.block q hlt he).trans hq
theorem KpX.non {B b ty : Nat} {w w' : World} {row : Option Nat} (hs : B ≤ w.heap.size) (h : w.grownBy w' row) (hr : ∀ r, row = some r → B ≤ r ∧ ∃ o, w.heap[r]? = some o ∧ o.isCells = false) : KpX B b ty w w' := by
  refine ⟨h.os, h.tape, h.output, h.size, fun q h1 _ => h.block q (by omega) (fun e => by have := (hr q e.symm).1; omega), fun q C e t hz hq => ?_⟩
  refine (h.block q (Array.getElem?_eq_some_iff.1 hq).1 (fun e => ?_)).trans hq
  obtain ⟨_, o, ho, hc⟩ := hr q e.symm
  rw [hq] at ho
  cases ho
  cases hc
/-- What holds no cells stays. -/
def KpY (w w' : World) : Prop := ∀ (q : Nat) (o : Obj), w.heap[q]? = some o → o.isCells = false → w'.heap[q]? = some o
theorem KpY.refl (w : World) : KpY w w := fun _ _ h _ => h
theorem KpY.t {u v w : World} (h : KpY u v) (k : KpY v w) : KpY u w := fun q o h1 h2 => k q o (h q o h1 h2) h2
theorem KpY.below {u v : World} (h : Below u.heap.size u v) : KpY u v := fun q o h1 _ => (h.block q (Array.getElem?_eq_some_iff.1 h1).1).trans h1
theorem KpY.set (w : World) (b k : Nat) (v : Value) {C : Array Value} {e : Nat} (hb : Bx w b C e) : KpY w (w.setCell ⟨b, k, none⟩ v) := fun q o h1 h2 => (Below.heap_setCell _ _ _ _ (fun q2 => by
  have q3 : q = b := q2
  subst q3
  unfold Bx at hb
  rw [hb] at h1
  cases h1
  cases h2)).trans h1
theorem KpY.own {B ty s n : Nat} {w w' : World} {v : Value} {xs : List Value} (ho : w.ownsRow B ty s v n xs) (hg : w.grownBy w' v.ownBlock) : KpY w w' := fun q o h1 h2 => (hg.block q (Array.getElem?_eq_some_iff.1 h1).1 (fun he => by
  rcases ho.2 with ⟨rfl, _⟩ | ⟨g, cap, cur, rfl, h3, h4, h5⟩
  · cases he
  · injection he with he
    subst he
    rw [h4] at h1
    cases h1
    cases h2)).trans h1
/-- A builder at b, its bytes in a row not below B. -/
structure Bd (B b : Nat) (p v : Value) (l : List UInt8) (w : World) : Prop where
  h : w.heap[b]? = some (.cells #[p, v] 73 (0, 0))
  p : p = .pointer none ∨ p = .pointer (some ⟨b, 0, none⟩)
  o : w.ownsRow B 5 1 v l.length (Lib.byteCells l)
  b : b < B
  s : B ≤ w.heap.size
theorem Bd.ne {B b : Nat} {p v : Value} {l : List UInt8} {w : World} (h : Bd B b p v l w) : v.ownBlock ≠ some b := fun q => by
  have := (h.o.lt b q).1
  have := h.b
  omega
/-- What a write leaves. -/
def BdR (B b : Nat) (l : List UInt8) (w w' : World) : Prop := (∃ v', Bd B b (.pointer (some ⟨b, 0, none⟩)) v' l w') ∧ KpX B b 5 w w' ∧ KpY w w'
theorem ccheck_c (B b : Nat) (p v : Value) (l : List UInt8) (w : World) (h : Bd B b p v l w) : Calls Tryd.prog 54 #[.pointer (some ⟨b, 0, none⟩)] w fun e w' => e = .returned (.tuple #[]) ∧ Bd B b (.pointer (some ⟨b, 0, none⟩)) v l w' ∧ KpX B b 5 w w' ∧ KpY w w' := by
  have hb := h.b
  rcases h.p with hp | hp
  · subst hp
    refine (Any.Builder_copyCheck_fresh Tryd.lays240 Tryd.Builder_X72_240 b w (by rw [Lib.cell_of_heap h.h]; rfl) (by unfold World.shape?; rw [h.h]; rfl) (Lib.frozen_of_heap h.h 0)).mono ?_
    rintro e w' ⟨rfl, rfl⟩
    refine ⟨rfl, ⟨?_, .inr rfl, ?_, h.b, by simpa [World.setCell] using h.s⟩, KpX.set _ _ _, KpY.set w b 0 _ (C := #[.pointer none, v]) (e := 73) h.h⟩
    · exact Bx.set (C := #[.pointer none, v]) (e := 73) h.h 0 _
    · refine ⟨h.o.1, ?_⟩
      rcases h.o.2 with q | ⟨g, cap, cur, h1, h2, h3, h4⟩
      · exact .inl q
      · exact .inr ⟨g, cap, cur, h1, h2, (Below.heap_setCell _ _ _ _ (by show g ≠ b; omega)).trans h3, h4⟩
  · subst hp
    refine (Any.Builder_copyCheck_used Tryd.lays240 Tryd.Builder_X72_240 b w (by rw [Lib.cell_of_heap h.h]; rfl)).mono ?_
    rintro e w' ⟨rfl, rfl⟩
    exact ⟨rfl, h, KpX.refl _ _ _ _, KpY.refl _⟩
theorem BdR.fin {B b : Nat} {p v v' : Value} {l l' : List UInt8} {w w1 w2 w3 : World} (h : Bd B b p v l w1) (h1 : w1.heap.size ≤ w2.heap.size) (hw : KpX B b 5 w w1 ∧ KpY w w1) (h12 : Below w1.heap.size w1 w2) (hg : w2.grownBy w3 v.ownBlock) (ho : w3.ownsRow B 5 1 v' l'.length (Lib.byteCells l')) (hp : p = .pointer (some ⟨b, 0, none⟩)) : BdR B b l' w (w3.setCell ⟨b, 1, none⟩ v') := by
  subst hp
  have hb := h.b
  have hs := h.s
  have hlt : b < w1.heap.size := by omega
  have e3 : w3.heap[b]? = some (.cells #[.pointer (some ⟨b, 0, none⟩), v] 73 (0, 0)) := by
    rw [hg.block b (by omega) (fun q => h.ne q.symm), h12.block b hlt]
    exact h.h
  have hsz := hg.size
  refine ⟨⟨v', Bx.set (C := #[.pointer (some ⟨b, 0, none⟩), v]) (e := 73) e3 1 _, .inr rfl, ?_, h.b, by simp [World.setCell]; omega⟩, hw.1.t ((KpX.below hs h12).t ((KpX.own (by omega) (own_below2 h.o h12) hg).t (KpX.set _ _ _))), hw.2.t ((KpY.below h12).t ((KpY.own (own_below2 h.o h12) hg).t (KpY.set _ _ _ _ (C := #[.pointer (some ⟨b, 0, none⟩), v]) (e := 73) e3)))⟩
  refine ⟨ho.1, ?_⟩
  rcases ho.2 with q | ⟨g, cap, cur, h1, h2, h3, h4⟩
  · exact .inl q
  · exact .inr ⟨g, cap, cur, h1, h2, (Below.heap_setCell _ _ _ _ (by show g ≠ b; omega)).trans h3, h4⟩
set_option maxRecDepth 100000 in
set_option maxHeartbeats 2000000 in
theorem wbyte_c (B b : Nat) (p v : Value) (l : List UInt8) (c : UInt8) (w : World) (h : Bd B b p v l w) (hn : l.length ≤ 1000000) : Calls Tryd.prog 36 #[.pointer (some ⟨b, 0, none⟩), .int .u8 (c.toNat : Int)] w fun e w' => e = .returned .nilIface ∧ BdR B b (l ++ [c]) w w' := by
  obtain ⟨i0, hi, hz0, hz1, hz2⟩ := info_parts info5x
  have HK := Lib.hid (ccheck_c B b p v l w h)
  clear h
  go_enter Tryd.func36, Tryd.ntmps36
  go_wp2_with fail
  refine HK.out.mono ?_
  rintro e w1 ⟨rfl, h1, hk1⟩
  have c1 : w1.cell? ⟨b, 1, none⟩ = some v := by rw [Lib.cell_of_heap h1.h]; rfl
  have hbs := h1.s
  have HB := Lib.hid h1
  have HK1 := Lib.hid hk1
  clear h1 hk1
  go_wp2_with (at_builtin; refine wpList_append_own _ rfl _ _ 22 rfl B 5 i0 (.int .u8 0) 1 1 Tryd.underlying22 hi hz0 hz1 hz2 rfl (by decide) _ _ _ rfl (HB.out.o.alloc _) ⟨w1.heap.size, 0, none⟩ 1 1 [.int .u8 (c.toNat : Int)] rfl rfl ?c1 ?c2 ?c3 ?c4 ?c5 ?_)
  case c1 =>
    intro j u hj
    match j, hj with
    | 0, hj => simp at hj; subst hj; simp [Addr.add]
  case c2 => intro u hu; simp at hu; subst hu; rfl
  case c3 => unfold maxLen; omega
  case c4 => omega
  case c5 => simp; omega
  intro v' w2 hown' hgrow _
  have hfin : BdR B b (l ++ [c]) w (w2.setCell ⟨b, 1, none⟩ v') := BdR.fin HB.out (by simp) HK1.out ((Below.refl _ _).alloc (Nat.le_refl _) _) hgrow (by rw [List.length_append]; simpa [Lib.byteCells] using hown') rfl
  have hlt : b < w1.heap.size := by have := HB.out.b; omega
  have hb2 : w2.heap[b]? = some (.cells #[.pointer (some ⟨b, 0, none⟩), v] 73 (0, 0)) := by
    rw [hgrow.block b (by simp; omega) (fun e => HB.out.ne e.symm), heap_alloc_old w1 _ hlt]
    exact HB.out.h
  have d0 : w2.cell? ⟨b, 0, none⟩ = some (.pointer (some ⟨b, 0, none⟩)) := by rw [Lib.cell_of_heap hb2]; rfl
  have d1 : w2.cell? ⟨b, 1, none⟩ = some v := by rw [Lib.cell_of_heap hb2]; rfl
  have f1 : w2.frozen? ⟨b, 1, none⟩ = false := Lib.frozen_of_heap hb2 1
  obtain ⟨g, cap, rfl⟩ : ∃ g cap, v' = .slice (some ⟨g, 0, none⟩) (l.length + 1) cap := by
    rcases hown'.2 with ⟨_, h0⟩ | ⟨g, cap, cur, hv, _⟩
    · omega
    · exact ⟨g, cap, hv⟩
  have HF := Lib.hid hfin
  clear hfin
  go_wp2
  go_ret
  exact ⟨rfl, HF.out⟩
set_option maxRecDepth 100000 in
set_option maxHeartbeats 2000000 in
theorem wstr_c (B b : Nat) (p v : Value) (l s : List UInt8) (w : World) (h : Bd B b p v l w) (hn : l.length ≤ 1000000) (hs : s.length ≤ 100000) : Calls Tryd.prog 35 #[.pointer (some ⟨b, 0, none⟩), .string ⟨s.toArray⟩] w fun e w' => e = .returned (.tuple #[.int .i64 (s.length : Nat), .nilIface]) ∧ BdR B b (l ++ s) w w' := by
  obtain ⟨i0, hi, hz0, hz1, hz2⟩ := info_parts info5x
  have HK := Lib.hid (ccheck_c B b p v l w h)
  clear h
  have hss : (⟨s.toArray⟩ : ByteArray).size = s.length := by simp [ByteArray.size]
  go_enter Tryd.func35, Tryd.ntmps35
  go_wp2_with fail
  refine HK.out.mono ?_
  rintro e w1 ⟨rfl, h1, hk1⟩
  have c1 : w1.cell? ⟨b, 1, none⟩ = some v := by rw [Lib.cell_of_heap h1.h]; rfl
  have hbs := h1.s
  have HB := Lib.hid h1
  have HK1 := Lib.hid hk1
  clear h1 hk1
  go_wp2_with (at_builtin; refine Lib.wpList_append_own_string _ rfl _ _ 22 9 rfl B 5 i0 Tryd.underlying22 Tryd.underlying9 hi hz0 hz1 hz2 _ _ _ rfl HB.out.o ⟨s.toArray⟩ rfl ?c3 ?c4 ?c5 ?_)
  case c3 => unfold maxLen; omega
  case c4 => omega
  case c5 => omega
  intro v' w2 hown' hgrow _
  have hfin : BdR B b (l ++ s) w (w2.setCell ⟨b, 1, none⟩ v') := BdR.fin HB.out (Nat.le_refl _) HK1.out (Below.refl _ _) hgrow (by rw [List.length_append]; simpa [Lib.byteCells, Lib.strCells, hss] using hown') rfl
  have hlt : b < w1.heap.size := by have := HB.out.b; omega
  have hb2 : w2.heap[b]? = some (.cells #[.pointer (some ⟨b, 0, none⟩), v] 73 (0, 0)) := by
    rw [hgrow.block b hlt (fun e => HB.out.ne e.symm)]
    exact HB.out.h
  have d0 : w2.cell? ⟨b, 0, none⟩ = some (.pointer (some ⟨b, 0, none⟩)) := by rw [Lib.cell_of_heap hb2]; rfl
  have d1 : w2.cell? ⟨b, 1, none⟩ = some v := by rw [Lib.cell_of_heap hb2]; rfl
  have f1 : w2.frozen? ⟨b, 1, none⟩ = false := Lib.frozen_of_heap hb2 1
  obtain ⟨ao, n', cap, rfl⟩ : ∃ ao n' cap, v' = .slice ao n' cap := by
    rcases hown'.2 with ⟨hv, h0⟩ | ⟨g, cap, cur, hv, _⟩
    · exact ⟨_, _, _, hv⟩
    · exact ⟨_, _, _, hv⟩
  have HF := Lib.hid hfin
  clear hfin
  go_wp2
  go_ret2
  exact ⟨by first | rfl | (rw [← hss]) | (simp [ByteArray.size]), HF.out⟩
end Go.Proofs.YtgdlcnngplfjnaaDoor.Co
