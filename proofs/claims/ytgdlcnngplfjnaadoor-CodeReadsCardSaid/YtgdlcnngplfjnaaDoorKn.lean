import Derived.Test.YtgdlcnngplfjnaaDoorCt
import Derived.BigGuardPart
import Derived.LoopIn
import Derived.LoopNIn
import Derived.OwnWalkIn
import Derived.RangeFuncBound
import Derived.RangeFuncBox
import Derived.RangeFuncCalls
import Derived.RangeFuncLeaves
import Derived.RangeFuncNested
import Derived.Shelf.RegionOpen
import Derived.TacticsInMore
import Derived.Laws.BitsLemmas
import Derived.IntWalk
import Derived.Laws.BitsAllLaws
import Derived.Deep.DrawnRows
import Derived.WalkKit
import Derived.ProofKit
import Derived.OpenShut
import Derived.Deep.QuietTactic
import Derived.BigQuiet
import Derived.Outline
import Derived.WalkSmall
import Derived.WalkLawsBesides
import Derived.WalkSpells
import Derived.BigGuardPart
import Derived.RegionTactic
import Derived.Deep.RegionHeld3
import Derived.Lib.Hide
import Derived.Deep.MidRow
import Derived.Below
import Derived.Deep.RegionWith
import Derived.Deep.OwnRows
import Derived.Deep.AppendLies
import Derived.Deep.RegionLaw
import Derived.Deep.CutBlock
import Derived.Deep.DeepCutAuto
namespace Go.Proofs.YtgdlcnngplfjnaaDoor.Co
open Go.Shelf Go.ChangeShapes Go.WideShapes Go.ChangeAt Go.RowKit Go.Proofs.YtgdlcnngplfjnaaDoor.Vf
set_option linter.unusedVariables false
/-! ### known (8) -/
def K1 : Nat → Nat := fun i => if i = 0 then 26 else if i = 1 then 254 else 255
def K2 : Nat → Nat := fun i => if i = 0 then 2 else 255
theorem k1_rd : rdE 3 K1 0 = 0 ∧ rdC 3 K1 0 = #[.int .i64 26, .int .i64 (-2), .int .i64 0, .int .i64 3] := by
  refine ⟨by decide, ?_⟩
  unfold rdC
  rw [if_pos (by decide)]
  have h1 : opA K1 0 = -2 := by decide
  have h2 : opB K1 0 = 0 := by decide
  rw [h1, h2]
  rfl
theorem k2_tx : (rdR 2 K2).2 = 0 ∧ txS 2 K2 = [115, 109, 97, 108, 108, 32, 45, 49, 10] := by
  have h0 : (rdR 2 K2).2 = 0 := by decide
  refine ⟨h0, ?_⟩
  unfold txS
  rw [if_pos h0]
  have hb : begs 2 K2 2 0 = [0] := by decide
  rw [hb]
  have ha : opA K2 0 = -1 := by decide
  have hi : Lib.itoa (-1) = [45, 49] := by
    unfold Lib.itoa
    rw [if_pos (by decide)]
    have : (-1 : Int).natAbs = 1 := rfl
    rw [this, Lib.decDigits, dif_pos (by decide)]
    rfl
  unfold textP
  rw [List.flatMap_cons]
  unfold lineP
  rw [ha, hi]
  rfl
theorem code_of (w : World) (b n : Nat) (C : Array Value) (D : Nat → Nat) (h : Bx w b C 5) (hn : n ≤ 5000) (hD : ∀ i, i < n → D i < 256) (hC : ∀ i, i < n → C[i]? = some (.int .u8 (D i : Nat))) : CodeIn w (some ⟨b, 0, none⟩) n n D :=
  ⟨hn, Nat.le_refl _, hD, .inr ⟨b, 0, rfl, h.lt, fun i hi => by rw [Nat.zero_add]; exact (h.cell i).trans (hC i hi)⟩⟩
set_option maxRecDepth 100000 in
set_option maxHeartbeats 4000000 in
theorem known_c (w : World) (hT : Tbs w) : Calls Tryd.prog 8 #[] w fun e w' => e = .returned (.bool true) ∧ Below w.heap.size w w' := by
  have HR : Hid (Calls Tryd.prog 9 #[.slice (some ⟨w.heap.size, 0, none⟩) 3 3, .int .i64 0] (w.alloc (.cells #[.int .u8 26, .int .u8 254, .int .u8 255] 5)) fun e w' => e = .returned (.tuple #[.agg #[.int .i64 26, .int .i64 (-2), .int .i64 0, .int .i64 3], .int .i64 0]) ∧ Below (w.alloc (.cells #[.int .u8 26, .int .u8 254, .int .u8 255] 5)).heap.size (w.alloc (.cells #[.int .u8 26, .int .u8 254, .int .u8 255] 5)) w') := Lib.hid (by
    have h := cread_c (some ⟨w.heap.size, 0, none⟩) 3 3 K1 0 _ (code_of _ _ 3 _ K1 (Bx.new w #[.int .u8 26, .int .u8 254, .int .u8 255] 5) (by omega) (by intro i hi; unfold K1; split <;> (try split) <;> omega) (by
      intro i hi
      match i, hi with
      | 0, _ => rfl
      | 1, _ => rfl
      | 2, _ => rfl)) (by omega)
    rw [k1_rd.1, k1_rd.2] at h
    exact h)
  have HTx : Hid (∀ V, Below w.heap.size w V → Calls Tryd.prog 14 #[.slice (some ⟨V.heap.size, 0, none⟩) 2 2] (V.alloc (.cells #[.int .u8 2, .int .u8 255] 5)) fun e w' => e = .returned (.tuple #[.string ⟨#[115, 109, 97, 108, 108, 32, 45, 49, 10]⟩, .int .i64 0]) ∧ Below (V.alloc (.cells #[.int .u8 2, .int .u8 255] 5)).heap.size (V.alloc (.cells #[.int .u8 2, .int .u8 255] 5)) w') := Lib.hid fun V hV => by
    have h := text_c (some ⟨V.heap.size, 0, none⟩) 2 2 K2 _ (code_of _ _ 2 _ K2 (Bx.new V #[.int .u8 2, .int .u8 255] 5) (by omega) (by intro i hi; unfold K2; split <;> omega) (by
      intro i hi
      match i, hi with
      | 0, _ => rfl
      | 1, _ => rfl)) (hT.below (hV.alloc hV.size _))
    refine h.mono ?_
    rintro e w' ⟨rfl, hb⟩
    rw [k2_tx.1, k2_tx.2]
    exact ⟨rfl, hb⟩
  clear hT
  go_enter Tryd.func8, Tryd.ntmps8
  go_wp2_with (first | (go_at_call 9; refine HR.out.mono ?_; rintro e w1 ⟨rfl, hb1⟩))
  have HB1 : Hid (Below w.heap.size w (w1.alloc (.cells #[.int .i64 26, .int .i64 (-2), .int .i64 0, .int .i64 3] 25))) := Lib.hid (by
    have h0 : Below w.heap.size w w1 := ((Below.refl _ _).alloc (Nat.le_refl _) _).trans (hb1.mono (by simp))
    exact h0.alloc h0.size _)
  have HX1 : Hid (Bx (w1.alloc (.cells #[.int .i64 26, .int .i64 (-2), .int .i64 0, .int .i64 3] 25)) w1.heap.size #[.int .i64 26, .int .i64 (-2), .int .i64 0, .int .i64 3] 25) := Lib.hid (Bx.new _ _ _)
  have HT2 := Lib.hid (HTx.out _ HB1.out)
  rw [World.size_alloc] at HT2
  clear hb1
  refine HT2.out.mono ?_
  rintro e w2 ⟨rfl, hb2⟩
  have HB2 : Hid (Below w.heap.size w w2) := Lib.hid ((HB1.out.alloc HB1.out.size _).trans (hb2.mono (by rw [World.size_alloc]; have := HB1.out.size; omega)))
  have hx2 := (HX1.out.alloc (.cells #[.int .u8 2, .int .u8 255] 5)).below hb2
  have c0 : w2.cell? ⟨w1.heap.size, 0, none⟩ = some (.int .i64 26) := hx2.cell 0
  have c1 : w2.cell? ⟨w1.heap.size, 1, none⟩ = some (.int .i64 (-2)) := hx2.cell 1
  have c2 : w2.cell? ⟨w1.heap.size, 2, none⟩ = some (.int .i64 0) := hx2.cell 2
  have c3 : w2.cell? ⟨w1.heap.size, 3, none⟩ = some (.int .i64 3) := hx2.cell 3
  clear hb2 hx2
  go_wp2_with fail
  go_ret
  exact ⟨rfl, HB2.out⟩
end Go.Proofs.YtgdlcnngplfjnaaDoor.Co
