import Derived.Laws.BitsLemmas
import Derived.IntWalk
import Derived.Laws.BitsAllLaws
import Derived.Deep.DrawnRows
import Derived.Test.YtpiafgmncfibmaaWc
import Derived.Test.YtpiafgmncfibmaaRows
import Derived.WalkKit
import Derived.ProofKit
import Derived.OpenShut
import Derived.Deep.QuietTactic
import Derived.BigQuiet
import Derived.Outline
import Derived.WalkSmall
import Derived.WalkLawsBesides
import Derived.WalkSpells
import Derived.BigGuardPart
import Derived.RegionTactic
import Derived.Deep.RegionHeld3
import Derived.Lib.Hide
import Derived.Deep.MidRow
import Derived.Below
import Derived.Deep.RegionWith
import Derived.Deep.OwnRows
import Derived.Deep.AppendLies
import Derived.Deep.RegionLaw
import Derived.Deep.CutBlock
import Derived.Deep.DeepCutAuto
namespace Go.Proofs.Ytpiafgmncfibmaa.Vf
open Go.ChangeShapes Go.WideShapes Go.ChangeAt Go.RowKit
set_option linter.unusedVariables false

/-- The first program of known: a stack that does not agree. -/
def kP (sk : Int) (l : List Nat) : Pg := ⟨0, fun _ => 0, 0, fun _ => 0, fun _ _ => 0, fun _ _ => false, 1, fun _ => 0, fun _ _ => 0, fun _ => 0, fun _ => 0, fun _ _ => 0, fun _ => sk, fun _ => l.length, fun _ j => l.getD j 0⟩
def kA (b0 b1 n : Nat) : Ad := ⟨none, 0, none, 0, some ⟨b1, 0, none⟩, 1, fun _ => none, fun _ => 0, fun _ => none, fun _ => 0, fun _ => none, fun _ => 0, fun _ => some ⟨b0, 0, none⟩, fun _ => n⟩
theorem k1 : methR (kP 2 [2, 1, 26, 254, 255]) 0 = (2, 26) := by decide +kernel
theorem k2 : progR (kP 2 [2, 1, 40, 28]) = (0, 0, 0) := by decide +kernel
/-- A program of one method, as its literal makes it. -/
def kW (w : World) (sk : Int) (l : List Nat) : World :=
  ((w.alloc (.cells (l.map fun x => Value.int .u8 (x : Nat)).toArray 5)).alloc (.cells #[.slice none 0 0, .int .i64 0, .slice none 0 0, .int .i64 sk, .slice (some ⟨w.heap.size, 0, none⟩) l.length l.length] 50)).alloc (.cells #[.slice none 0 0, .slice none 0 0, .slice (some ⟨w.heap.size + 1, 0, none⟩) 1 1] 26)
structure KAt (w : World) (sk : Int) (l : List Nat) (V : World) : Prop where
  at' : PgAt V (kP sk l) (kA w.heap.size (w.heap.size + 1) l.length)
  bx : Bx V (w.heap.size + 1 + 1) #[.slice none 0 0, .slice none 0 0, .slice (some ⟨w.heap.size + 1, 0, none⟩) 1 1] 26
  b : Below w.heap.size w V
theorem kAt (w : World) (sk : Int) (l : List Nat) : KAt w sk l (kW w sk l) := by
  have h1 : Bx (kW w sk l) w.heap.size (l.map fun x => Value.int .u8 (x : Nat)).toArray 5 := by
    unfold kW
    exact ((Bx.new _ _ _).below ((Below.refl _ _).alloc (Nat.le_refl _) _)).below ((Below.refl _ _).alloc (Nat.le_refl _) _)
  have h2 : Bx (kW w sk l) (w.heap.size + 1) #[.slice none 0 0, .int .i64 0, .slice none 0 0, .int .i64 sk, .slice (some ⟨w.heap.size, 0, none⟩) l.length l.length] 50 := by
    unfold kW
    have := (Bx.new (w.alloc (.cells (l.map fun x => Value.int .u8 (x : Nat)).toArray 5)) #[.slice none 0 0, .int .i64 0, .slice none 0 0, .int .i64 sk, .slice (some ⟨w.heap.size, 0, none⟩) l.length l.length] 50)
    rw [World.size_alloc] at this
    exact this.below ((Below.refl _ _).alloc (Nat.le_refl _) _)
  have h3 : Bx (kW w sk l) (w.heap.size + 1 + 1) #[.slice none 0 0, .slice none 0 0, .slice (some ⟨w.heap.size + 1, 0, none⟩) 1 1] 26 := by
    unfold kW
    have := Bx.new ((w.alloc (.cells (l.map fun x => Value.int .u8 (x : Nat)).toArray 5)).alloc (.cells #[.slice none 0 0, .int .i64 0, .slice none 0 0, .int .i64 sk, .slice (some ⟨w.heap.size, 0, none⟩) l.length l.length] 50)) #[.slice none 0 0, .slice none 0 0, .slice (some ⟨w.heap.size + 1, 0, none⟩) 1 1] 26
    rw [World.size_alloc, World.size_alloc] at this
    exact this
  refine ⟨⟨.inl rfl, .inl rfl, fun i hi => absurd hi (Nat.not_lt_zero i), .inr ⟨w.heap.size + 1, 0, rfl, h2.lt, fun i hi => ?_⟩, fun i hi => .inl rfl, fun i hi => .inl rfl, fun i hi => .inr ⟨w.heap.size, 0, rfl, h1.lt, fun j hj => ?_⟩⟩, h3, ?_⟩
  · have : i = 0 := Nat.lt_one_iff.1 hi
    subst this
    exact ⟨h2.cell 0, h2.cell 1, h2.cell 2, h2.cell 3, h2.cell 4⟩
  · have hj2 : j < l.length := hj
    rw [Nat.zero_add, h1.cell]
    rw [List.getElem?_toArray, List.getElem?_map, List.getElem?_eq_getElem hj2]
    show some (Value.int .u8 ((l[j] : Nat) : Int)) = some (.int .u8 ((l.getD j 0 : Nat) : Int))
    rw [List.getD_eq_getElem?_getD, List.getElem?_eq_getElem hj2]
    rfl
  · unfold kW
    exact (((Below.refl _ _).alloc (Nat.le_refl _) _).alloc (by rw [World.size_alloc]; omega) _).alloc (by rw [World.size_alloc, World.size_alloc]; omega) _
theorem kFits {sk : Int} {l : List Nat} {b0 b1 : Nat} (h : ∀ x, x ∈ l → x < 256) (hl : l.length < 1000) : Fits (kP sk l) (kA b0 b1 l.length) := by
  refine ⟨Nat.zero_le _, Nat.zero_le _, by show 1 ≤ Big; unfold Big; omega, fun i hi => absurd hi (Nat.not_lt_zero i), fun i hi => Nat.zero_le _, fun i hi => Nat.zero_le _, fun i hi => Nat.zero_le _, fun i hi => by show l.length ≤ Big; unfold Big; omega, fun i j hi hj => ?_⟩
  have hj2 : j < l.length := hj
  show l.getD j 0 < 256
  rw [List.getD_eq_getElem?_getD, List.getElem?_eq_getElem hj2]
  exact h _ (List.getElem_mem hj2)
theorem kCaps {sk : Int} {l : List Nat} {b0 b1 : Nat} : Caps (kP sk l) (kA b0 b1 l.length) := ⟨Nat.le_refl _, fun i hi => Nat.le_refl _, fun i hi => Nat.le_refl _, fun i hi => Nat.le_refl _⟩
set_option maxRecDepth 100000 in
set_option maxHeartbeats 8000000 in
theorem known_c (w : World) : Calls Try.prog 23 #[] w fun e w' => e = .returned (.bool true) ∧ Below w.heap.size w w' := by
  have HK1 := Lib.hid (kAt w 2 [2, 1, 26, 254, 255])
  have HM := Lib.hid (Method_c _ _ 0 _ HK1.out.at' (kFits (by decide) (by decide)) kCaps)
  have HK2 : Hid (∀ W, KAt W 2 [2, 1, 40, 28] (kW W 2 [2, 1, 40, 28])) := Lib.hid fun W => kAt W 2 [2, 1, 40, 28]
  go_enter Try.func23, Try.ntmps23
  go_upto_region 2 with fail
  obtain ⟨W0, hW0⟩ : ∃ q, q = kW w 2 [2, 1, 26, 254, 255] := ⟨_, rfl⟩
  rw [← hW0] at HK1 HM
  have hW1 : W0 = (((w.alloc (.cells #[.int .u8 2, .int .u8 1, .int .u8 26, .int .u8 254, .int .u8 255] 5)).alloc (.cells #[.slice none 0 0, .int .i64 0, .slice none 0 0, .int .i64 2, .slice (some ⟨w.heap.size, 0, none⟩) 5 5] 50)).alloc (.cells #[.slice none 0 0, .slice none 0 0, .slice (some ⟨w.heap.size + 1, 0, none⟩) 1 1] 26)) := hW0
  rw [← hW1]
  clear hW0 hW1
  have x0 : W0.cell? ⟨w.heap.size + 1 + 1, 0, none⟩ = some (.slice none 0 0) := HK1.out.bx.cell 0
  have x1 : W0.cell? ⟨w.heap.size + 1 + 1, 1, none⟩ = some (.slice none 0 0) := HK1.out.bx.cell 1
  have x2 : W0.cell? ⟨w.heap.size + 1 + 1, 2, none⟩ = some (.slice (some ⟨w.heap.size + 1, 0, none⟩) 1 1) := HK1.out.bx.cell 2
  go_wp2_with fail
  clear x0 x1 x2
  refine HM.out.mono ?_
  rintro e W2 ⟨rfl, hb⟩
  rw [k1]
  have HB2 := Lib.hid (HK1.out.b.trans (hb.mono HK1.out.b.size))
  clear hb HM HK1
  have HK3 := Lib.hid (HK2.out W2)
  have HPr := Lib.hid (Program_c _ _ _ HK3.out.at' (kFits (by decide) (by decide)) kCaps)
  go_upto_region 4 with fail
  obtain ⟨W3, hW3⟩ : ∃ q, q = kW W2 2 [2, 1, 40, 28] := ⟨_, rfl⟩
  rw [← hW3] at HK3 HPr
  have hW4 : W3 = (((W2.alloc (.cells #[.int .u8 2, .int .u8 1, .int .u8 40, .int .u8 28] 5)).alloc (.cells #[.slice none 0 0, .int .i64 0, .slice none 0 0, .int .i64 2, .slice (some ⟨W2.heap.size, 0, none⟩) 4 4] 50)).alloc (.cells #[.slice none 0 0, .slice none 0 0, .slice (some ⟨W2.heap.size + 1, 0, none⟩) 1 1] 26)) := hW3
  rw [← hW4]
  clear hW3 hW4
  have x0 : W3.cell? ⟨W2.heap.size + 1 + 1, 0, none⟩ = some (.slice none 0 0) := HK3.out.bx.cell 0
  have x1 : W3.cell? ⟨W2.heap.size + 1 + 1, 1, none⟩ = some (.slice none 0 0) := HK3.out.bx.cell 1
  have x2 : W3.cell? ⟨W2.heap.size + 1 + 1, 2, none⟩ = some (.slice (some ⟨W2.heap.size + 1, 0, none⟩) 1 1) := HK3.out.bx.cell 2
  go_wp2_with fail
  clear x0 x1 x2
  refine HPr.out.mono ?_
  rintro e W5 ⟨rfl, hb⟩
  rw [k2]
  have HB3 := Lib.hid (HB2.out.trans ((HK3.out.b.trans (hb.mono HK3.out.b.size)).mono HB2.out.size))
  clear hb
  go_wp2
  go_ret
  exact ⟨rfl, HB3.out⟩
end Go.Proofs.Ytpiafgmncfibmaa.Vf
