import Derived.Test.YtgdlcnngplfjnaaDoorCb
import Derived.Test.YtgdlcnngplfjnaaDoorCd
import Derived.Test.YtgdlcnngplfjnaaDoorXa
import Derived.BigGuardPart
import Derived.LoopIn
import Derived.LoopNIn
import Derived.OwnWalkIn
import Derived.RangeFuncBound
import Derived.RangeFuncBox
import Derived.RangeFuncCalls
import Derived.RangeFuncLeaves
import Derived.RangeFuncNested
import Derived.Shelf.RegionOpen
import Derived.TacticsInMore
import Derived.Laws.BitsLemmas
import Derived.IntWalk
import Derived.Laws.BitsAllLaws
import Derived.Deep.DrawnRows
import Derived.WalkKit
import Derived.ProofKit
import Derived.OpenShut
import Derived.Deep.QuietTactic
import Derived.BigQuiet
import Derived.Outline
import Derived.WalkSmall
import Derived.WalkLawsBesides
import Derived.WalkSpells
import Derived.BigGuardPart
import Derived.RegionTactic
import Derived.Deep.RegionHeld3
import Derived.Lib.Hide
import Derived.Deep.MidRow
import Derived.Below
import Derived.Deep.RegionWith
import Derived.Deep.OwnRows
import Derived.Deep.AppendLies
import Derived.Deep.RegionLaw
import Derived.Deep.CutBlock
import Derived.Deep.DeepCutAuto
namespace Go.Proofs.YtgdlcnngplfjnaaDoor.Co
open Go.Shelf Go.ChangeShapes Go.WideShapes Go.ChangeAt Go.RowKit Go.Proofs.YtgdlcnngplfjnaaDoor.Vf
set_option linter.unusedVariables false
/-! ### The document's Write (18), Name (22), Kind (20) -/
theorem rin_c (z lo hi : Int) (w : World) : Calls Tryd.prog 43 #[.int .i64 z, .int .i64 lo, .int .i64 hi] w fun e w' => e = .returned (.bool (decide (lo ≤ z ∧ z ≤ hi))) ∧ w' = w := by
  by_cases h1 : lo ≤ z
  · have d1 : decide (lo ≤ z) = true := decide_eq_true h1
    by_cases h2 : z ≤ hi
    · have d2 : decide (z ≤ hi) = true := decide_eq_true h2
      rw [decide_eq_true (show lo ≤ z ∧ z ≤ hi from ⟨h1, h2⟩)]
      clear h1 h2
      go_enter Tryd.func43, Tryd.ntmps43
      go_wp2
      go_ret
      exact ⟨rfl, rfl⟩
    · have d2 : decide (z ≤ hi) = false := decide_eq_false h2
      rw [decide_eq_false (show ¬ (lo ≤ z ∧ z ≤ hi) from fun h => h2 h.2)]
      clear h1 h2
      go_enter Tryd.func43, Tryd.ntmps43
      go_wp2
      go_ret
      exact ⟨rfl, rfl⟩
  · have d1 : decide (lo ≤ z) = false := decide_eq_false h1
    rw [decide_eq_false (show ¬ (lo ≤ z ∧ z ≤ hi) from fun h => h1 h.1)]
    clear h1
    go_enter Tryd.func43, Tryd.ntmps43
    go_wp2
    go_ret
    exact ⟨rfl, rfl⟩
theorem rin_y (z lo hi : Int) (h : lo ≤ z ∧ z ≤ hi) (w : World) : Calls Tryd.prog 43 #[.int .i64 z, .int .i64 lo, .int .i64 hi] w fun e w' => e = .returned (.bool true) ∧ w' = w := decide_eq_true h ▸ rin_c z lo hi w
theorem rin_n (z lo hi : Int) (h : ¬ (lo ≤ z ∧ z ≤ hi)) (w : World) : Calls Tryd.prog 43 #[.int .i64 z, .int .i64 lo, .int .i64 hi] w fun e w' => e = .returned (.bool false) ∧ w' = w := decide_eq_false h ▸ rin_c z lo hi w
/-- The row of bytes, in the document's box. -/
theorem WrS.begin2 (w : World) (c a b sz : Int) (z : Int) : WrS w (.slice (some ⟨w.heap.size + 1, 0, none⟩) 1 1) [z] c a b sz ((w.alloc (.cells #[.int .i64 c, .int .i64 a, .int .i64 b, .int .i64 sz] 29)).alloc (.cells #[.int .u8 z] 5)) := by
  have h9 := heap_alloc_new (w.alloc (.cells #[.int .i64 c, .int .i64 a, .int .i64 b, .int .i64 sz] 29)) (.cells #[.int .u8 z] 5)
  rw [show (w.alloc (.cells #[.int .i64 c, .int .i64 a, .int .i64 b, .int .i64 sz] 29)).heap.size = w.heap.size + 1 by simp] at h9
  exact ⟨⟨rfl, .inr ⟨w.heap.size + 1, 1, #[.int .u8 z], rfl, by omega, h9, Nat.le_refl _, by decide, rfl, rfl⟩⟩, ((Below.refl _ _).alloc (Nat.le_refl _) _).alloc (by simp) _⟩
def WrN2 (w : World) (v : Value) (xs : List Int) (z y c a b sz : Int) (W : World) : Prop := ∃ v' W', (Builtin.append_ #[22, 22] 22 #[v, .slice (some ⟨W.heap.size, 0, none⟩) 2 2]).run Tryd.prog (W.alloc (.cells #[.int .u8 z, .int .u8 y] 5)) = .ok v' W' ∧ WrS w v' (xs ++ [z, y]) c a b sz W'
theorem WrS.next2 {w : World} {v : Value} {xs : List Int} {c a b sz : Int} {W : World} (h : WrS w v xs c a b sz W) (hn : xs.length ≤ 90000) (z y : Int) : WrN2 w v xs z y c a b sz W := by
  have hI : Bys (W.alloc (.cells #[.int .u8 z, .int .u8 y] 5)) (some ⟨W.heap.size, 0, none⟩) [z, y] := .inr ⟨W.heap.size, 0, rfl, by rw [World.size_alloc]; exact Nat.lt_succ_self _, fun i hi => by
    match i, hi with
    | 0, _ => exact (Bx.new W #[.int .u8 z, .int .u8 y] 5).cell 0
    | 1, _ => exact (Bx.new W #[.int .u8 z, .int .u8 y] 5).cell 1⟩
  obtain ⟨v', W', h1, h2, h3, h4⟩ := app_bys (W.alloc (.cells #[.int .u8 z, .int .u8 y] 5)) w.heap.size xs.length v xs [z, y] (some ⟨W.heap.size, 0, none⟩) 2 (own_alloc2 h.o _) hI (by simp; omega) (by rw [World.size_alloc]; have := h.b.size; omega)
  refine ⟨v', W', h1, ⟨by rw [List.length_append]; exact h2, h.b.trans (((Below.refl _ _).alloc h.b.size _).trans (own_below (own_alloc2 h.o _) (by rw [World.size_alloc]; have := h.b.size; omega) h3))⟩⟩
set_option maxRecDepth 100000 in
set_option maxHeartbeats 4000000 in
theorem rw1n (c a b sz : Int) (w : World) (hc : 0 ≤ c ∧ c < 41) (hk : kindO c = 1) (ha : ¬ (0 ≤ a ∧ a ≤ 255)) : Calls Tryd.prog 18 #[.agg #[.int .i64 c, .int .i64 a, .int .i64 b, .int .i64 sz]] w (WrR c a b w) := by
  have HE : Hid (∀ W, Below w.heap.size w W → WrR c a b w (.returned (.tuple #[.slice none 0 0, .int .i64 1])) W) := Lib.hid fun W hW => WrR.bad 1 (by unfold wrE; rw [if_neg (by omega), hk]; simp; try omega) (by decide) hW
  have hop : ∀ V, Calls Tryd.prog 31 #[.int .i64 c] V fun e w' => e = .returned (.string ⟨#[117]⟩) ∧ w' = V := fun V => by
    have h := Vf.operands_c c.toNat (by omega) V
    rw [show ((c.toNat : Nat) : Int) = c by omega, hk] at h
    exact h
  have HO := Lib.hid hop
  clear hop
  have HI0 : Hid (∀ V, Calls Tryd.prog 43 #[.int .i64 a, .int .i64 (0), .int .i64 255] V fun e w' => e = .returned (.bool false) ∧ w' = V) := Lib.hid fun V => rin_n _ _ _ (by omega) V
  have dc1 : decide (c < 0) = false := decide_eq_false (by omega)
  have dc2 : decide (40 < c) = false := decide_eq_false (by omega)
  generalize hQ : WrR c a b w = Q at HE ⊢
  have HB := Lib.hid (WrS.begin2 w c a b sz)
  go_enter Tryd.func18, Tryd.ntmps18
  go_wp2_with (first | (go_at_call 31; refine (HO.out _).mono ?_; rintro e w2 ⟨rfl, hw⟩; obtain rfl := hw.symm) | (go_at_call 43; refine (HI0.out _).mono ?_; rintro e w2 ⟨rfl, hw⟩; obtain rfl := hw.symm))
  exact HE.out _ (HB.out c).b
set_option maxRecDepth 100000 in
set_option maxHeartbeats 4000000 in
theorem rw1x (c a b sz : Int) (w : World) (hc : 0 ≤ c ∧ c < 41) (hk : kindO c = 1) (ha : 0 ≤ a ∧ a ≤ 255) (hb : b ≠ 0) : Calls Tryd.prog 18 #[.agg #[.int .i64 c, .int .i64 a, .int .i64 b, .int .i64 sz]] w (WrR c a b w) := by
  have HE : Hid (∀ W, Below w.heap.size w W → WrR c a b w (.returned (.tuple #[.slice none 0 0, .int .i64 1])) W) := Lib.hid fun W hW => WrR.bad 1 (by unfold wrE; rw [if_neg (by omega), hk]; simp; try omega) (by decide) hW
  have hop : ∀ V, Calls Tryd.prog 31 #[.int .i64 c] V fun e w' => e = .returned (.string ⟨#[117]⟩) ∧ w' = V := fun V => by
    have h := Vf.operands_c c.toNat (by omega) V
    rw [show ((c.toNat : Nat) : Int) = c by omega, hk] at h
    exact h
  have HO := Lib.hid hop
  clear hop
  have HI0 : Hid (∀ V, Calls Tryd.prog 43 #[.int .i64 a, .int .i64 (0), .int .i64 255] V fun e w' => e = .returned (.bool true) ∧ w' = V) := Lib.hid fun V => rin_y _ _ _ (by omega) V
  have dn1 : (b != 0) = true := by simpa using hb
  have dc1 : decide (c < 0) = false := decide_eq_false (by omega)
  have dc2 : decide (40 < c) = false := decide_eq_false (by omega)
  generalize hQ : WrR c a b w = Q at HE ⊢
  have HB := Lib.hid (WrS.begin2 w c a b sz)
  go_enter Tryd.func18, Tryd.ntmps18
  go_wp2_with (first | (go_at_call 31; refine (HO.out _).mono ?_; rintro e w2 ⟨rfl, hw⟩; obtain rfl := hw.symm) | (go_at_call 43; refine (HI0.out _).mono ?_; rintro e w2 ⟨rfl, hw⟩; obtain rfl := hw.symm))
  exact HE.out _ (HB.out c).b
set_option maxRecDepth 100000 in
set_option maxHeartbeats 4000000 in
theorem rw1 (c a b sz : Int) (w : World) (hc : 0 ≤ c ∧ c < 41) (hk : kindO c = 1) (ha : 0 ≤ a ∧ a ≤ 255) (hb : b = 0) : Calls Tryd.prog 18 #[.agg #[.int .i64 c, .int .i64 a, .int .i64 b, .int .i64 sz]] w (WrR c a b w) := by
  subst hb
  have HE : wrE c a 0 = 0 := by unfold wrE; rw [if_neg (by omega), hk]; simp; try omega
  have HL : wrL c a 0 = c :: (if 1 = 0 then [] else if 1 = 3 then [(a : Int) % 256, (a : Int) / 256 % 256] else if 1 = 4 then [a, 0] else [(a : Int) % 256]) := by unfold wrL; rw [hk]
  have HEL := Lib.hid (And.intro HE HL)
  clear HE HL
  have hop : ∀ V, Calls Tryd.prog 31 #[.int .i64 c] V fun e w' => e = .returned (.string ⟨#[117]⟩) ∧ w' = V := fun V => by
    have h := Vf.operands_c c.toNat (by omega) V
    rw [show ((c.toNat : Nat) : Int) = c by omega, hk] at h
    exact h
  have HO := Lib.hid hop
  clear hop
  have HI0 : Hid (∀ V, Calls Tryd.prog 43 #[.int .i64 a, .int .i64 (0), .int .i64 255] V fun e w' => e = .returned (.bool true) ∧ w' = V) := Lib.hid fun V => rin_y _ _ _ (by omega) V
  have dc1 : decide (c < 0) = false := decide_eq_false (by omega)
  have dc2 : decide (40 < c) = false := decide_eq_false (by omega)
  generalize hQ : WrR c a 0 w = Q
  have HB := Lib.hid (WrS.begin2 w c a 0 sz)
  go_enter Tryd.func18, Tryd.ntmps18
  go_upto_region 8 with (first | (go_at_call 31; refine (HO.out _).mono ?_; rintro e w2 ⟨rfl, hw⟩; obtain rfl := hw.symm) | (go_at_call 43; refine (HI0.out _).mono ?_; rintro e w2 ⟨rfl, hw⟩; obtain rfl := hw.symm))
  have HS := Lib.hid (HB.out c)
  have hbx : Bx ((w.alloc (.cells #[.int .i64 c, .int .i64 a, .int .i64 0, .int .i64 sz] 29)).alloc (.cells #[.int .u8 c] 5)) w.heap.size #[.int .i64 c, .int .i64 a, .int .i64 0, .int .i64 sz] 29 := (Bx.new w _ _).alloc _
  have z1 := hbx.cell 1
  have z2 := hbx.cell 2
  clear hbx
  replace z1 : _ = some (Value.int .i64 (a : Int)) := z1
  replace z2 : _ = some (Value.int .i64 (0 : Int)) := z2
  generalize ((w.alloc (.cells #[.int .i64 c, .int .i64 a, .int .i64 0, .int .i64 sz] 29)).alloc (.cells #[.int .u8 c] 5)) = W0 at HS z1 z2 ⊢
  generalize Value.slice (some ⟨w.heap.size + 1, 0, none⟩) 1 1 = v0 at HS ⊢
  obtain ⟨v1, W1, hr, hs⟩ := HS.out.next (by show (1 : Nat) ≤ 90000; decide) (a)
  replace HS := Lib.hid hs
  have HR1 := Lib.hid hr
  clear hs hr
  go_wp2_with (first | (at_builtin; refine Lib.wpList_append_run _ rfl _ _ _ _ rfl _ _ rfl rfl _ _ HR1.out ?_))
  rw [← hQ]
  exact HS.out.fin HEL.out.1 (HEL.out.2.trans (by rw [show a % 256 = a from WrapU8 a (by omega)]; rfl))
set_option maxRecDepth 100000 in
set_option maxHeartbeats 4000000 in
theorem rw2n (c a b sz : Int) (w : World) (hc : 0 ≤ c ∧ c < 41) (hk : kindO c = 2) (ha : ¬ (-128 ≤ a ∧ a ≤ 127)) : Calls Tryd.prog 18 #[.agg #[.int .i64 c, .int .i64 a, .int .i64 b, .int .i64 sz]] w (WrR c a b w) := by
  have HE : Hid (∀ W, Below w.heap.size w W → WrR c a b w (.returned (.tuple #[.slice none 0 0, .int .i64 1])) W) := Lib.hid fun W hW => WrR.bad 1 (by unfold wrE; rw [if_neg (by omega), hk]; simp; try omega) (by decide) hW
  have hop : ∀ V, Calls Tryd.prog 31 #[.int .i64 c] V fun e w' => e = .returned (.string ⟨#[115]⟩) ∧ w' = V := fun V => by
    have h := Vf.operands_c c.toNat (by omega) V
    rw [show ((c.toNat : Nat) : Int) = c by omega, hk] at h
    exact h
  have HO := Lib.hid hop
  clear hop
  have HI0 : Hid (∀ V, Calls Tryd.prog 43 #[.int .i64 a, .int .i64 (-128), .int .i64 127] V fun e w' => e = .returned (.bool false) ∧ w' = V) := Lib.hid fun V => rin_n _ _ _ (by omega) V
  have dc1 : decide (c < 0) = false := decide_eq_false (by omega)
  have dc2 : decide (40 < c) = false := decide_eq_false (by omega)
  generalize hQ : WrR c a b w = Q at HE ⊢
  have HB := Lib.hid (WrS.begin2 w c a b sz)
  go_enter Tryd.func18, Tryd.ntmps18
  go_wp2_with (first | (go_at_call 31; refine (HO.out _).mono ?_; rintro e w2 ⟨rfl, hw⟩; obtain rfl := hw.symm) | (go_at_call 43; refine (HI0.out _).mono ?_; rintro e w2 ⟨rfl, hw⟩; obtain rfl := hw.symm))
  exact HE.out _ (HB.out c).b
set_option maxRecDepth 100000 in
set_option maxHeartbeats 4000000 in
theorem rw2x (c a b sz : Int) (w : World) (hc : 0 ≤ c ∧ c < 41) (hk : kindO c = 2) (ha : -128 ≤ a ∧ a ≤ 127) (hb : b ≠ 0) : Calls Tryd.prog 18 #[.agg #[.int .i64 c, .int .i64 a, .int .i64 b, .int .i64 sz]] w (WrR c a b w) := by
  have HE : Hid (∀ W, Below w.heap.size w W → WrR c a b w (.returned (.tuple #[.slice none 0 0, .int .i64 1])) W) := Lib.hid fun W hW => WrR.bad 1 (by unfold wrE; rw [if_neg (by omega), hk]; simp; try omega) (by decide) hW
  have hop : ∀ V, Calls Tryd.prog 31 #[.int .i64 c] V fun e w' => e = .returned (.string ⟨#[115]⟩) ∧ w' = V := fun V => by
    have h := Vf.operands_c c.toNat (by omega) V
    rw [show ((c.toNat : Nat) : Int) = c by omega, hk] at h
    exact h
  have HO := Lib.hid hop
  clear hop
  have HI0 : Hid (∀ V, Calls Tryd.prog 43 #[.int .i64 a, .int .i64 (-128), .int .i64 127] V fun e w' => e = .returned (.bool true) ∧ w' = V) := Lib.hid fun V => rin_y _ _ _ (by omega) V
  have dn1 : (b != 0) = true := by simpa using hb
  have dc1 : decide (c < 0) = false := decide_eq_false (by omega)
  have dc2 : decide (40 < c) = false := decide_eq_false (by omega)
  generalize hQ : WrR c a b w = Q at HE ⊢
  have HB := Lib.hid (WrS.begin2 w c a b sz)
  go_enter Tryd.func18, Tryd.ntmps18
  go_wp2_with (first | (go_at_call 31; refine (HO.out _).mono ?_; rintro e w2 ⟨rfl, hw⟩; obtain rfl := hw.symm) | (go_at_call 43; refine (HI0.out _).mono ?_; rintro e w2 ⟨rfl, hw⟩; obtain rfl := hw.symm))
  exact HE.out _ (HB.out c).b
set_option maxRecDepth 100000 in
set_option maxHeartbeats 4000000 in
theorem rw2 (c a b sz : Int) (w : World) (hc : 0 ≤ c ∧ c < 41) (hk : kindO c = 2) (ha : -128 ≤ a ∧ a ≤ 127) (hb : b = 0) : Calls Tryd.prog 18 #[.agg #[.int .i64 c, .int .i64 a, .int .i64 b, .int .i64 sz]] w (WrR c a b w) := by
  subst hb
  have HE : wrE c a 0 = 0 := by unfold wrE; rw [if_neg (by omega), hk]; simp; try omega
  have HL : wrL c a 0 = c :: (if 2 = 0 then [] else if 2 = 3 then [(a : Int) % 256, (a : Int) / 256 % 256] else if 2 = 4 then [a, 0] else [(a : Int) % 256]) := by unfold wrL; rw [hk]
  have HEL := Lib.hid (And.intro HE HL)
  clear HE HL
  have hop : ∀ V, Calls Tryd.prog 31 #[.int .i64 c] V fun e w' => e = .returned (.string ⟨#[115]⟩) ∧ w' = V := fun V => by
    have h := Vf.operands_c c.toNat (by omega) V
    rw [show ((c.toNat : Nat) : Int) = c by omega, hk] at h
    exact h
  have HO := Lib.hid hop
  clear hop
  have HI0 : Hid (∀ V, Calls Tryd.prog 43 #[.int .i64 a, .int .i64 (-128), .int .i64 127] V fun e w' => e = .returned (.bool true) ∧ w' = V) := Lib.hid fun V => rin_y _ _ _ (by omega) V
  have dc1 : decide (c < 0) = false := decide_eq_false (by omega)
  have dc2 : decide (40 < c) = false := decide_eq_false (by omega)
  generalize hQ : WrR c a 0 w = Q
  have HB := Lib.hid (WrS.begin2 w c a 0 sz)
  go_enter Tryd.func18, Tryd.ntmps18
  go_upto_region 12 with (first | (go_at_call 31; refine (HO.out _).mono ?_; rintro e w2 ⟨rfl, hw⟩; obtain rfl := hw.symm) | (go_at_call 43; refine (HI0.out _).mono ?_; rintro e w2 ⟨rfl, hw⟩; obtain rfl := hw.symm))
  have HS := Lib.hid (HB.out c)
  have hbx : Bx ((w.alloc (.cells #[.int .i64 c, .int .i64 a, .int .i64 0, .int .i64 sz] 29)).alloc (.cells #[.int .u8 c] 5)) w.heap.size #[.int .i64 c, .int .i64 a, .int .i64 0, .int .i64 sz] 29 := (Bx.new w _ _).alloc _
  have z1 := hbx.cell 1
  have z2 := hbx.cell 2
  clear hbx
  replace z1 : _ = some (Value.int .i64 (a : Int)) := z1
  replace z2 : _ = some (Value.int .i64 (0 : Int)) := z2
  generalize ((w.alloc (.cells #[.int .i64 c, .int .i64 a, .int .i64 0, .int .i64 sz] 29)).alloc (.cells #[.int .u8 c] 5)) = W0 at HS z1 z2 ⊢
  generalize Value.slice (some ⟨w.heap.size + 1, 0, none⟩) 1 1 = v0 at HS ⊢
  obtain ⟨v1, W1, hr, hs⟩ := HS.out.next (by show (1 : Nat) ≤ 90000; decide) (IntKind.u8.wrap a)
  replace HS := Lib.hid hs
  have HR1 := Lib.hid hr
  clear hs hr
  go_wp2_with (first | (at_builtin; refine Lib.wpList_append_run _ rfl _ _ _ _ rfl _ _ rfl rfl _ _ HR1.out ?_))
  rw [← hQ]
  exact HS.out.fin HEL.out.1 (HEL.out.2.trans rfl)
set_option maxRecDepth 100000 in
set_option maxHeartbeats 4000000 in
theorem rw3n (c a b sz : Int) (w : World) (hc : 0 ≤ c ∧ c < 41) (hk : kindO c = 3) (ha : ¬ (-32768 ≤ a ∧ a ≤ 32767)) : Calls Tryd.prog 18 #[.agg #[.int .i64 c, .int .i64 a, .int .i64 b, .int .i64 sz]] w (WrR c a b w) := by
  have HE : Hid (∀ W, Below w.heap.size w W → WrR c a b w (.returned (.tuple #[.slice none 0 0, .int .i64 1])) W) := Lib.hid fun W hW => WrR.bad 1 (by unfold wrE; rw [if_neg (by omega), hk]; simp; try omega) (by decide) hW
  have hop : ∀ V, Calls Tryd.prog 31 #[.int .i64 c] V fun e w' => e = .returned (.string ⟨#[111]⟩) ∧ w' = V := fun V => by
    have h := Vf.operands_c c.toNat (by omega) V
    rw [show ((c.toNat : Nat) : Int) = c by omega, hk] at h
    exact h
  have HO := Lib.hid hop
  clear hop
  have HI0 : Hid (∀ V, Calls Tryd.prog 43 #[.int .i64 a, .int .i64 (-32768), .int .i64 32767] V fun e w' => e = .returned (.bool false) ∧ w' = V) := Lib.hid fun V => rin_n _ _ _ (by omega) V
  have dc1 : decide (c < 0) = false := decide_eq_false (by omega)
  have dc2 : decide (40 < c) = false := decide_eq_false (by omega)
  generalize hQ : WrR c a b w = Q at HE ⊢
  have HB := Lib.hid (WrS.begin2 w c a b sz)
  go_enter Tryd.func18, Tryd.ntmps18
  go_wp2_with (first | (go_at_call 31; refine (HO.out _).mono ?_; rintro e w2 ⟨rfl, hw⟩; obtain rfl := hw.symm) | (go_at_call 43; refine (HI0.out _).mono ?_; rintro e w2 ⟨rfl, hw⟩; obtain rfl := hw.symm))
  exact HE.out _ (HB.out c).b
set_option maxRecDepth 100000 in
set_option maxHeartbeats 4000000 in
theorem rw3x (c a b sz : Int) (w : World) (hc : 0 ≤ c ∧ c < 41) (hk : kindO c = 3) (ha : -32768 ≤ a ∧ a ≤ 32767) (hb : b ≠ 0) : Calls Tryd.prog 18 #[.agg #[.int .i64 c, .int .i64 a, .int .i64 b, .int .i64 sz]] w (WrR c a b w) := by
  have HE : Hid (∀ W, Below w.heap.size w W → WrR c a b w (.returned (.tuple #[.slice none 0 0, .int .i64 1])) W) := Lib.hid fun W hW => WrR.bad 1 (by unfold wrE; rw [if_neg (by omega), hk]; simp; try omega) (by decide) hW
  have hop : ∀ V, Calls Tryd.prog 31 #[.int .i64 c] V fun e w' => e = .returned (.string ⟨#[111]⟩) ∧ w' = V := fun V => by
    have h := Vf.operands_c c.toNat (by omega) V
    rw [show ((c.toNat : Nat) : Int) = c by omega, hk] at h
    exact h
  have HO := Lib.hid hop
  clear hop
  have HI0 : Hid (∀ V, Calls Tryd.prog 43 #[.int .i64 a, .int .i64 (-32768), .int .i64 32767] V fun e w' => e = .returned (.bool true) ∧ w' = V) := Lib.hid fun V => rin_y _ _ _ (by omega) V
  have dn1 : (b != 0) = true := by simpa using hb
  have dc1 : decide (c < 0) = false := decide_eq_false (by omega)
  have dc2 : decide (40 < c) = false := decide_eq_false (by omega)
  generalize hQ : WrR c a b w = Q at HE ⊢
  have HB := Lib.hid (WrS.begin2 w c a b sz)
  go_enter Tryd.func18, Tryd.ntmps18
  go_wp2_with (first | (go_at_call 31; refine (HO.out _).mono ?_; rintro e w2 ⟨rfl, hw⟩; obtain rfl := hw.symm) | (go_at_call 43; refine (HI0.out _).mono ?_; rintro e w2 ⟨rfl, hw⟩; obtain rfl := hw.symm))
  exact HE.out _ (HB.out c).b
set_option maxRecDepth 100000 in
set_option maxHeartbeats 4000000 in
theorem rw3 (c a b sz : Int) (w : World) (hc : 0 ≤ c ∧ c < 41) (hk : kindO c = 3) (ha : -32768 ≤ a ∧ a ≤ 32767) (hb : b = 0) : Calls Tryd.prog 18 #[.agg #[.int .i64 c, .int .i64 a, .int .i64 b, .int .i64 sz]] w (WrR c a b w) := by
  subst hb
  have HE : wrE c a 0 = 0 := by unfold wrE; rw [if_neg (by omega), hk]; simp; try omega
  have HL : wrL c a 0 = c :: (if 3 = 0 then [] else if 3 = 3 then [(a : Int) % 256, (a : Int) / 256 % 256] else if 3 = 4 then [a, 0] else [(a : Int) % 256]) := by unfold wrL; rw [hk]
  have HEL := Lib.hid (And.intro HE HL)
  clear HE HL
  have hop : ∀ V, Calls Tryd.prog 31 #[.int .i64 c] V fun e w' => e = .returned (.string ⟨#[111]⟩) ∧ w' = V := fun V => by
    have h := Vf.operands_c c.toNat (by omega) V
    rw [show ((c.toNat : Nat) : Int) = c by omega, hk] at h
    exact h
  have HO := Lib.hid hop
  clear hop
  have HI0 : Hid (∀ V, Calls Tryd.prog 43 #[.int .i64 a, .int .i64 (-32768), .int .i64 32767] V fun e w' => e = .returned (.bool true) ∧ w' = V) := Lib.hid fun V => rin_y _ _ _ (by omega) V
  have dc1 : decide (c < 0) = false := decide_eq_false (by omega)
  have dc2 : decide (40 < c) = false := decide_eq_false (by omega)
  generalize hQ : WrR c a 0 w = Q
  have HB := Lib.hid (WrS.begin2 w c a 0 sz)
  go_enter Tryd.func18, Tryd.ntmps18
  go_upto_region 16 with (first | (go_at_call 31; refine (HO.out _).mono ?_; rintro e w2 ⟨rfl, hw⟩; obtain rfl := hw.symm) | (go_at_call 43; refine (HI0.out _).mono ?_; rintro e w2 ⟨rfl, hw⟩; obtain rfl := hw.symm))
  have HS := Lib.hid (HB.out c)
  have hbx : Bx ((w.alloc (.cells #[.int .i64 c, .int .i64 a, .int .i64 0, .int .i64 sz] 29)).alloc (.cells #[.int .u8 c] 5)) w.heap.size #[.int .i64 c, .int .i64 a, .int .i64 0, .int .i64 sz] 29 := (Bx.new w _ _).alloc _
  have z1 := hbx.cell 1
  have z2 := hbx.cell 2
  clear hbx
  replace z1 : _ = some (Value.int .i64 (a : Int)) := z1
  replace z2 : _ = some (Value.int .i64 (0 : Int)) := z2
  generalize ((w.alloc (.cells #[.int .i64 c, .int .i64 a, .int .i64 0, .int .i64 sz] 29)).alloc (.cells #[.int .u8 c] 5)) = W0 at HS z1 z2 ⊢
  generalize Value.slice (some ⟨w.heap.size + 1, 0, none⟩) 1 1 = v0 at HS ⊢
  obtain ⟨v1, W1, hr, hs⟩ := HS.out.next2 (by show (1 : Nat) ≤ 90000; decide) (IntKind.u8.wrap a) (a / 256 % 256)
  replace HS := Lib.hid hs
  have HR1 := Lib.hid hr
  clear hs hr
  go_wp2_with (first | (at_builtin; refine Lib.wpList_append_run _ rfl _ _ _ _ rfl _ _ rfl rfl _ _ HR1.out ?_))
  rw [← hQ]
  exact HS.out.fin HEL.out.1 (HEL.out.2.trans rfl)
set_option maxRecDepth 100000 in
set_option maxHeartbeats 4000000 in
theorem rw4n (c a b sz : Int) (w : World) (hc : 0 ≤ c ∧ c < 41) (hk : kindO c = 4) (ha : ¬ (0 ≤ a ∧ a ≤ 255)) : Calls Tryd.prog 18 #[.agg #[.int .i64 c, .int .i64 a, .int .i64 b, .int .i64 sz]] w (WrR c a b w) := by
  have HE : Hid (∀ W, Below w.heap.size w W → WrR c a b w (.returned (.tuple #[.slice none 0 0, .int .i64 1])) W) := Lib.hid fun W hW => WrR.bad 1 (by unfold wrE; rw [if_neg (by omega), hk]; simp; try omega) (by decide) hW
  have hop : ∀ V, Calls Tryd.prog 31 #[.int .i64 c] V fun e w' => e = .returned (.string ⟨#[117, 117]⟩) ∧ w' = V := fun V => by
    have h := Vf.operands_c c.toNat (by omega) V
    rw [show ((c.toNat : Nat) : Int) = c by omega, hk] at h
    exact h
  have HO := Lib.hid hop
  clear hop
  have HI0 : Hid (∀ V, Calls Tryd.prog 43 #[.int .i64 a, .int .i64 (0), .int .i64 255] V fun e w' => e = .returned (.bool false) ∧ w' = V) := Lib.hid fun V => rin_n _ _ _ (by omega) V
  have dc1 : decide (c < 0) = false := decide_eq_false (by omega)
  have dc2 : decide (40 < c) = false := decide_eq_false (by omega)
  generalize hQ : WrR c a b w = Q at HE ⊢
  have HB := Lib.hid (WrS.begin2 w c a b sz)
  go_enter Tryd.func18, Tryd.ntmps18
  go_wp2_with (first | (go_at_call 31; refine (HO.out _).mono ?_; rintro e w2 ⟨rfl, hw⟩; obtain rfl := hw.symm) | (go_at_call 43; refine (HI0.out _).mono ?_; rintro e w2 ⟨rfl, hw⟩; obtain rfl := hw.symm))
  exact HE.out _ (HB.out c).b
set_option maxRecDepth 100000 in
set_option maxHeartbeats 4000000 in
theorem rw4m (c a b sz : Int) (w : World) (hc : 0 ≤ c ∧ c < 41) (hk : kindO c = 4) (ha : 0 ≤ a ∧ a ≤ 255) (hb : ¬ (0 ≤ b ∧ b ≤ 255)) : Calls Tryd.prog 18 #[.agg #[.int .i64 c, .int .i64 a, .int .i64 b, .int .i64 sz]] w (WrR c a b w) := by
  have HE : Hid (∀ W, Below w.heap.size w W → WrR c a b w (.returned (.tuple #[.slice none 0 0, .int .i64 1])) W) := Lib.hid fun W hW => WrR.bad 1 (by unfold wrE; rw [if_neg (by omega), hk]; simp; try omega) (by decide) hW
  have hop : ∀ V, Calls Tryd.prog 31 #[.int .i64 c] V fun e w' => e = .returned (.string ⟨#[117, 117]⟩) ∧ w' = V := fun V => by
    have h := Vf.operands_c c.toNat (by omega) V
    rw [show ((c.toNat : Nat) : Int) = c by omega, hk] at h
    exact h
  have HO := Lib.hid hop
  clear hop
  have HI0 : Hid (∀ V, Calls Tryd.prog 43 #[.int .i64 a, .int .i64 (0), .int .i64 255] V fun e w' => e = .returned (.bool true) ∧ w' = V) := Lib.hid fun V => rin_y _ _ _ (by omega) V
  have HI1 : Hid (∀ V, Calls Tryd.prog 43 #[.int .i64 b, .int .i64 (0), .int .i64 255] V fun e w' => e = .returned (.bool false) ∧ w' = V) := Lib.hid fun V => rin_n _ _ _ (by omega) V
  have dc1 : decide (c < 0) = false := decide_eq_false (by omega)
  have dc2 : decide (40 < c) = false := decide_eq_false (by omega)
  generalize hQ : WrR c a b w = Q at HE ⊢
  have HB := Lib.hid (WrS.begin2 w c a b sz)
  go_enter Tryd.func18, Tryd.ntmps18
  go_wp2_with (first | (go_at_call 31; refine (HO.out _).mono ?_; rintro e w2 ⟨rfl, hw⟩; obtain rfl := hw.symm))
  refine (HI0.out _).mono ?_
  rintro e w2 ⟨rfl, hw⟩
  obtain rfl := hw.symm
  go_wp2_with fail
  refine (HI1.out _).mono ?_
  rintro e w2 ⟨rfl, hw⟩
  obtain rfl := hw.symm
  go_wp2_with (first | fail)
  exact HE.out _ (HB.out c).b
set_option maxRecDepth 100000 in
set_option maxHeartbeats 4000000 in
theorem rw4 (c a b sz : Int) (w : World) (hc : 0 ≤ c ∧ c < 41) (hk : kindO c = 4) (ha : 0 ≤ a ∧ a ≤ 255) (hb : 0 ≤ b ∧ b ≤ 255) : Calls Tryd.prog 18 #[.agg #[.int .i64 c, .int .i64 a, .int .i64 b, .int .i64 sz]] w (WrR c a b w) := by
  have HE : wrE c a b = 0 := by unfold wrE; rw [if_neg (by omega), hk]; simp; try omega
  have HL : wrL c a b = c :: (if 4 = 0 then [] else if 4 = 3 then [(a : Int) % 256, (a : Int) / 256 % 256] else if 4 = 4 then [a, b] else [(a : Int) % 256]) := by unfold wrL; rw [hk]
  have HEL := Lib.hid (And.intro HE HL)
  clear HE HL
  have hop : ∀ V, Calls Tryd.prog 31 #[.int .i64 c] V fun e w' => e = .returned (.string ⟨#[117, 117]⟩) ∧ w' = V := fun V => by
    have h := Vf.operands_c c.toNat (by omega) V
    rw [show ((c.toNat : Nat) : Int) = c by omega, hk] at h
    exact h
  have HO := Lib.hid hop
  clear hop
  have HI0 : Hid (∀ V, Calls Tryd.prog 43 #[.int .i64 a, .int .i64 (0), .int .i64 255] V fun e w' => e = .returned (.bool true) ∧ w' = V) := Lib.hid fun V => rin_y _ _ _ (by omega) V
  have HI1 : Hid (∀ V, Calls Tryd.prog 43 #[.int .i64 b, .int .i64 (0), .int .i64 255] V fun e w' => e = .returned (.bool true) ∧ w' = V) := Lib.hid fun V => rin_y _ _ _ (by omega) V
  have dc1 : decide (c < 0) = false := decide_eq_false (by omega)
  have dc2 : decide (40 < c) = false := decide_eq_false (by omega)
  generalize hQ : WrR c a b w = Q
  have HB := Lib.hid (WrS.begin2 w c a b sz)
  go_enter Tryd.func18, Tryd.ntmps18
  go_wp2_with (first | (go_at_call 31; refine (HO.out _).mono ?_; rintro e w2 ⟨rfl, hw⟩; obtain rfl := hw.symm))
  refine (HI0.out _).mono ?_
  rintro e w2 ⟨rfl, hw⟩
  obtain rfl := hw.symm
  go_wp2_with fail
  refine (HI1.out _).mono ?_
  rintro e w2 ⟨rfl, hw⟩
  obtain rfl := hw.symm
  go_upto_region 20 with (first | fail)
  have HS := Lib.hid (HB.out c)
  have hbx : Bx ((w.alloc (.cells #[.int .i64 c, .int .i64 a, .int .i64 b, .int .i64 sz] 29)).alloc (.cells #[.int .u8 c] 5)) w.heap.size #[.int .i64 c, .int .i64 a, .int .i64 b, .int .i64 sz] 29 := (Bx.new w _ _).alloc _
  have z1 := hbx.cell 1
  have z2 := hbx.cell 2
  clear hbx
  replace z1 : _ = some (Value.int .i64 (a : Int)) := z1
  replace z2 : _ = some (Value.int .i64 (b : Int)) := z2
  generalize ((w.alloc (.cells #[.int .i64 c, .int .i64 a, .int .i64 b, .int .i64 sz] 29)).alloc (.cells #[.int .u8 c] 5)) = W0 at HS z1 z2 ⊢
  generalize Value.slice (some ⟨w.heap.size + 1, 0, none⟩) 1 1 = v0 at HS ⊢
  obtain ⟨v1, W1, hr, hs⟩ := HS.out.next2 (by show (1 : Nat) ≤ 90000; decide) (a) (b)
  replace HS := Lib.hid hs
  have HR1 := Lib.hid hr
  clear hs hr
  go_wp2_with (first | (at_builtin; refine Lib.wpList_append_run _ rfl _ _ _ _ rfl _ _ rfl rfl _ _ HR1.out ?_))
  rw [← hQ]
  exact HS.out.fin HEL.out.1 (HEL.out.2.trans rfl)
set_option maxRecDepth 100000 in
set_option maxHeartbeats 4000000 in
theorem rw0x (c a b sz : Int) (w : World) (hc : 0 ≤ c ∧ c < 41) (hk : kindO c = 0) (ha : a ≠ 0) : Calls Tryd.prog 18 #[.agg #[.int .i64 c, .int .i64 a, .int .i64 b, .int .i64 sz]] w (WrR c a b w) := by
  have HE : Hid (∀ W, Below w.heap.size w W → WrR c a b w (.returned (.tuple #[.slice none 0 0, .int .i64 1])) W) := Lib.hid fun W hW => WrR.bad 1 (by unfold wrE; rw [if_neg (by omega), hk]; simp; try omega) (by decide) hW
  have hop : ∀ V, Calls Tryd.prog 31 #[.int .i64 c] V fun e w' => e = .returned (.string ⟨#[]⟩) ∧ w' = V := fun V => by
    have h := Vf.operands_c c.toNat (by omega) V
    rw [show ((c.toNat : Nat) : Int) = c by omega, hk] at h
    exact h
  have HO := Lib.hid hop
  clear hop
  have dn0 : (a != 0) = true := by simpa using ha
  have dc1 : decide (c < 0) = false := decide_eq_false (by omega)
  have dc2 : decide (40 < c) = false := decide_eq_false (by omega)
  generalize hQ : WrR c a b w = Q at HE ⊢
  have HB := Lib.hid (WrS.begin2 w c a b sz)
  go_enter Tryd.func18, Tryd.ntmps18
  go_wp2_with (first | (go_at_call 31; refine (HO.out _).mono ?_; rintro e w2 ⟨rfl, hw⟩; obtain rfl := hw.symm))
  exact HE.out _ (HB.out c).b
set_option maxRecDepth 100000 in
set_option maxHeartbeats 4000000 in
theorem rw0y (c a b sz : Int) (w : World) (hc : 0 ≤ c ∧ c < 41) (hk : kindO c = 0) (ha : a = 0) (hb : b ≠ 0) : Calls Tryd.prog 18 #[.agg #[.int .i64 c, .int .i64 a, .int .i64 b, .int .i64 sz]] w (WrR c a b w) := by
  subst ha
  have HE : Hid (∀ W, Below w.heap.size w W → WrR c 0 b w (.returned (.tuple #[.slice none 0 0, .int .i64 1])) W) := Lib.hid fun W hW => WrR.bad 1 (by unfold wrE; rw [if_neg (by omega), hk]; simp; try omega) (by decide) hW
  have hop : ∀ V, Calls Tryd.prog 31 #[.int .i64 c] V fun e w' => e = .returned (.string ⟨#[]⟩) ∧ w' = V := fun V => by
    have h := Vf.operands_c c.toNat (by omega) V
    rw [show ((c.toNat : Nat) : Int) = c by omega, hk] at h
    exact h
  have HO := Lib.hid hop
  clear hop
  have dn1 : (b != 0) = true := by simpa using hb
  have dc1 : decide (c < 0) = false := decide_eq_false (by omega)
  have dc2 : decide (40 < c) = false := decide_eq_false (by omega)
  generalize hQ : WrR c 0 b w = Q at HE ⊢
  have HB := Lib.hid (WrS.begin2 w c 0 b sz)
  go_enter Tryd.func18, Tryd.ntmps18
  go_wp2_with (first | (go_at_call 31; refine (HO.out _).mono ?_; rintro e w2 ⟨rfl, hw⟩; obtain rfl := hw.symm))
  exact HE.out _ (HB.out c).b
set_option maxRecDepth 100000 in
set_option maxHeartbeats 4000000 in
theorem rw0 (c a b sz : Int) (w : World) (hc : 0 ≤ c ∧ c < 41) (hk : kindO c = 0) (ha : a = 0) (hb : b = 0) : Calls Tryd.prog 18 #[.agg #[.int .i64 c, .int .i64 a, .int .i64 b, .int .i64 sz]] w (WrR c a b w) := by
  subst ha
  subst hb
  have HE : wrE c 0 0 = 0 := by unfold wrE; rw [if_neg (by omega), hk]; simp; try omega
  have HL : wrL c 0 0 = c :: (if 0 = 0 then [] else if 0 = 3 then [(0 : Int) % 256, (0 : Int) / 256 % 256] else if 0 = 4 then [0, 0] else [(0 : Int) % 256]) := by unfold wrL; rw [hk]
  have HEL := Lib.hid (And.intro HE HL)
  clear HE HL
  have hop : ∀ V, Calls Tryd.prog 31 #[.int .i64 c] V fun e w' => e = .returned (.string ⟨#[]⟩) ∧ w' = V := fun V => by
    have h := Vf.operands_c c.toNat (by omega) V
    rw [show ((c.toNat : Nat) : Int) = c by omega, hk] at h
    exact h
  have HO := Lib.hid hop
  clear hop
  have dc1 : decide (c < 0) = false := decide_eq_false (by omega)
  have dc2 : decide (40 < c) = false := decide_eq_false (by omega)
  generalize hQ : WrR c 0 0 w = Q
  have HB := Lib.hid (WrS.begin2 w c 0 0 sz)
  go_enter Tryd.func18, Tryd.ntmps18
  go_wp2_with (first | (go_at_call 31; refine (HO.out _).mono ?_; rintro e w2 ⟨rfl, hw⟩; obtain rfl := hw.symm))
  rw [← hQ]
  exact (HB.out c).fin HEL.out.1 (HEL.out.2.trans rfl)

theorem rwrite_c (c a b sz : Int) (w : World) : Calls Tryd.prog 18 #[.agg #[.int .i64 c, .int .i64 a, .int .i64 b, .int .i64 sz]] w (WrR c a b w) := by
  by_cases hc : 0 ≤ c ∧ c < 41
  · rcases kindO_cs c with hk | hk | hk | hk | hk
    · by_cases ha : a = 0
      · by_cases hb : b = 0
        · exact rw0 c a b sz w hc hk ha hb
        · exact rw0y c a b sz w hc hk ha hb
      · exact rw0x c a b sz w hc hk ha
    · by_cases h1 : 0 ≤ a ∧ a ≤ 255
      · by_cases hb : b = 0
        · exact rw1 c a b sz w hc hk h1 hb
        · exact rw1x c a b sz w hc hk h1 hb
      · exact rw1n c a b sz w hc hk h1
    · by_cases h1 : -128 ≤ a ∧ a ≤ 127
      · by_cases hb : b = 0
        · exact rw2 c a b sz w hc hk h1 hb
        · exact rw2x c a b sz w hc hk h1 hb
      · exact rw2n c a b sz w hc hk h1
    · by_cases h1 : -32768 ≤ a ∧ a ≤ 32767
      · by_cases hb : b = 0
        · exact rw3 c a b sz w hc hk h1 hb
        · exact rw3x c a b sz w hc hk h1 hb
      · exact rw3n c a b sz w hc hk h1
    · by_cases h1 : 0 ≤ a ∧ a ≤ 255
      · by_cases h2 : 0 ≤ b ∧ b ≤ 255
        · exact rw4 c a b sz w hc hk h1 h2
        · exact rw4m c a b sz w hc hk h1 h2
      · exact rw4n c a b sz w hc hk h1
  · have HE : Hid (∀ W, Below w.heap.size w W → WrR c a b w (.returned (.tuple #[.slice none 0 0, .int .i64 5])) W) := Lib.hid fun W hW => WrR.bad 5 (if_pos hc) (by decide) hW
    generalize WrR c a b w = Q at HE ⊢
    by_cases h0 : c < 0
    · have dc1 : decide (c < 0) = true := decide_eq_true h0
      clear hc h0
      go_enter Tryd.func18, Tryd.ntmps18
      go_wp2
      exact HE.out _ ((Below.refl _ _).alloc (Nat.le_refl _) _)
    · have dc1 : decide (c < 0) = false := decide_eq_false h0
      have dc2 : decide (40 < c) = true := decide_eq_true (by omega)
      clear hc h0
      go_enter Tryd.func18, Tryd.ntmps18
      go_wp2
      exact HE.out _ ((Below.refl _ _).alloc (Nat.le_refl _) _)
end Go.Proofs.YtgdlcnngplfjnaaDoor.Co
