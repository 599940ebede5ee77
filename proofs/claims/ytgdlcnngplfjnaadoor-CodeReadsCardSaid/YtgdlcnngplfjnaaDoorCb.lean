import Derived.Test.YtgdlcnngplfjnaaDoorCa
import Derived.BigGuardPart
import Derived.LoopIn
import Derived.LoopNIn
import Derived.OwnWalkIn
import Derived.RangeFuncBound
import Derived.RangeFuncBox
import Derived.RangeFuncCalls
import Derived.RangeFuncLeaves
import Derived.RangeFuncNested
import Derived.Shelf.RegionOpen
import Derived.TacticsInMore
import Derived.Laws.BitsLemmas
import Derived.IntWalk
import Derived.Laws.BitsAllLaws
import Derived.Deep.DrawnRows
import Derived.WalkKit
import Derived.ProofKit
import Derived.OpenShut
import Derived.Deep.QuietTactic
import Derived.BigQuiet
import Derived.Outline
import Derived.WalkSmall
import Derived.WalkLawsBesides
import Derived.WalkSpells
import Derived.BigGuardPart
import Derived.RegionTactic
import Derived.Deep.RegionHeld3
import Derived.Lib.Hide
import Derived.Deep.MidRow
import Derived.Below
import Derived.Deep.RegionWith
import Derived.Deep.OwnRows
import Derived.Deep.AppendLies
import Derived.Deep.RegionLaw
import Derived.Deep.CutBlock
import Derived.Deep.DeepCutAuto
namespace Go.Proofs.YtgdlcnngplfjnaaDoor.Co
open Go.ChangeShapes Go.WideShapes Go.ChangeAt Go.RowKit Go.Proofs.YtgdlcnngplfjnaaDoor.Vf
set_option linter.unusedVariables false
/-- The row of bytes as it is laid. -/
structure WrS (w : World) (v : Value) (xs : List Int) (c a b sz : Int) (V : World) : Prop where
  o : V.ownsRow w.heap.size 5 1 v xs.length (xs.map (.int .u8))
  b : Below w.heap.size w V
theorem WrS.begin (w : World) (c a b sz : Int) (z : Int) : WrS w (.slice (some ⟨w.heap.size + 1, 0, none⟩) 1 1) [z] c a b sz ((w.alloc (.cells #[.int .i64 c, .int .i64 a, .int .i64 b, .int .i64 sz] 25)).alloc (.cells #[.int .u8 z] 5)) := by
  have h9 := heap_alloc_new (w.alloc (.cells #[.int .i64 c, .int .i64 a, .int .i64 b, .int .i64 sz] 25)) (.cells #[.int .u8 z] 5)
  rw [show (w.alloc (.cells #[.int .i64 c, .int .i64 a, .int .i64 b, .int .i64 sz] 25)).heap.size = w.heap.size + 1 by simp] at h9
  exact ⟨⟨rfl, .inr ⟨w.heap.size + 1, 1, #[.int .u8 z], rfl, by omega, h9, Nat.le_refl _, by decide, rfl, rfl⟩⟩, ((Below.refl _ _).alloc (Nat.le_refl _) _).alloc (by simp) _⟩
def WrN (w : World) (v : Value) (xs : List Int) (z c a b sz : Int) (W : World) : Prop := ∃ v' W', (Builtin.append_ #[22, 22] 22 #[v, .slice (some ⟨W.heap.size, 0, none⟩) 1 1]).run Tryd.prog (W.alloc (.cells #[.int .u8 z] 5)) = .ok v' W' ∧ WrS w v' (xs ++ [z]) c a b sz W'
theorem WrS.next {w : World} {v : Value} {xs : List Int} {c a b sz : Int} {W : World} (h : WrS w v xs c a b sz W) (hn : xs.length ≤ 90000) (z : Int) : WrN w v xs z c a b sz W := by
  obtain ⟨x, cx, W', h1, h2, h3, h4⟩ := app_byte W w.heap.size xs.length v xs z h.o hn h.b.size
  exact ⟨_, W', h1, ⟨by rw [List.length_append]; exact h2, h.b.trans h3⟩⟩
theorem WrS.fin {w : World} {v : Value} {xs : List Int} {c a b sz : Int} {W : World} (h : WrS w v xs c a b sz W) (h0 : wrE c a b = 0) (hl : wrL c a b = xs) : WrR c a b w (.returned (.tuple #[v, .int .i64 0])) W := by
  unfold WrR
  obtain ⟨x, cx, rfl⟩ := own_slice h.o
  rw [if_pos h0, hl]
  exact ⟨x, cx, rfl, Bys.own h.o rfl, own_fit h.o, own_past0 h.o, h.b⟩
theorem WrR.bad {c a b : Int} {w W : World} (e : Int) (he : wrE c a b = e) (h0 : e ≠ 0) (hb : Below w.heap.size w W) : WrR c a b w (.returned (.tuple #[.slice none 0 0, .int .i64 e])) W := by
  unfold WrR
  rw [he, if_neg h0]
  exact ⟨rfl, hb⟩
theorem WrapU8 (a : Int) (h : 0 ≤ a ∧ a ≤ 255) : a % 256 = a := by
  omega
set_option maxRecDepth 100000 in
set_option maxHeartbeats 4000000 in
theorem wr0x (c a b sz : Int) (w : World) (hc : 0 ≤ c ∧ c < 41) (hk : kindO c = 0) (ha : a ≠ 0) : Calls Tryd.prog 17 #[.agg #[.int .i64 c, .int .i64 a, .int .i64 b, .int .i64 sz]] w (WrR c a b w) := by
  have HE : Hid (∀ W, Below w.heap.size w W → WrR c a b w (.returned (.tuple #[.slice none 0 0, .int .i64 1])) W) := Lib.hid fun W hW => WrR.bad 1 (by unfold wrE; rw [if_neg (by omega), hk]; simp; try omega) (by decide) hW
  have HI : Hid (∀ V, Calls Tryd.prog 25 #[.int .i64 c] V fun e w' => e = .returned (.bool true) ∧ w' = V) := Lib.hid fun V => (decide_eq_true hc) ▸ isCode_c c V
  have HO : Hid (∀ V, Calls Tryd.prog 27 #[.int .i64 c] V fun e w' => e = .returned (.string ⟨#[]⟩) ∧ w' = V) := Lib.hid fun V => by have := operands_c c V; rw [hk] at this; exact this
  have dn0 : (a != 0) = true := by simpa using (by assumption : a ≠ 0)
  have x0 : ∀ V, (Instr.index 81 (.agg #[.int .i64 a, .int .i64 b]) (.int .i64 0)).run Tryd.prog V = .ok (.int .i64 a) V := fun V => by kernel_rfl
  have x1 : ∀ V, (Instr.index 81 (.agg #[.int .i64 a, .int .i64 b]) (.int .i64 1)).run Tryd.prog V = .ok (.int .i64 b) V := fun V => by kernel_rfl
  generalize hQ : WrR c a b w = Q at HE ⊢
  have HB := Lib.hid (WrS.begin w c a b sz)
  go_enter Tryd.func17, Tryd.ntmps17
  go_wp2_with (first | (go_at_call 25; refine (HI.out _).mono ?_; rintro e w2 ⟨rfl, hw⟩; obtain rfl := hw.symm) | (go_at_call 27; refine (HO.out _).mono ?_; rintro e w2 ⟨rfl, hw⟩; obtain rfl := hw.symm))
  refine wp_loop_rounds 3 ?_
  have HS := Lib.hid (HB.out c)
  generalize ((w.alloc (.cells #[.int .i64 c, .int .i64 a, .int .i64 b, .int .i64 sz] 25)).alloc (.cells #[.int .u8 c] 5)) = W0 at HS ⊢
  generalize Value.slice (some ⟨w.heap.size + 1, 0, none⟩) 1 1 = v0 at HS ⊢
  rw [rounds_succ]
  go_wp2_with (first | (go_at_call 42; refine (limits_u _).mono ?_; rintro e w2 ⟨rfl, hw⟩; obtain rfl := hw.symm))
  exact HE.out _ HS.out.b
set_option maxRecDepth 100000 in
set_option maxHeartbeats 4000000 in
theorem wr0y (c a b sz : Int) (w : World) (hc : 0 ≤ c ∧ c < 41) (hk : kindO c = 0) (ha : a = 0) (hb : b ≠ 0) : Calls Tryd.prog 17 #[.agg #[.int .i64 c, .int .i64 a, .int .i64 b, .int .i64 sz]] w (WrR c a b w) := by
  subst ha
  have HE : Hid (∀ W, Below w.heap.size w W → WrR c 0 b w (.returned (.tuple #[.slice none 0 0, .int .i64 1])) W) := Lib.hid fun W hW => WrR.bad 1 (by unfold wrE; rw [if_neg (by omega), hk]; simp; try omega) (by decide) hW
  have HI : Hid (∀ V, Calls Tryd.prog 25 #[.int .i64 c] V fun e w' => e = .returned (.bool true) ∧ w' = V) := Lib.hid fun V => (decide_eq_true hc) ▸ isCode_c c V
  have HO : Hid (∀ V, Calls Tryd.prog 27 #[.int .i64 c] V fun e w' => e = .returned (.string ⟨#[]⟩) ∧ w' = V) := Lib.hid fun V => by have := operands_c c V; rw [hk] at this; exact this
  have dn1 : (b != 0) = true := by simpa using (by assumption : b ≠ 0)
  have x0 : ∀ V, (Instr.index 81 (.agg #[.int .i64 0, .int .i64 b]) (.int .i64 0)).run Tryd.prog V = .ok (.int .i64 0) V := fun V => by kernel_rfl
  have x1 : ∀ V, (Instr.index 81 (.agg #[.int .i64 0, .int .i64 b]) (.int .i64 1)).run Tryd.prog V = .ok (.int .i64 b) V := fun V => by kernel_rfl
  generalize hQ : WrR c 0 b w = Q at HE ⊢
  have HB := Lib.hid (WrS.begin w c 0 b sz)
  go_enter Tryd.func17, Tryd.ntmps17
  go_wp2_with (first | (go_at_call 25; refine (HI.out _).mono ?_; rintro e w2 ⟨rfl, hw⟩; obtain rfl := hw.symm) | (go_at_call 27; refine (HO.out _).mono ?_; rintro e w2 ⟨rfl, hw⟩; obtain rfl := hw.symm))
  refine wp_loop_rounds 3 ?_
  have HS := Lib.hid (HB.out c)
  generalize ((w.alloc (.cells #[.int .i64 c, .int .i64 0, .int .i64 b, .int .i64 sz] 25)).alloc (.cells #[.int .u8 c] 5)) = W0 at HS ⊢
  generalize Value.slice (some ⟨w.heap.size + 1, 0, none⟩) 1 1 = v0 at HS ⊢
  rw [rounds_succ]
  go_wp2_with fail
  rw [rounds_succ]
  go_wp2_with (first | (go_at_call 42; refine (limits_u _).mono ?_; rintro e w2 ⟨rfl, hw⟩; obtain rfl := hw.symm))
  exact HE.out _ HS.out.b
set_option maxRecDepth 100000 in
set_option maxHeartbeats 4000000 in
theorem wr0 (c a b sz : Int) (w : World) (hc : 0 ≤ c ∧ c < 41) (hk : kindO c = 0) (ha : a = 0) (hb : b = 0) : Calls Tryd.prog 17 #[.agg #[.int .i64 c, .int .i64 a, .int .i64 b, .int .i64 sz]] w (WrR c a b w) := by
  subst ha
  subst hb
  have HE : wrE c 0 0 = 0 := by unfold wrE; rw [if_neg (by omega), hk]; simp; try omega
  have HL : wrL c 0 0 = c :: (if 0 = 0 then [] else if 0 = 3 then [(0 : Int) % 256, (0 : Int) / 256 % 256] else if 0 = 4 then [0, 0] else [(0 : Int) % 256]) := by unfold wrL; rw [hk]
  have HEL := Lib.hid (And.intro HE HL)
  clear HE HL
  have HI : Hid (∀ V, Calls Tryd.prog 25 #[.int .i64 c] V fun e w' => e = .returned (.bool true) ∧ w' = V) := Lib.hid fun V => (decide_eq_true hc) ▸ isCode_c c V
  have HO : Hid (∀ V, Calls Tryd.prog 27 #[.int .i64 c] V fun e w' => e = .returned (.string ⟨#[]⟩) ∧ w' = V) := Lib.hid fun V => by have := operands_c c V; rw [hk] at this; exact this
  have x0 : ∀ V, (Instr.index 81 (.agg #[.int .i64 0, .int .i64 0]) (.int .i64 0)).run Tryd.prog V = .ok (.int .i64 0) V := fun V => by kernel_rfl
  have x1 : ∀ V, (Instr.index 81 (.agg #[.int .i64 0, .int .i64 0]) (.int .i64 1)).run Tryd.prog V = .ok (.int .i64 0) V := fun V => by kernel_rfl
  generalize hQ : WrR c 0 0 w = Q
  have HB := Lib.hid (WrS.begin w c 0 0 sz)
  go_enter Tryd.func17, Tryd.ntmps17
  go_wp2_with (first | (go_at_call 25; refine (HI.out _).mono ?_; rintro e w2 ⟨rfl, hw⟩; obtain rfl := hw.symm) | (go_at_call 27; refine (HO.out _).mono ?_; rintro e w2 ⟨rfl, hw⟩; obtain rfl := hw.symm))
  refine wp_loop_rounds 3 ?_
  have HS := Lib.hid (HB.out c)
  generalize ((w.alloc (.cells #[.int .i64 c, .int .i64 0, .int .i64 0, .int .i64 sz] 25)).alloc (.cells #[.int .u8 c] 5)) = W0 at HS ⊢
  generalize Value.slice (some ⟨w.heap.size + 1, 0, none⟩) 1 1 = v0 at HS ⊢
  rw [rounds_succ]
  go_wp2_with fail
  rw [rounds_succ]
  go_wp2_with fail
  rw [rounds_succ]
  go_wp2_with fail
  rw [← hQ]
  exact HS.out.fin HEL.out.1 (HEL.out.2.trans rfl)
set_option maxRecDepth 100000 in
set_option maxHeartbeats 4000000 in
theorem wr1l (c a b sz : Int) (w : World) (hc : 0 ≤ c ∧ c < 41) (hk : kindO c = 1) (ha : a < 0) : Calls Tryd.prog 17 #[.agg #[.int .i64 c, .int .i64 a, .int .i64 b, .int .i64 sz]] w (WrR c a b w) := by
  have HE : Hid (∀ W, Below w.heap.size w W → WrR c a b w (.returned (.tuple #[.slice none 0 0, .int .i64 1])) W) := Lib.hid fun W hW => WrR.bad 1 (by unfold wrE; rw [if_neg (by omega), hk]; simp; try omega) (by decide) hW
  have HI : Hid (∀ V, Calls Tryd.prog 25 #[.int .i64 c] V fun e w' => e = .returned (.bool true) ∧ w' = V) := Lib.hid fun V => (decide_eq_true hc) ▸ isCode_c c V
  have HO : Hid (∀ V, Calls Tryd.prog 27 #[.int .i64 c] V fun e w' => e = .returned (.string ⟨#[117]⟩) ∧ w' = V) := Lib.hid fun V => by have := operands_c c V; rw [hk] at this; exact this
  have dl0 : decide (a < 0) = true := decide_eq_true (by omega)
  have x0 : ∀ V, (Instr.index 81 (.agg #[.int .i64 a, .int .i64 b]) (.int .i64 0)).run Tryd.prog V = .ok (.int .i64 a) V := fun V => by kernel_rfl
  have x1 : ∀ V, (Instr.index 81 (.agg #[.int .i64 a, .int .i64 b]) (.int .i64 1)).run Tryd.prog V = .ok (.int .i64 b) V := fun V => by kernel_rfl
  have s0 : ∀ V, (Instr.index 9 (.string ⟨#[117]⟩) (.int .i64 0)).run Tryd.prog V = .ok (.int .u8 117) V := fun V => by kernel_rfl
  generalize hQ : WrR c a b w = Q at HE ⊢
  have HB := Lib.hid (WrS.begin w c a b sz)
  go_enter Tryd.func17, Tryd.ntmps17
  go_wp2_with (first | (go_at_call 25; refine (HI.out _).mono ?_; rintro e w2 ⟨rfl, hw⟩; obtain rfl := hw.symm) | (go_at_call 27; refine (HO.out _).mono ?_; rintro e w2 ⟨rfl, hw⟩; obtain rfl := hw.symm))
  refine wp_loop_rounds 3 ?_
  have HS := Lib.hid (HB.out c)
  generalize ((w.alloc (.cells #[.int .i64 c, .int .i64 a, .int .i64 b, .int .i64 sz] 25)).alloc (.cells #[.int .u8 c] 5)) = W0 at HS ⊢
  generalize Value.slice (some ⟨w.heap.size + 1, 0, none⟩) 1 1 = v0 at HS ⊢
  rw [rounds_succ]
  go_wp2_with (first | (go_at_call 42; refine (limits_u _).mono ?_; rintro e w2 ⟨rfl, hw⟩; obtain rfl := hw.symm))
  exact HE.out _ HS.out.b
set_option maxRecDepth 100000 in
set_option maxHeartbeats 4000000 in
theorem wr1h (c a b sz : Int) (w : World) (hc : 0 ≤ c ∧ c < 41) (hk : kindO c = 1) (ha : 255 < a) : Calls Tryd.prog 17 #[.agg #[.int .i64 c, .int .i64 a, .int .i64 b, .int .i64 sz]] w (WrR c a b w) := by
  have HE : Hid (∀ W, Below w.heap.size w W → WrR c a b w (.returned (.tuple #[.slice none 0 0, .int .i64 1])) W) := Lib.hid fun W hW => WrR.bad 1 (by unfold wrE; rw [if_neg (by omega), hk]; simp; try omega) (by decide) hW
  have HI : Hid (∀ V, Calls Tryd.prog 25 #[.int .i64 c] V fun e w' => e = .returned (.bool true) ∧ w' = V) := Lib.hid fun V => (decide_eq_true hc) ▸ isCode_c c V
  have HO : Hid (∀ V, Calls Tryd.prog 27 #[.int .i64 c] V fun e w' => e = .returned (.string ⟨#[117]⟩) ∧ w' = V) := Lib.hid fun V => by have := operands_c c V; rw [hk] at this; exact this
  have dl0 : decide (a < 0) = false := decide_eq_false (by omega)
  have dh0 : decide (255 < a) = true := decide_eq_true (by omega)
  have x0 : ∀ V, (Instr.index 81 (.agg #[.int .i64 a, .int .i64 b]) (.int .i64 0)).run Tryd.prog V = .ok (.int .i64 a) V := fun V => by kernel_rfl
  have x1 : ∀ V, (Instr.index 81 (.agg #[.int .i64 a, .int .i64 b]) (.int .i64 1)).run Tryd.prog V = .ok (.int .i64 b) V := fun V => by kernel_rfl
  have s0 : ∀ V, (Instr.index 9 (.string ⟨#[117]⟩) (.int .i64 0)).run Tryd.prog V = .ok (.int .u8 117) V := fun V => by kernel_rfl
  generalize hQ : WrR c a b w = Q at HE ⊢
  have HB := Lib.hid (WrS.begin w c a b sz)
  go_enter Tryd.func17, Tryd.ntmps17
  go_wp2_with (first | (go_at_call 25; refine (HI.out _).mono ?_; rintro e w2 ⟨rfl, hw⟩; obtain rfl := hw.symm) | (go_at_call 27; refine (HO.out _).mono ?_; rintro e w2 ⟨rfl, hw⟩; obtain rfl := hw.symm))
  refine wp_loop_rounds 3 ?_
  have HS := Lib.hid (HB.out c)
  generalize ((w.alloc (.cells #[.int .i64 c, .int .i64 a, .int .i64 b, .int .i64 sz] 25)).alloc (.cells #[.int .u8 c] 5)) = W0 at HS ⊢
  generalize Value.slice (some ⟨w.heap.size + 1, 0, none⟩) 1 1 = v0 at HS ⊢
  rw [rounds_succ]
  go_wp2_with (first | (go_at_call 42; refine (limits_u _).mono ?_; rintro e w2 ⟨rfl, hw⟩; obtain rfl := hw.symm))
  exact HE.out _ HS.out.b
set_option maxRecDepth 100000 in
set_option maxHeartbeats 4000000 in
theorem wr1x (c a b sz : Int) (w : World) (hc : 0 ≤ c ∧ c < 41) (hk : kindO c = 1) (ha : 0 ≤ a ∧ a ≤ 255) (hb : b ≠ 0) : Calls Tryd.prog 17 #[.agg #[.int .i64 c, .int .i64 a, .int .i64 b, .int .i64 sz]] w (WrR c a b w) := by
  have HE : Hid (∀ W, Below w.heap.size w W → WrR c a b w (.returned (.tuple #[.slice none 0 0, .int .i64 1])) W) := Lib.hid fun W hW => WrR.bad 1 (by unfold wrE; rw [if_neg (by omega), hk]; simp; try omega) (by decide) hW
  have HI : Hid (∀ V, Calls Tryd.prog 25 #[.int .i64 c] V fun e w' => e = .returned (.bool true) ∧ w' = V) := Lib.hid fun V => (decide_eq_true hc) ▸ isCode_c c V
  have HO : Hid (∀ V, Calls Tryd.prog 27 #[.int .i64 c] V fun e w' => e = .returned (.string ⟨#[117]⟩) ∧ w' = V) := Lib.hid fun V => by have := operands_c c V; rw [hk] at this; exact this
  have dl0 : decide (a < 0) = false := decide_eq_false (by omega)
  have dh0 : decide (255 < a) = false := decide_eq_false (by omega)
  have dn1 : (b != 0) = true := by simpa using (by assumption : b ≠ 0)
  have x0 : ∀ V, (Instr.index 81 (.agg #[.int .i64 a, .int .i64 b]) (.int .i64 0)).run Tryd.prog V = .ok (.int .i64 a) V := fun V => by kernel_rfl
  have x1 : ∀ V, (Instr.index 81 (.agg #[.int .i64 a, .int .i64 b]) (.int .i64 1)).run Tryd.prog V = .ok (.int .i64 b) V := fun V => by kernel_rfl
  have s0 : ∀ V, (Instr.index 9 (.string ⟨#[117]⟩) (.int .i64 0)).run Tryd.prog V = .ok (.int .u8 117) V := fun V => by kernel_rfl
  generalize hQ : WrR c a b w = Q at HE ⊢
  have HB := Lib.hid (WrS.begin w c a b sz)
  go_enter Tryd.func17, Tryd.ntmps17
  go_wp2_with (first | (go_at_call 25; refine (HI.out _).mono ?_; rintro e w2 ⟨rfl, hw⟩; obtain rfl := hw.symm) | (go_at_call 27; refine (HO.out _).mono ?_; rintro e w2 ⟨rfl, hw⟩; obtain rfl := hw.symm))
  refine wp_loop_rounds 3 ?_
  have HS := Lib.hid (HB.out c)
  generalize ((w.alloc (.cells #[.int .i64 c, .int .i64 a, .int .i64 b, .int .i64 sz] 25)).alloc (.cells #[.int .u8 c] 5)) = W0 at HS ⊢
  generalize Value.slice (some ⟨w.heap.size + 1, 0, none⟩) 1 1 = v0 at HS ⊢
  rw [rounds_succ]
  go_upto_region 14 with (first | (go_at_call 42; refine (limits_u _).mono ?_; rintro e w2 ⟨rfl, hw⟩; obtain rfl := hw.symm))
  obtain ⟨v1, W1, hr, hs⟩ := HS.out.next (by show (1 : Nat) ≤ 90000; decide) (a)
  replace HS := Lib.hid hs
  have HR1 := Lib.hid hr
  clear hs hr
  go_wp2_with (first | (at_builtin; refine Lib.wpList_append_run _ rfl _ _ _ _ rfl _ _ rfl rfl _ _ HR1.out ?_))
  rw [rounds_succ]
  go_wp2_with (first | (go_at_call 42; refine (limits_u _).mono ?_; rintro e w2 ⟨rfl, hw⟩; obtain rfl := hw.symm))
  exact HE.out _ HS.out.b
set_option maxRecDepth 100000 in
set_option maxHeartbeats 4000000 in
theorem wr1 (c a b sz : Int) (w : World) (hc : 0 ≤ c ∧ c < 41) (hk : kindO c = 1) (ha : 0 ≤ a ∧ a ≤ 255) (hb : b = 0) : Calls Tryd.prog 17 #[.agg #[.int .i64 c, .int .i64 a, .int .i64 b, .int .i64 sz]] w (WrR c a b w) := by
  subst hb
  have HE : wrE c a 0 = 0 := by unfold wrE; rw [if_neg (by omega), hk]; simp; try omega
  have HL : wrL c a 0 = c :: (if 1 = 0 then [] else if 1 = 3 then [(a : Int) % 256, (a : Int) / 256 % 256] else if 1 = 4 then [a, 0] else [(a : Int) % 256]) := by unfold wrL; rw [hk]
  have HEL := Lib.hid (And.intro HE HL)
  clear HE HL
  have HI : Hid (∀ V, Calls Tryd.prog 25 #[.int .i64 c] V fun e w' => e = .returned (.bool true) ∧ w' = V) := Lib.hid fun V => (decide_eq_true hc) ▸ isCode_c c V
  have HO : Hid (∀ V, Calls Tryd.prog 27 #[.int .i64 c] V fun e w' => e = .returned (.string ⟨#[117]⟩) ∧ w' = V) := Lib.hid fun V => by have := operands_c c V; rw [hk] at this; exact this
  have dl0 : decide (a < 0) = false := decide_eq_false (by omega)
  have dh0 : decide (255 < a) = false := decide_eq_false (by omega)
  have x0 : ∀ V, (Instr.index 81 (.agg #[.int .i64 a, .int .i64 0]) (.int .i64 0)).run Tryd.prog V = .ok (.int .i64 a) V := fun V => by kernel_rfl
  have x1 : ∀ V, (Instr.index 81 (.agg #[.int .i64 a, .int .i64 0]) (.int .i64 1)).run Tryd.prog V = .ok (.int .i64 0) V := fun V => by kernel_rfl
  have s0 : ∀ V, (Instr.index 9 (.string ⟨#[117]⟩) (.int .i64 0)).run Tryd.prog V = .ok (.int .u8 117) V := fun V => by kernel_rfl
  generalize hQ : WrR c a 0 w = Q
  have HB := Lib.hid (WrS.begin w c a 0 sz)
  go_enter Tryd.func17, Tryd.ntmps17
  go_wp2_with (first | (go_at_call 25; refine (HI.out _).mono ?_; rintro e w2 ⟨rfl, hw⟩; obtain rfl := hw.symm) | (go_at_call 27; refine (HO.out _).mono ?_; rintro e w2 ⟨rfl, hw⟩; obtain rfl := hw.symm))
  refine wp_loop_rounds 3 ?_
  have HS := Lib.hid (HB.out c)
  generalize ((w.alloc (.cells #[.int .i64 c, .int .i64 a, .int .i64 0, .int .i64 sz] 25)).alloc (.cells #[.int .u8 c] 5)) = W0 at HS ⊢
  generalize Value.slice (some ⟨w.heap.size + 1, 0, none⟩) 1 1 = v0 at HS ⊢
  rw [rounds_succ]
  go_upto_region 14 with (first | (go_at_call 42; refine (limits_u _).mono ?_; rintro e w2 ⟨rfl, hw⟩; obtain rfl := hw.symm))
  obtain ⟨v1, W1, hr, hs⟩ := HS.out.next (by show (1 : Nat) ≤ 90000; decide) (a)
  replace HS := Lib.hid hs
  have HR1 := Lib.hid hr
  clear hs hr
  go_wp2_with (first | (at_builtin; refine Lib.wpList_append_run _ rfl _ _ _ _ rfl _ _ rfl rfl _ _ HR1.out ?_))
  rw [rounds_succ]
  go_wp2_with fail
  rw [rounds_succ]
  go_wp2_with fail
  rw [← hQ]
  exact HS.out.fin HEL.out.1 (HEL.out.2.trans (by rw [show a % 256 = a from WrapU8 a (by omega)]; rfl))
set_option maxRecDepth 100000 in
set_option maxHeartbeats 4000000 in
theorem wr2l (c a b sz : Int) (w : World) (hc : 0 ≤ c ∧ c < 41) (hk : kindO c = 2) (ha : a < -128) : Calls Tryd.prog 17 #[.agg #[.int .i64 c, .int .i64 a, .int .i64 b, .int .i64 sz]] w (WrR c a b w) := by
  have HE : Hid (∀ W, Below w.heap.size w W → WrR c a b w (.returned (.tuple #[.slice none 0 0, .int .i64 1])) W) := Lib.hid fun W hW => WrR.bad 1 (by unfold wrE; rw [if_neg (by omega), hk]; simp; try omega) (by decide) hW
  have HI : Hid (∀ V, Calls Tryd.prog 25 #[.int .i64 c] V fun e w' => e = .returned (.bool true) ∧ w' = V) := Lib.hid fun V => (decide_eq_true hc) ▸ isCode_c c V
  have HO : Hid (∀ V, Calls Tryd.prog 27 #[.int .i64 c] V fun e w' => e = .returned (.string ⟨#[115]⟩) ∧ w' = V) := Lib.hid fun V => by have := operands_c c V; rw [hk] at this; exact this
  have dl0 : decide (a < -128) = true := decide_eq_true (by omega)
  have x0 : ∀ V, (Instr.index 81 (.agg #[.int .i64 a, .int .i64 b]) (.int .i64 0)).run Tryd.prog V = .ok (.int .i64 a) V := fun V => by kernel_rfl
  have x1 : ∀ V, (Instr.index 81 (.agg #[.int .i64 a, .int .i64 b]) (.int .i64 1)).run Tryd.prog V = .ok (.int .i64 b) V := fun V => by kernel_rfl
  have s0 : ∀ V, (Instr.index 9 (.string ⟨#[115]⟩) (.int .i64 0)).run Tryd.prog V = .ok (.int .u8 115) V := fun V => by kernel_rfl
  generalize hQ : WrR c a b w = Q at HE ⊢
  have HB := Lib.hid (WrS.begin w c a b sz)
  go_enter Tryd.func17, Tryd.ntmps17
  go_wp2_with (first | (go_at_call 25; refine (HI.out _).mono ?_; rintro e w2 ⟨rfl, hw⟩; obtain rfl := hw.symm) | (go_at_call 27; refine (HO.out _).mono ?_; rintro e w2 ⟨rfl, hw⟩; obtain rfl := hw.symm))
  refine wp_loop_rounds 3 ?_
  have HS := Lib.hid (HB.out c)
  generalize ((w.alloc (.cells #[.int .i64 c, .int .i64 a, .int .i64 b, .int .i64 sz] 25)).alloc (.cells #[.int .u8 c] 5)) = W0 at HS ⊢
  generalize Value.slice (some ⟨w.heap.size + 1, 0, none⟩) 1 1 = v0 at HS ⊢
  rw [rounds_succ]
  go_wp2_with (first | (go_at_call 42; refine (limits_s _).mono ?_; rintro e w2 ⟨rfl, hw⟩; obtain rfl := hw.symm))
  exact HE.out _ HS.out.b
set_option maxRecDepth 100000 in
set_option maxHeartbeats 4000000 in
theorem wr2h (c a b sz : Int) (w : World) (hc : 0 ≤ c ∧ c < 41) (hk : kindO c = 2) (ha : 127 < a) : Calls Tryd.prog 17 #[.agg #[.int .i64 c, .int .i64 a, .int .i64 b, .int .i64 sz]] w (WrR c a b w) := by
  have HE : Hid (∀ W, Below w.heap.size w W → WrR c a b w (.returned (.tuple #[.slice none 0 0, .int .i64 1])) W) := Lib.hid fun W hW => WrR.bad 1 (by unfold wrE; rw [if_neg (by omega), hk]; simp; try omega) (by decide) hW
  have HI : Hid (∀ V, Calls Tryd.prog 25 #[.int .i64 c] V fun e w' => e = .returned (.bool true) ∧ w' = V) := Lib.hid fun V => (decide_eq_true hc) ▸ isCode_c c V
  have HO : Hid (∀ V, Calls Tryd.prog 27 #[.int .i64 c] V fun e w' => e = .returned (.string ⟨#[115]⟩) ∧ w' = V) := Lib.hid fun V => by have := operands_c c V; rw [hk] at this; exact this
  have dl0 : decide (a < -128) = false := decide_eq_false (by omega)
  have dh0 : decide (127 < a) = true := decide_eq_true (by omega)
  have x0 : ∀ V, (Instr.index 81 (.agg #[.int .i64 a, .int .i64 b]) (.int .i64 0)).run Tryd.prog V = .ok (.int .i64 a) V := fun V => by kernel_rfl
  have x1 : ∀ V, (Instr.index 81 (.agg #[.int .i64 a, .int .i64 b]) (.int .i64 1)).run Tryd.prog V = .ok (.int .i64 b) V := fun V => by kernel_rfl
  have s0 : ∀ V, (Instr.index 9 (.string ⟨#[115]⟩) (.int .i64 0)).run Tryd.prog V = .ok (.int .u8 115) V := fun V => by kernel_rfl
  generalize hQ : WrR c a b w = Q at HE ⊢
  have HB := Lib.hid (WrS.begin w c a b sz)
  go_enter Tryd.func17, Tryd.ntmps17
  go_wp2_with (first | (go_at_call 25; refine (HI.out _).mono ?_; rintro e w2 ⟨rfl, hw⟩; obtain rfl := hw.symm) | (go_at_call 27; refine (HO.out _).mono ?_; rintro e w2 ⟨rfl, hw⟩; obtain rfl := hw.symm))
  refine wp_loop_rounds 3 ?_
  have HS := Lib.hid (HB.out c)
  generalize ((w.alloc (.cells #[.int .i64 c, .int .i64 a, .int .i64 b, .int .i64 sz] 25)).alloc (.cells #[.int .u8 c] 5)) = W0 at HS ⊢
  generalize Value.slice (some ⟨w.heap.size + 1, 0, none⟩) 1 1 = v0 at HS ⊢
  rw [rounds_succ]
  go_wp2_with (first | (go_at_call 42; refine (limits_s _).mono ?_; rintro e w2 ⟨rfl, hw⟩; obtain rfl := hw.symm))
  exact HE.out _ HS.out.b
set_option maxRecDepth 100000 in
set_option maxHeartbeats 4000000 in
theorem wr2x (c a b sz : Int) (w : World) (hc : 0 ≤ c ∧ c < 41) (hk : kindO c = 2) (ha : -128 ≤ a ∧ a ≤ 127) (hb : b ≠ 0) : Calls Tryd.prog 17 #[.agg #[.int .i64 c, .int .i64 a, .int .i64 b, .int .i64 sz]] w (WrR c a b w) := by
  have HE : Hid (∀ W, Below w.heap.size w W → WrR c a b w (.returned (.tuple #[.slice none 0 0, .int .i64 1])) W) := Lib.hid fun W hW => WrR.bad 1 (by unfold wrE; rw [if_neg (by omega), hk]; simp; try omega) (by decide) hW
  have HI : Hid (∀ V, Calls Tryd.prog 25 #[.int .i64 c] V fun e w' => e = .returned (.bool true) ∧ w' = V) := Lib.hid fun V => (decide_eq_true hc) ▸ isCode_c c V
  have HO : Hid (∀ V, Calls Tryd.prog 27 #[.int .i64 c] V fun e w' => e = .returned (.string ⟨#[115]⟩) ∧ w' = V) := Lib.hid fun V => by have := operands_c c V; rw [hk] at this; exact this
  have dl0 : decide (a < -128) = false := decide_eq_false (by omega)
  have dh0 : decide (127 < a) = false := decide_eq_false (by omega)
  have dn1 : (b != 0) = true := by simpa using (by assumption : b ≠ 0)
  have x0 : ∀ V, (Instr.index 81 (.agg #[.int .i64 a, .int .i64 b]) (.int .i64 0)).run Tryd.prog V = .ok (.int .i64 a) V := fun V => by kernel_rfl
  have x1 : ∀ V, (Instr.index 81 (.agg #[.int .i64 a, .int .i64 b]) (.int .i64 1)).run Tryd.prog V = .ok (.int .i64 b) V := fun V => by kernel_rfl
  have s0 : ∀ V, (Instr.index 9 (.string ⟨#[115]⟩) (.int .i64 0)).run Tryd.prog V = .ok (.int .u8 115) V := fun V => by kernel_rfl
  generalize hQ : WrR c a b w = Q at HE ⊢
  have HB := Lib.hid (WrS.begin w c a b sz)
  go_enter Tryd.func17, Tryd.ntmps17
  go_wp2_with (first | (go_at_call 25; refine (HI.out _).mono ?_; rintro e w2 ⟨rfl, hw⟩; obtain rfl := hw.symm) | (go_at_call 27; refine (HO.out _).mono ?_; rintro e w2 ⟨rfl, hw⟩; obtain rfl := hw.symm))
  refine wp_loop_rounds 3 ?_
  have HS := Lib.hid (HB.out c)
  generalize ((w.alloc (.cells #[.int .i64 c, .int .i64 a, .int .i64 b, .int .i64 sz] 25)).alloc (.cells #[.int .u8 c] 5)) = W0 at HS ⊢
  generalize Value.slice (some ⟨w.heap.size + 1, 0, none⟩) 1 1 = v0 at HS ⊢
  rw [rounds_succ]
  go_upto_region 14 with (first | (go_at_call 42; refine (limits_s _).mono ?_; rintro e w2 ⟨rfl, hw⟩; obtain rfl := hw.symm))
  obtain ⟨v1, W1, hr, hs⟩ := HS.out.next (by show (1 : Nat) ≤ 90000; decide) (IntKind.u8.wrap a)
  replace HS := Lib.hid hs
  have HR1 := Lib.hid hr
  clear hs hr
  go_wp2_with (first | (at_builtin; refine Lib.wpList_append_run _ rfl _ _ _ _ rfl _ _ rfl rfl _ _ HR1.out ?_))
  rw [rounds_succ]
  go_wp2_with (first | (go_at_call 42; refine (limits_u _).mono ?_; rintro e w2 ⟨rfl, hw⟩; obtain rfl := hw.symm))
  exact HE.out _ HS.out.b
set_option maxRecDepth 100000 in
set_option maxHeartbeats 4000000 in
theorem wr2 (c a b sz : Int) (w : World) (hc : 0 ≤ c ∧ c < 41) (hk : kindO c = 2) (ha : -128 ≤ a ∧ a ≤ 127) (hb : b = 0) : Calls Tryd.prog 17 #[.agg #[.int .i64 c, .int .i64 a, .int .i64 b, .int .i64 sz]] w (WrR c a b w) := by
  subst hb
  have HE : wrE c a 0 = 0 := by unfold wrE; rw [if_neg (by omega), hk]; simp; try omega
  have HL : wrL c a 0 = c :: (if 2 = 0 then [] else if 2 = 3 then [(a : Int) % 256, (a : Int) / 256 % 256] else if 2 = 4 then [a, 0] else [(a : Int) % 256]) := by unfold wrL; rw [hk]
  have HEL := Lib.hid (And.intro HE HL)
  clear HE HL
  have HI : Hid (∀ V, Calls Tryd.prog 25 #[.int .i64 c] V fun e w' => e = .returned (.bool true) ∧ w' = V) := Lib.hid fun V => (decide_eq_true hc) ▸ isCode_c c V
  have HO : Hid (∀ V, Calls Tryd.prog 27 #[.int .i64 c] V fun e w' => e = .returned (.string ⟨#[115]⟩) ∧ w' = V) := Lib.hid fun V => by have := operands_c c V; rw [hk] at this; exact this
  have dl0 : decide (a < -128) = false := decide_eq_false (by omega)
  have dh0 : decide (127 < a) = false := decide_eq_false (by omega)
  have x0 : ∀ V, (Instr.index 81 (.agg #[.int .i64 a, .int .i64 0]) (.int .i64 0)).run Tryd.prog V = .ok (.int .i64 a) V := fun V => by kernel_rfl
  have x1 : ∀ V, (Instr.index 81 (.agg #[.int .i64 a, .int .i64 0]) (.int .i64 1)).run Tryd.prog V = .ok (.int .i64 0) V := fun V => by kernel_rfl
  have s0 : ∀ V, (Instr.index 9 (.string ⟨#[115]⟩) (.int .i64 0)).run Tryd.prog V = .ok (.int .u8 115) V := fun V => by kernel_rfl
  generalize hQ : WrR c a 0 w = Q
  have HB := Lib.hid (WrS.begin w c a 0 sz)
  go_enter Tryd.func17, Tryd.ntmps17
  go_wp2_with (first | (go_at_call 25; refine (HI.out _).mono ?_; rintro e w2 ⟨rfl, hw⟩; obtain rfl := hw.symm) | (go_at_call 27; refine (HO.out _).mono ?_; rintro e w2 ⟨rfl, hw⟩; obtain rfl := hw.symm))
  refine wp_loop_rounds 3 ?_
  have HS := Lib.hid (HB.out c)
  generalize ((w.alloc (.cells #[.int .i64 c, .int .i64 a, .int .i64 0, .int .i64 sz] 25)).alloc (.cells #[.int .u8 c] 5)) = W0 at HS ⊢
  generalize Value.slice (some ⟨w.heap.size + 1, 0, none⟩) 1 1 = v0 at HS ⊢
  rw [rounds_succ]
  go_upto_region 14 with (first | (go_at_call 42; refine (limits_s _).mono ?_; rintro e w2 ⟨rfl, hw⟩; obtain rfl := hw.symm))
  obtain ⟨v1, W1, hr, hs⟩ := HS.out.next (by show (1 : Nat) ≤ 90000; decide) (IntKind.u8.wrap a)
  replace HS := Lib.hid hs
  have HR1 := Lib.hid hr
  clear hs hr
  go_wp2_with (first | (at_builtin; refine Lib.wpList_append_run _ rfl _ _ _ _ rfl _ _ rfl rfl _ _ HR1.out ?_))
  rw [rounds_succ]
  go_wp2_with fail
  rw [rounds_succ]
  go_wp2_with fail
  rw [← hQ]
  exact HS.out.fin HEL.out.1 (HEL.out.2.trans rfl)
set_option maxRecDepth 100000 in
set_option maxHeartbeats 4000000 in
theorem wr3l (c a b sz : Int) (w : World) (hc : 0 ≤ c ∧ c < 41) (hk : kindO c = 3) (ha : a < -32768) : Calls Tryd.prog 17 #[.agg #[.int .i64 c, .int .i64 a, .int .i64 b, .int .i64 sz]] w (WrR c a b w) := by
  have HE : Hid (∀ W, Below w.heap.size w W → WrR c a b w (.returned (.tuple #[.slice none 0 0, .int .i64 1])) W) := Lib.hid fun W hW => WrR.bad 1 (by unfold wrE; rw [if_neg (by omega), hk]; simp; try omega) (by decide) hW
  have HI : Hid (∀ V, Calls Tryd.prog 25 #[.int .i64 c] V fun e w' => e = .returned (.bool true) ∧ w' = V) := Lib.hid fun V => (decide_eq_true hc) ▸ isCode_c c V
  have HO : Hid (∀ V, Calls Tryd.prog 27 #[.int .i64 c] V fun e w' => e = .returned (.string ⟨#[111]⟩) ∧ w' = V) := Lib.hid fun V => by have := operands_c c V; rw [hk] at this; exact this
  have dl0 : decide (a < -32768) = true := decide_eq_true (by omega)
  have x0 : ∀ V, (Instr.index 81 (.agg #[.int .i64 a, .int .i64 b]) (.int .i64 0)).run Tryd.prog V = .ok (.int .i64 a) V := fun V => by kernel_rfl
  have x1 : ∀ V, (Instr.index 81 (.agg #[.int .i64 a, .int .i64 b]) (.int .i64 1)).run Tryd.prog V = .ok (.int .i64 b) V := fun V => by kernel_rfl
  have s0 : ∀ V, (Instr.index 9 (.string ⟨#[111]⟩) (.int .i64 0)).run Tryd.prog V = .ok (.int .u8 111) V := fun V => by kernel_rfl
  generalize hQ : WrR c a b w = Q at HE ⊢
  have HB := Lib.hid (WrS.begin w c a b sz)
  go_enter Tryd.func17, Tryd.ntmps17
  go_wp2_with (first | (go_at_call 25; refine (HI.out _).mono ?_; rintro e w2 ⟨rfl, hw⟩; obtain rfl := hw.symm) | (go_at_call 27; refine (HO.out _).mono ?_; rintro e w2 ⟨rfl, hw⟩; obtain rfl := hw.symm))
  refine wp_loop_rounds 3 ?_
  have HS := Lib.hid (HB.out c)
  generalize ((w.alloc (.cells #[.int .i64 c, .int .i64 a, .int .i64 b, .int .i64 sz] 25)).alloc (.cells #[.int .u8 c] 5)) = W0 at HS ⊢
  generalize Value.slice (some ⟨w.heap.size + 1, 0, none⟩) 1 1 = v0 at HS ⊢
  rw [rounds_succ]
  go_wp2_with (first | (go_at_call 42; refine (limits_o _).mono ?_; rintro e w2 ⟨rfl, hw⟩; obtain rfl := hw.symm))
  exact HE.out _ HS.out.b
set_option maxRecDepth 100000 in
set_option maxHeartbeats 4000000 in
theorem wr3h (c a b sz : Int) (w : World) (hc : 0 ≤ c ∧ c < 41) (hk : kindO c = 3) (ha : 32767 < a) : Calls Tryd.prog 17 #[.agg #[.int .i64 c, .int .i64 a, .int .i64 b, .int .i64 sz]] w (WrR c a b w) := by
  have HE : Hid (∀ W, Below w.heap.size w W → WrR c a b w (.returned (.tuple #[.slice none 0 0, .int .i64 1])) W) := Lib.hid fun W hW => WrR.bad 1 (by unfold wrE; rw [if_neg (by omega), hk]; simp; try omega) (by decide) hW
  have HI : Hid (∀ V, Calls Tryd.prog 25 #[.int .i64 c] V fun e w' => e = .returned (.bool true) ∧ w' = V) := Lib.hid fun V => (decide_eq_true hc) ▸ isCode_c c V
  have HO : Hid (∀ V, Calls Tryd.prog 27 #[.int .i64 c] V fun e w' => e = .returned (.string ⟨#[111]⟩) ∧ w' = V) := Lib.hid fun V => by have := operands_c c V; rw [hk] at this; exact this
  have dl0 : decide (a < -32768) = false := decide_eq_false (by omega)
  have dh0 : decide (32767 < a) = true := decide_eq_true (by omega)
  have x0 : ∀ V, (Instr.index 81 (.agg #[.int .i64 a, .int .i64 b]) (.int .i64 0)).run Tryd.prog V = .ok (.int .i64 a) V := fun V => by kernel_rfl
  have x1 : ∀ V, (Instr.index 81 (.agg #[.int .i64 a, .int .i64 b]) (.int .i64 1)).run Tryd.prog V = .ok (.int .i64 b) V := fun V => by kernel_rfl
  have s0 : ∀ V, (Instr.index 9 (.string ⟨#[111]⟩) (.int .i64 0)).run Tryd.prog V = .ok (.int .u8 111) V := fun V => by kernel_rfl
  generalize hQ : WrR c a b w = Q at HE ⊢
  have HB := Lib.hid (WrS.begin w c a b sz)
  go_enter Tryd.func17, Tryd.ntmps17
  go_wp2_with (first | (go_at_call 25; refine (HI.out _).mono ?_; rintro e w2 ⟨rfl, hw⟩; obtain rfl := hw.symm) | (go_at_call 27; refine (HO.out _).mono ?_; rintro e w2 ⟨rfl, hw⟩; obtain rfl := hw.symm))
  refine wp_loop_rounds 3 ?_
  have HS := Lib.hid (HB.out c)
  generalize ((w.alloc (.cells #[.int .i64 c, .int .i64 a, .int .i64 b, .int .i64 sz] 25)).alloc (.cells #[.int .u8 c] 5)) = W0 at HS ⊢
  generalize Value.slice (some ⟨w.heap.size + 1, 0, none⟩) 1 1 = v0 at HS ⊢
  rw [rounds_succ]
  go_wp2_with (first | (go_at_call 42; refine (limits_o _).mono ?_; rintro e w2 ⟨rfl, hw⟩; obtain rfl := hw.symm))
  exact HE.out _ HS.out.b
set_option maxRecDepth 100000 in
set_option maxHeartbeats 4000000 in
theorem wr3x (c a b sz : Int) (w : World) (hc : 0 ≤ c ∧ c < 41) (hk : kindO c = 3) (ha : -32768 ≤ a ∧ a ≤ 32767) (hb : b ≠ 0) : Calls Tryd.prog 17 #[.agg #[.int .i64 c, .int .i64 a, .int .i64 b, .int .i64 sz]] w (WrR c a b w) := by
  have HE : Hid (∀ W, Below w.heap.size w W → WrR c a b w (.returned (.tuple #[.slice none 0 0, .int .i64 1])) W) := Lib.hid fun W hW => WrR.bad 1 (by unfold wrE; rw [if_neg (by omega), hk]; simp; try omega) (by decide) hW
  have HI : Hid (∀ V, Calls Tryd.prog 25 #[.int .i64 c] V fun e w' => e = .returned (.bool true) ∧ w' = V) := Lib.hid fun V => (decide_eq_true hc) ▸ isCode_c c V
  have HO : Hid (∀ V, Calls Tryd.prog 27 #[.int .i64 c] V fun e w' => e = .returned (.string ⟨#[111]⟩) ∧ w' = V) := Lib.hid fun V => by have := operands_c c V; rw [hk] at this; exact this
  have dl0 : decide (a < -32768) = false := decide_eq_false (by omega)
  have dh0 : decide (32767 < a) = false := decide_eq_false (by omega)
  have dn1 : (b != 0) = true := by simpa using (by assumption : b ≠ 0)
  have x0 : ∀ V, (Instr.index 81 (.agg #[.int .i64 a, .int .i64 b]) (.int .i64 0)).run Tryd.prog V = .ok (.int .i64 a) V := fun V => by kernel_rfl
  have x1 : ∀ V, (Instr.index 81 (.agg #[.int .i64 a, .int .i64 b]) (.int .i64 1)).run Tryd.prog V = .ok (.int .i64 b) V := fun V => by kernel_rfl
  have s0 : ∀ V, (Instr.index 9 (.string ⟨#[111]⟩) (.int .i64 0)).run Tryd.prog V = .ok (.int .u8 111) V := fun V => by kernel_rfl
  generalize hQ : WrR c a b w = Q at HE ⊢
  have HB := Lib.hid (WrS.begin w c a b sz)
  go_enter Tryd.func17, Tryd.ntmps17
  go_wp2_with (first | (go_at_call 25; refine (HI.out _).mono ?_; rintro e w2 ⟨rfl, hw⟩; obtain rfl := hw.symm) | (go_at_call 27; refine (HO.out _).mono ?_; rintro e w2 ⟨rfl, hw⟩; obtain rfl := hw.symm))
  refine wp_loop_rounds 3 ?_
  have HS := Lib.hid (HB.out c)
  generalize ((w.alloc (.cells #[.int .i64 c, .int .i64 a, .int .i64 b, .int .i64 sz] 25)).alloc (.cells #[.int .u8 c] 5)) = W0 at HS ⊢
  generalize Value.slice (some ⟨w.heap.size + 1, 0, none⟩) 1 1 = v0 at HS ⊢
  rw [rounds_succ]
  go_upto_region 14 with (first | (go_at_call 42; refine (limits_o _).mono ?_; rintro e w2 ⟨rfl, hw⟩; obtain rfl := hw.symm))
  obtain ⟨v1, W1, hr, hs⟩ := HS.out.next (by show (1 : Nat) ≤ 90000; decide) (IntKind.u8.wrap a)
  replace HS := Lib.hid hs
  have HR1 := Lib.hid hr
  clear hs hr
  go_upto_region 16 with (first | (at_builtin; refine Lib.wpList_append_run _ rfl _ _ _ _ rfl _ _ rfl rfl _ _ HR1.out ?_))
  obtain ⟨v2, W2, hr, hs⟩ := HS.out.next (by show (2 : Nat) ≤ 90000; decide) (a / 256 % 256)
  replace HS := Lib.hid hs
  have HR2 := Lib.hid hr
  clear hs hr
  go_wp2_with (first | (at_builtin; refine Lib.wpList_append_run _ rfl _ _ _ _ rfl _ _ rfl rfl _ _ HR2.out ?_))
  rw [rounds_succ]
  go_wp2_with (first | (go_at_call 42; refine (limits_u _).mono ?_; rintro e w2 ⟨rfl, hw⟩; obtain rfl := hw.symm))
  exact HE.out _ HS.out.b
set_option maxRecDepth 100000 in
set_option maxHeartbeats 4000000 in
theorem wr3 (c a b sz : Int) (w : World) (hc : 0 ≤ c ∧ c < 41) (hk : kindO c = 3) (ha : -32768 ≤ a ∧ a ≤ 32767) (hb : b = 0) : Calls Tryd.prog 17 #[.agg #[.int .i64 c, .int .i64 a, .int .i64 b, .int .i64 sz]] w (WrR c a b w) := by
  subst hb
  have HE : wrE c a 0 = 0 := by unfold wrE; rw [if_neg (by omega), hk]; simp; try omega
  have HL : wrL c a 0 = c :: (if 3 = 0 then [] else if 3 = 3 then [(a : Int) % 256, (a : Int) / 256 % 256] else if 3 = 4 then [a, 0] else [(a : Int) % 256]) := by unfold wrL; rw [hk]
  have HEL := Lib.hid (And.intro HE HL)
  clear HE HL
  have HI : Hid (∀ V, Calls Tryd.prog 25 #[.int .i64 c] V fun e w' => e = .returned (.bool true) ∧ w' = V) := Lib.hid fun V => (decide_eq_true hc) ▸ isCode_c c V
  have HO : Hid (∀ V, Calls Tryd.prog 27 #[.int .i64 c] V fun e w' => e = .returned (.string ⟨#[111]⟩) ∧ w' = V) := Lib.hid fun V => by have := operands_c c V; rw [hk] at this; exact this
  have dl0 : decide (a < -32768) = false := decide_eq_false (by omega)
  have dh0 : decide (32767 < a) = false := decide_eq_false (by omega)
  have x0 : ∀ V, (Instr.index 81 (.agg #[.int .i64 a, .int .i64 0]) (.int .i64 0)).run Tryd.prog V = .ok (.int .i64 a) V := fun V => by kernel_rfl
  have x1 : ∀ V, (Instr.index 81 (.agg #[.int .i64 a, .int .i64 0]) (.int .i64 1)).run Tryd.prog V = .ok (.int .i64 0) V := fun V => by kernel_rfl
  have s0 : ∀ V, (Instr.index 9 (.string ⟨#[111]⟩) (.int .i64 0)).run Tryd.prog V = .ok (.int .u8 111) V := fun V => by kernel_rfl
  generalize hQ : WrR c a 0 w = Q
  have HB := Lib.hid (WrS.begin w c a 0 sz)
  go_enter Tryd.func17, Tryd.ntmps17
  go_wp2_with (first | (go_at_call 25; refine (HI.out _).mono ?_; rintro e w2 ⟨rfl, hw⟩; obtain rfl := hw.symm) | (go_at_call 27; refine (HO.out _).mono ?_; rintro e w2 ⟨rfl, hw⟩; obtain rfl := hw.symm))
  refine wp_loop_rounds 3 ?_
  have HS := Lib.hid (HB.out c)
  generalize ((w.alloc (.cells #[.int .i64 c, .int .i64 a, .int .i64 0, .int .i64 sz] 25)).alloc (.cells #[.int .u8 c] 5)) = W0 at HS ⊢
  generalize Value.slice (some ⟨w.heap.size + 1, 0, none⟩) 1 1 = v0 at HS ⊢
  rw [rounds_succ]
  go_upto_region 14 with (first | (go_at_call 42; refine (limits_o _).mono ?_; rintro e w2 ⟨rfl, hw⟩; obtain rfl := hw.symm))
  obtain ⟨v1, W1, hr, hs⟩ := HS.out.next (by show (1 : Nat) ≤ 90000; decide) (IntKind.u8.wrap a)
  replace HS := Lib.hid hs
  have HR1 := Lib.hid hr
  clear hs hr
  go_upto_region 16 with (first | (at_builtin; refine Lib.wpList_append_run _ rfl _ _ _ _ rfl _ _ rfl rfl _ _ HR1.out ?_))
  obtain ⟨v2, W2, hr, hs⟩ := HS.out.next (by show (2 : Nat) ≤ 90000; decide) (a / 256 % 256)
  replace HS := Lib.hid hs
  have HR2 := Lib.hid hr
  clear hs hr
  go_wp2_with (first | (at_builtin; refine Lib.wpList_append_run _ rfl _ _ _ _ rfl _ _ rfl rfl _ _ HR2.out ?_))
  rw [rounds_succ]
  go_wp2_with fail
  rw [rounds_succ]
  go_wp2_with fail
  rw [← hQ]
  exact HS.out.fin HEL.out.1 (HEL.out.2.trans rfl)
set_option maxRecDepth 100000 in
set_option maxHeartbeats 4000000 in
theorem wr4l (c a b sz : Int) (w : World) (hc : 0 ≤ c ∧ c < 41) (hk : kindO c = 4) (ha : a < 0) : Calls Tryd.prog 17 #[.agg #[.int .i64 c, .int .i64 a, .int .i64 b, .int .i64 sz]] w (WrR c a b w) := by
  have HE : Hid (∀ W, Below w.heap.size w W → WrR c a b w (.returned (.tuple #[.slice none 0 0, .int .i64 1])) W) := Lib.hid fun W hW => WrR.bad 1 (by unfold wrE; rw [if_neg (by omega), hk]; simp; try omega) (by decide) hW
  have HI : Hid (∀ V, Calls Tryd.prog 25 #[.int .i64 c] V fun e w' => e = .returned (.bool true) ∧ w' = V) := Lib.hid fun V => (decide_eq_true hc) ▸ isCode_c c V
  have HO : Hid (∀ V, Calls Tryd.prog 27 #[.int .i64 c] V fun e w' => e = .returned (.string ⟨#[117, 117]⟩) ∧ w' = V) := Lib.hid fun V => by have := operands_c c V; rw [hk] at this; exact this
  have dl0 : decide (a < 0) = true := decide_eq_true (by omega)
  have x0 : ∀ V, (Instr.index 81 (.agg #[.int .i64 a, .int .i64 b]) (.int .i64 0)).run Tryd.prog V = .ok (.int .i64 a) V := fun V => by kernel_rfl
  have x1 : ∀ V, (Instr.index 81 (.agg #[.int .i64 a, .int .i64 b]) (.int .i64 1)).run Tryd.prog V = .ok (.int .i64 b) V := fun V => by kernel_rfl
  have s0 : ∀ V, (Instr.index 9 (.string ⟨#[117, 117]⟩) (.int .i64 0)).run Tryd.prog V = .ok (.int .u8 117) V := fun V => by kernel_rfl
  have s1 : ∀ V, (Instr.index 9 (.string ⟨#[117, 117]⟩) (.int .i64 1)).run Tryd.prog V = .ok (.int .u8 117) V := fun V => by kernel_rfl
  generalize hQ : WrR c a b w = Q at HE ⊢
  have HB := Lib.hid (WrS.begin w c a b sz)
  go_enter Tryd.func17, Tryd.ntmps17
  go_wp2_with (first | (go_at_call 25; refine (HI.out _).mono ?_; rintro e w2 ⟨rfl, hw⟩; obtain rfl := hw.symm) | (go_at_call 27; refine (HO.out _).mono ?_; rintro e w2 ⟨rfl, hw⟩; obtain rfl := hw.symm))
  refine wp_loop_rounds 3 ?_
  have HS := Lib.hid (HB.out c)
  generalize ((w.alloc (.cells #[.int .i64 c, .int .i64 a, .int .i64 b, .int .i64 sz] 25)).alloc (.cells #[.int .u8 c] 5)) = W0 at HS ⊢
  generalize Value.slice (some ⟨w.heap.size + 1, 0, none⟩) 1 1 = v0 at HS ⊢
  rw [rounds_succ]
  go_wp2_with (first | (go_at_call 42; refine (limits_u _).mono ?_; rintro e w2 ⟨rfl, hw⟩; obtain rfl := hw.symm))
  exact HE.out _ HS.out.b
set_option maxRecDepth 100000 in
set_option maxHeartbeats 4000000 in
theorem wr4h (c a b sz : Int) (w : World) (hc : 0 ≤ c ∧ c < 41) (hk : kindO c = 4) (ha : 255 < a) : Calls Tryd.prog 17 #[.agg #[.int .i64 c, .int .i64 a, .int .i64 b, .int .i64 sz]] w (WrR c a b w) := by
  have HE : Hid (∀ W, Below w.heap.size w W → WrR c a b w (.returned (.tuple #[.slice none 0 0, .int .i64 1])) W) := Lib.hid fun W hW => WrR.bad 1 (by unfold wrE; rw [if_neg (by omega), hk]; simp; try omega) (by decide) hW
  have HI : Hid (∀ V, Calls Tryd.prog 25 #[.int .i64 c] V fun e w' => e = .returned (.bool true) ∧ w' = V) := Lib.hid fun V => (decide_eq_true hc) ▸ isCode_c c V
  have HO : Hid (∀ V, Calls Tryd.prog 27 #[.int .i64 c] V fun e w' => e = .returned (.string ⟨#[117, 117]⟩) ∧ w' = V) := Lib.hid fun V => by have := operands_c c V; rw [hk] at this; exact this
  have dl0 : decide (a < 0) = false := decide_eq_false (by omega)
  have dh0 : decide (255 < a) = true := decide_eq_true (by omega)
  have x0 : ∀ V, (Instr.index 81 (.agg #[.int .i64 a, .int .i64 b]) (.int .i64 0)).run Tryd.prog V = .ok (.int .i64 a) V := fun V => by kernel_rfl
  have x1 : ∀ V, (Instr.index 81 (.agg #[.int .i64 a, .int .i64 b]) (.int .i64 1)).run Tryd.prog V = .ok (.int .i64 b) V := fun V => by kernel_rfl
  have s0 : ∀ V, (Instr.index 9 (.string ⟨#[117, 117]⟩) (.int .i64 0)).run Tryd.prog V = .ok (.int .u8 117) V := fun V => by kernel_rfl
  have s1 : ∀ V, (Instr.index 9 (.string ⟨#[117, 117]⟩) (.int .i64 1)).run Tryd.prog V = .ok (.int .u8 117) V := fun V => by kernel_rfl
  generalize hQ : WrR c a b w = Q at HE ⊢
  have HB := Lib.hid (WrS.begin w c a b sz)
  go_enter Tryd.func17, Tryd.ntmps17
  go_wp2_with (first | (go_at_call 25; refine (HI.out _).mono ?_; rintro e w2 ⟨rfl, hw⟩; obtain rfl := hw.symm) | (go_at_call 27; refine (HO.out _).mono ?_; rintro e w2 ⟨rfl, hw⟩; obtain rfl := hw.symm))
  refine wp_loop_rounds 3 ?_
  have HS := Lib.hid (HB.out c)
  generalize ((w.alloc (.cells #[.int .i64 c, .int .i64 a, .int .i64 b, .int .i64 sz] 25)).alloc (.cells #[.int .u8 c] 5)) = W0 at HS ⊢
  generalize Value.slice (some ⟨w.heap.size + 1, 0, none⟩) 1 1 = v0 at HS ⊢
  rw [rounds_succ]
  go_wp2_with (first | (go_at_call 42; refine (limits_u _).mono ?_; rintro e w2 ⟨rfl, hw⟩; obtain rfl := hw.symm))
  exact HE.out _ HS.out.b
set_option maxRecDepth 100000 in
set_option maxHeartbeats 4000000 in
theorem wr4m (c a b sz : Int) (w : World) (hc : 0 ≤ c ∧ c < 41) (hk : kindO c = 4) (ha : 0 ≤ a ∧ a ≤ 255) (hb : b < 0) : Calls Tryd.prog 17 #[.agg #[.int .i64 c, .int .i64 a, .int .i64 b, .int .i64 sz]] w (WrR c a b w) := by
  have HE : Hid (∀ W, Below w.heap.size w W → WrR c a b w (.returned (.tuple #[.slice none 0 0, .int .i64 1])) W) := Lib.hid fun W hW => WrR.bad 1 (by unfold wrE; rw [if_neg (by omega), hk]; simp; try omega) (by decide) hW
  have HI : Hid (∀ V, Calls Tryd.prog 25 #[.int .i64 c] V fun e w' => e = .returned (.bool true) ∧ w' = V) := Lib.hid fun V => (decide_eq_true hc) ▸ isCode_c c V
  have HO : Hid (∀ V, Calls Tryd.prog 27 #[.int .i64 c] V fun e w' => e = .returned (.string ⟨#[117, 117]⟩) ∧ w' = V) := Lib.hid fun V => by have := operands_c c V; rw [hk] at this; exact this
  have dl0 : decide (a < 0) = false := decide_eq_false (by omega)
  have dh0 : decide (255 < a) = false := decide_eq_false (by omega)
  have dl1 : decide (b < 0) = true := decide_eq_true (by omega)
  have x0 : ∀ V, (Instr.index 81 (.agg #[.int .i64 a, .int .i64 b]) (.int .i64 0)).run Tryd.prog V = .ok (.int .i64 a) V := fun V => by kernel_rfl
  have x1 : ∀ V, (Instr.index 81 (.agg #[.int .i64 a, .int .i64 b]) (.int .i64 1)).run Tryd.prog V = .ok (.int .i64 b) V := fun V => by kernel_rfl
  have s0 : ∀ V, (Instr.index 9 (.string ⟨#[117, 117]⟩) (.int .i64 0)).run Tryd.prog V = .ok (.int .u8 117) V := fun V => by kernel_rfl
  have s1 : ∀ V, (Instr.index 9 (.string ⟨#[117, 117]⟩) (.int .i64 1)).run Tryd.prog V = .ok (.int .u8 117) V := fun V => by kernel_rfl
  generalize hQ : WrR c a b w = Q at HE ⊢
  have HB := Lib.hid (WrS.begin w c a b sz)
  go_enter Tryd.func17, Tryd.ntmps17
  go_wp2_with (first | (go_at_call 25; refine (HI.out _).mono ?_; rintro e w2 ⟨rfl, hw⟩; obtain rfl := hw.symm) | (go_at_call 27; refine (HO.out _).mono ?_; rintro e w2 ⟨rfl, hw⟩; obtain rfl := hw.symm))
  refine wp_loop_rounds 3 ?_
  have HS := Lib.hid (HB.out c)
  generalize ((w.alloc (.cells #[.int .i64 c, .int .i64 a, .int .i64 b, .int .i64 sz] 25)).alloc (.cells #[.int .u8 c] 5)) = W0 at HS ⊢
  generalize Value.slice (some ⟨w.heap.size + 1, 0, none⟩) 1 1 = v0 at HS ⊢
  rw [rounds_succ]
  go_upto_region 14 with (first | (go_at_call 42; refine (limits_u _).mono ?_; rintro e w2 ⟨rfl, hw⟩; obtain rfl := hw.symm))
  obtain ⟨v1, W1, hr, hs⟩ := HS.out.next (by show (1 : Nat) ≤ 90000; decide) (a)
  replace HS := Lib.hid hs
  have HR1 := Lib.hid hr
  clear hs hr
  go_wp2_with (first | (at_builtin; refine Lib.wpList_append_run _ rfl _ _ _ _ rfl _ _ rfl rfl _ _ HR1.out ?_))
  rw [rounds_succ]
  go_wp2_with (first | (go_at_call 42; refine (limits_u _).mono ?_; rintro e w2 ⟨rfl, hw⟩; obtain rfl := hw.symm))
  exact HE.out _ HS.out.b
set_option maxRecDepth 100000 in
set_option maxHeartbeats 4000000 in
theorem wr4n (c a b sz : Int) (w : World) (hc : 0 ≤ c ∧ c < 41) (hk : kindO c = 4) (ha : 0 ≤ a ∧ a ≤ 255) (hb : 255 < b) : Calls Tryd.prog 17 #[.agg #[.int .i64 c, .int .i64 a, .int .i64 b, .int .i64 sz]] w (WrR c a b w) := by
  have HE : Hid (∀ W, Below w.heap.size w W → WrR c a b w (.returned (.tuple #[.slice none 0 0, .int .i64 1])) W) := Lib.hid fun W hW => WrR.bad 1 (by unfold wrE; rw [if_neg (by omega), hk]; simp; try omega) (by decide) hW
  have HI : Hid (∀ V, Calls Tryd.prog 25 #[.int .i64 c] V fun e w' => e = .returned (.bool true) ∧ w' = V) := Lib.hid fun V => (decide_eq_true hc) ▸ isCode_c c V
  have HO : Hid (∀ V, Calls Tryd.prog 27 #[.int .i64 c] V fun e w' => e = .returned (.string ⟨#[117, 117]⟩) ∧ w' = V) := Lib.hid fun V => by have := operands_c c V; rw [hk] at this; exact this
  have dl0 : decide (a < 0) = false := decide_eq_false (by omega)
  have dh0 : decide (255 < a) = false := decide_eq_false (by omega)
  have dl1 : decide (b < 0) = false := decide_eq_false (by omega)
  have dh1 : decide (255 < b) = true := decide_eq_true (by omega)
  have x0 : ∀ V, (Instr.index 81 (.agg #[.int .i64 a, .int .i64 b]) (.int .i64 0)).run Tryd.prog V = .ok (.int .i64 a) V := fun V => by kernel_rfl
  have x1 : ∀ V, (Instr.index 81 (.agg #[.int .i64 a, .int .i64 b]) (.int .i64 1)).run Tryd.prog V = .ok (.int .i64 b) V := fun V => by kernel_rfl
  have s0 : ∀ V, (Instr.index 9 (.string ⟨#[117, 117]⟩) (.int .i64 0)).run Tryd.prog V = .ok (.int .u8 117) V := fun V => by kernel_rfl
  have s1 : ∀ V, (Instr.index 9 (.string ⟨#[117, 117]⟩) (.int .i64 1)).run Tryd.prog V = .ok (.int .u8 117) V := fun V => by kernel_rfl
  generalize hQ : WrR c a b w = Q at HE ⊢
  have HB := Lib.hid (WrS.begin w c a b sz)
  go_enter Tryd.func17, Tryd.ntmps17
  go_wp2_with (first | (go_at_call 25; refine (HI.out _).mono ?_; rintro e w2 ⟨rfl, hw⟩; obtain rfl := hw.symm) | (go_at_call 27; refine (HO.out _).mono ?_; rintro e w2 ⟨rfl, hw⟩; obtain rfl := hw.symm))
  refine wp_loop_rounds 3 ?_
  have HS := Lib.hid (HB.out c)
  generalize ((w.alloc (.cells #[.int .i64 c, .int .i64 a, .int .i64 b, .int .i64 sz] 25)).alloc (.cells #[.int .u8 c] 5)) = W0 at HS ⊢
  generalize Value.slice (some ⟨w.heap.size + 1, 0, none⟩) 1 1 = v0 at HS ⊢
  rw [rounds_succ]
  go_upto_region 14 with (first | (go_at_call 42; refine (limits_u _).mono ?_; rintro e w2 ⟨rfl, hw⟩; obtain rfl := hw.symm))
  obtain ⟨v1, W1, hr, hs⟩ := HS.out.next (by show (1 : Nat) ≤ 90000; decide) (a)
  replace HS := Lib.hid hs
  have HR1 := Lib.hid hr
  clear hs hr
  go_wp2_with (first | (at_builtin; refine Lib.wpList_append_run _ rfl _ _ _ _ rfl _ _ rfl rfl _ _ HR1.out ?_))
  rw [rounds_succ]
  go_wp2_with (first | (go_at_call 42; refine (limits_u _).mono ?_; rintro e w2 ⟨rfl, hw⟩; obtain rfl := hw.symm))
  exact HE.out _ HS.out.b
set_option maxRecDepth 100000 in
set_option maxHeartbeats 4000000 in
theorem wr4 (c a b sz : Int) (w : World) (hc : 0 ≤ c ∧ c < 41) (hk : kindO c = 4) (ha : 0 ≤ a ∧ a ≤ 255) (hb : 0 ≤ b ∧ b ≤ 255) : Calls Tryd.prog 17 #[.agg #[.int .i64 c, .int .i64 a, .int .i64 b, .int .i64 sz]] w (WrR c a b w) := by
  have HE : wrE c a b = 0 := by unfold wrE; rw [if_neg (by omega), hk]; simp; try omega
  have HL : wrL c a b = c :: (if 4 = 0 then [] else if 4 = 3 then [(a : Int) % 256, (a : Int) / 256 % 256] else if 4 = 4 then [a, b] else [(a : Int) % 256]) := by unfold wrL; rw [hk]
  have HEL := Lib.hid (And.intro HE HL)
  clear HE HL
  have HI : Hid (∀ V, Calls Tryd.prog 25 #[.int .i64 c] V fun e w' => e = .returned (.bool true) ∧ w' = V) := Lib.hid fun V => (decide_eq_true hc) ▸ isCode_c c V
  have HO : Hid (∀ V, Calls Tryd.prog 27 #[.int .i64 c] V fun e w' => e = .returned (.string ⟨#[117, 117]⟩) ∧ w' = V) := Lib.hid fun V => by have := operands_c c V; rw [hk] at this; exact this
  have dl0 : decide (a < 0) = false := decide_eq_false (by omega)
  have dh0 : decide (255 < a) = false := decide_eq_false (by omega)
  have dl1 : decide (b < 0) = false := decide_eq_false (by omega)
  have dh1 : decide (255 < b) = false := decide_eq_false (by omega)
  have x0 : ∀ V, (Instr.index 81 (.agg #[.int .i64 a, .int .i64 b]) (.int .i64 0)).run Tryd.prog V = .ok (.int .i64 a) V := fun V => by kernel_rfl
  have x1 : ∀ V, (Instr.index 81 (.agg #[.int .i64 a, .int .i64 b]) (.int .i64 1)).run Tryd.prog V = .ok (.int .i64 b) V := fun V => by kernel_rfl
  have s0 : ∀ V, (Instr.index 9 (.string ⟨#[117, 117]⟩) (.int .i64 0)).run Tryd.prog V = .ok (.int .u8 117) V := fun V => by kernel_rfl
  have s1 : ∀ V, (Instr.index 9 (.string ⟨#[117, 117]⟩) (.int .i64 1)).run Tryd.prog V = .ok (.int .u8 117) V := fun V => by kernel_rfl
  generalize hQ : WrR c a b w = Q
  have HB := Lib.hid (WrS.begin w c a b sz)
  go_enter Tryd.func17, Tryd.ntmps17
  go_wp2_with (first | (go_at_call 25; refine (HI.out _).mono ?_; rintro e w2 ⟨rfl, hw⟩; obtain rfl := hw.symm) | (go_at_call 27; refine (HO.out _).mono ?_; rintro e w2 ⟨rfl, hw⟩; obtain rfl := hw.symm))
  refine wp_loop_rounds 3 ?_
  have HS := Lib.hid (HB.out c)
  generalize ((w.alloc (.cells #[.int .i64 c, .int .i64 a, .int .i64 b, .int .i64 sz] 25)).alloc (.cells #[.int .u8 c] 5)) = W0 at HS ⊢
  generalize Value.slice (some ⟨w.heap.size + 1, 0, none⟩) 1 1 = v0 at HS ⊢
  rw [rounds_succ]
  go_upto_region 14 with (first | (go_at_call 42; refine (limits_u _).mono ?_; rintro e w2 ⟨rfl, hw⟩; obtain rfl := hw.symm))
  obtain ⟨v1, W1, hr, hs⟩ := HS.out.next (by show (1 : Nat) ≤ 90000; decide) (a)
  replace HS := Lib.hid hs
  have HR1 := Lib.hid hr
  clear hs hr
  go_wp2_with (first | (at_builtin; refine Lib.wpList_append_run _ rfl _ _ _ _ rfl _ _ rfl rfl _ _ HR1.out ?_))
  rw [rounds_succ]
  go_upto_region 14 with (first | (go_at_call 42; refine (limits_u _).mono ?_; rintro e w2 ⟨rfl, hw⟩; obtain rfl := hw.symm))
  obtain ⟨v2, W2, hr, hs⟩ := HS.out.next (by show (2 : Nat) ≤ 90000; decide) (b)
  replace HS := Lib.hid hs
  have HR2 := Lib.hid hr
  clear hs hr
  go_wp2_with (first | (at_builtin; refine Lib.wpList_append_run _ rfl _ _ _ _ rfl _ _ rfl rfl _ _ HR2.out ?_))
  rw [rounds_succ]
  go_wp2_with fail
  rw [← hQ]
  exact HS.out.fin HEL.out.1 (HEL.out.2.trans rfl)
theorem kindO_cs (c : Int) : kindO c = 0 ∨ kindO c = 1 ∨ kindO c = 2 ∨ kindO c = 3 ∨ kindO c = 4 := by
  unfold kindO
  repeat' split
  all_goals simp

theorem write_c (c a b sz : Int) (w : World) : Calls Tryd.prog 17 #[.agg #[.int .i64 c, .int .i64 a, .int .i64 b, .int .i64 sz]] w (WrR c a b w) := by
  by_cases hc : 0 ≤ c ∧ c < 41
  · rcases kindO_cs c with hk | hk | hk | hk | hk
    · by_cases ha : a = 0
      · by_cases hb : b = 0
        · exact wr0 c a b sz w hc hk ha hb
        · exact wr0y c a b sz w hc hk ha hb
      · exact wr0x c a b sz w hc hk ha
    · by_cases h1 : a < 0
      · exact wr1l c a b sz w hc hk h1
      · by_cases h2 : 255 < a
        · exact wr1h c a b sz w hc hk h2
        · by_cases hb : b = 0
          · exact wr1 c a b sz w hc hk (by omega) hb
          · exact wr1x c a b sz w hc hk (by omega) hb
    · by_cases h1 : a < -128
      · exact wr2l c a b sz w hc hk h1
      · by_cases h2 : 127 < a
        · exact wr2h c a b sz w hc hk h2
        · by_cases hb : b = 0
          · exact wr2 c a b sz w hc hk (by omega) hb
          · exact wr2x c a b sz w hc hk (by omega) hb
    · by_cases h1 : a < -32768
      · exact wr3l c a b sz w hc hk h1
      · by_cases h2 : 32767 < a
        · exact wr3h c a b sz w hc hk h2
        · by_cases hb : b = 0
          · exact wr3 c a b sz w hc hk (by omega) hb
          · exact wr3x c a b sz w hc hk (by omega) hb
    · by_cases h1 : a < 0
      · exact wr4l c a b sz w hc hk h1
      · by_cases h2 : 255 < a
        · exact wr4h c a b sz w hc hk h2
        · by_cases h3 : b < 0
          · exact wr4m c a b sz w hc hk (by omega) h3
          · by_cases h4 : 255 < b
            · exact wr4n c a b sz w hc hk (by omega) h4
            · exact wr4 c a b sz w hc hk (by omega) (by omega)
  · have HE : Hid (∀ W, Below w.heap.size w W → WrR c a b w (.returned (.tuple #[.slice none 0 0, .int .i64 5])) W) := Lib.hid fun W hW => WrR.bad 5 (if_pos hc) (by decide) hW
    have HI : Hid (∀ V, Calls Tryd.prog 25 #[.int .i64 c] V fun e w' => e = .returned (.bool false) ∧ w' = V) := Lib.hid fun V => (decide_eq_false hc) ▸ isCode_c c V
    generalize WrR c a b w = Q at HE ⊢
    go_enter Tryd.func17, Tryd.ntmps17
    go_wp2_with (first | (go_at_call 25; refine (HI.out _).mono ?_; rintro e w2 ⟨rfl, hw⟩; obtain rfl := hw.symm))
    exact HE.out _ ((Below.refl _ _).alloc (Nat.le_refl _) _)
end Go.Proofs.YtgdlcnngplfjnaaDoor.Co
