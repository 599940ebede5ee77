import Derived.Test.YtnbpgoacooddjaaRows
import Derived.WalkKit
import Derived.ProofKit
import Derived.OpenShut
import Derived.Deep.QuietTactic
import Derived.BigQuiet
import Derived.Outline
import Derived.WalkSmall
import Derived.WalkLawsBesides
import Derived.WalkSpells
import Derived.BigGuardPart
import Derived.RegionTactic
import Derived.Deep.RegionHeld3
import Derived.Lib.Hide
import Derived.Deep.MidRow
import Derived.Below
import Derived.Deep.RegionWith
import Derived.Test.YtnbpgoacooddjaaSmC
import Derived.Test.YtnbpgoacooddjaaSmF
namespace Go.Proofs.Ytnbpgoacooddjaa
open Go.ChangeShapes Go.WideShapes Go.ChangeAt Go.RowKit
set_option linter.unusedVariables false

attribute [local go_sem ↓] ld76 ld25 ld38
attribute [local go_sem] rowAt_drew rowAt_drewN
set_option maxRecDepth 100000 in
set_option maxHeartbeats 2000000 in
theorem holds_c (o d n m a c i pc : Int) (r : Rg) (w : World) :
    Calls Try.prog 237 #[.agg (coA #[.int .i64 o, .int .i64 d, .int .i64 n, .int .i64 m, .int .i64 a, .int .i64 c, .int .i64 i] pc r)] w fun e w' => e = .returned (.bool (r.hold c)) ∧ Below w.heap.size w w' := by
  have hc5 := coA_lo (i := #[.int .i64 o, .int .i64 d, .int .i64 n, .int .i64 m, .int .i64 a, .int .i64 c, .int .i64 i]) rfl pc r 5 (by omega)
  have HA := Lib.hid (coA_all (i := #[.int .i64 o, .int .i64 d, .int .i64 n, .int .i64 m, .int .i64 a, .int .i64 c, .int .i64 i]) rfl pc r)
  have HS := Lib.hid (coA_size (i := #[.int .i64 o, .int .i64 d, .int .i64 n, .int .i64 m, .int .i64 a, .int .i64 c, .int .i64 i]) rfl pc r)
  have HL := Lib.hid (fun w b => core_regs (w := w) (b := b) (i := #[.int .i64 o, .int .i64 d, .int .i64 n, .int .i64 m, .int .i64 a, .int .i64 c, .int .i64 i]) rfl (pc := pc) (r := r))
  have HM := Lib.hid (fun w b => core_all (w := w) (b := b) (i := #[.int .i64 o, .int .i64 d, .int .i64 n, .int .i64 m, .int .i64 a, .int .i64 c, .int .i64 i]) rfl (pc := pc) (r := r))
  simp only [List.getElem?_toArray, List.getElem?_cons_zero, List.getElem?_cons_succ] at hc5
  generalize hC : coA #[.int .i64 o, .int .i64 d, .int .i64 n, .int .i64 m, .int .i64 a, .int .i64 c, .int .i64 i] pc r = C at *
  have HB := Lib.hid (rowAt_new w C 257)
  clear hC
  go_enter Try.func237, Try.ntmps237
  go_wp2_with (first | (refine wpl_load rfl 26 _ rfl w.heap.size 8 rfl r.arr (HL.out _ _ HB.out) ?_))
  refine (hold15 r c _).mono ?_
  rintro e w2 ⟨rfl, hb⟩
  have HB2 := Lib.hid (((Below.refl _ _).alloc (Nat.le_refl _) (.cells C 257)).trans (hb.mono (by simp)))
  clear hb
  go_wp2
  go_ret
  exact ⟨rfl, HB2.out⟩
set_option maxRecDepth 100000 in
set_option maxHeartbeats 2000000 in
theorem mem19 (w : World) : Calls Try.prog 154 #[.int .i64 19] w fun e w' => e = .returned (.bool false) ∧ w' = w := by
  go_enter Try.func154, Try.ntmps154
  go_wp2
  go_ret
  exact ⟨rfl, rfl⟩
set_option maxRecDepth 100000 in
set_option maxHeartbeats 2000000 in
theorem first_cs (d n m a c i pc : Int) (r : Rg) (w : World) :
    Calls Try.prog 213 #[.agg (coA #[.int .i64 19, .int .i64 d, .int .i64 n, .int .i64 m, .int .i64 a, .int .i64 c, .int .i64 i] pc r)] w fun e w' => e = .returned (.int .u64 (r.get n)) ∧ Below w.heap.size w w' := by
  by_cases h : n = 31
  case neg => exact first_c 19 d n m a c i pc r w (by simpa using h)
  have hn : (n == 31) = true := by simpa using h
  clear h
  have hc0 := coA_lo (i := #[.int .i64 19, .int .i64 d, .int .i64 n, .int .i64 m, .int .i64 a, .int .i64 c, .int .i64 i]) rfl pc r 0 (by omega)
  have hc2 := coA_lo (i := #[.int .i64 19, .int .i64 d, .int .i64 n, .int .i64 m, .int .i64 a, .int .i64 c, .int .i64 i]) rfl pc r 2 (by omega)
  have HA := Lib.hid (coA_all (i := #[.int .i64 19, .int .i64 d, .int .i64 n, .int .i64 m, .int .i64 a, .int .i64 c, .int .i64 i]) rfl pc r)
  have HS := Lib.hid (coA_size (i := #[.int .i64 19, .int .i64 d, .int .i64 n, .int .i64 m, .int .i64 a, .int .i64 c, .int .i64 i]) rfl pc r)
  have HL := Lib.hid (fun w b => core_regs (w := w) (b := b) (i := #[.int .i64 19, .int .i64 d, .int .i64 n, .int .i64 m, .int .i64 a, .int .i64 c, .int .i64 i]) rfl (pc := pc) (r := r))
  have HM := Lib.hid (fun w b => core_all (w := w) (b := b) (i := #[.int .i64 19, .int .i64 d, .int .i64 n, .int .i64 m, .int .i64 a, .int .i64 c, .int .i64 i]) rfl (pc := pc) (r := r))
  simp only [List.getElem?_toArray, List.getElem?_cons_zero, List.getElem?_cons_succ] at hc0 hc2
  generalize hC : coA #[.int .i64 19, .int .i64 d, .int .i64 n, .int .i64 m, .int .i64 a, .int .i64 c, .int .i64 i] pc r = C at *
  have HB := Lib.hid (rowAt_new w C 257)
  clear hC
  go_enter Try.func213, Try.ntmps213
  go_wp2_with (first | (refine wpl_load rfl 26 _ rfl w.heap.size 8 rfl r.arr (HL.out _ _ HB.out) ?_) | (go_at_call 154; refine (mem19 _).mono ?_; rintro e w' ⟨rfl, rfl⟩))
  refine (get11 r n _).mono ?_
  rintro e w2 ⟨rfl, hb⟩
  have HB2 := Lib.hid (((Below.refl _ _).alloc (Nat.le_refl _) (.cells C 257)).trans (hb.mono (by simp)))
  clear hb
  go_wp2
  go_ret
  exact ⟨rfl, HB2.out⟩
set_option maxRecDepth 100000 in
set_option maxHeartbeats 2000000 in
theorem choose_c (d n m a c i pc : Int) (r : Rg) (w : World) (b : Bool) (hb : r.hold c = b) :
    Calls Try.prog 252 #[.agg (coA #[.int .i64 19, .int .i64 d, .int .i64 n, .int .i64 m, .int .i64 a, .int .i64 c, .int .i64 i] pc r)] w fun e w' => e = .returned (.int .u64 (if b then r.get n else IntKind.u64.wrap (r.get m + 1))) ∧ Below w.heap.size w w' := by
  have H1 := fun w => Lib.hid (holds_c 19 d n m a c i pc r w)
  have H2 := fun w => Lib.hid (first_cs d n m a c i pc r w)
  have H3 := fun w => Lib.hid (second_c 19 d n m a c i pc r w)
  have HH := Lib.hid hb
  clear hb
  have HA := Lib.hid (coA_all (i := #[.int .i64 19, .int .i64 d, .int .i64 n, .int .i64 m, .int .i64 a, .int .i64 c, .int .i64 i]) rfl pc r)
  have HS := Lib.hid (coA_size (i := #[.int .i64 19, .int .i64 d, .int .i64 n, .int .i64 m, .int .i64 a, .int .i64 c, .int .i64 i]) rfl pc r)
  have HL := Lib.hid (fun w b => core_regs (w := w) (b := b) (i := #[.int .i64 19, .int .i64 d, .int .i64 n, .int .i64 m, .int .i64 a, .int .i64 c, .int .i64 i]) rfl (pc := pc) (r := r))
  have HM := Lib.hid (fun w b => core_all (w := w) (b := b) (i := #[.int .i64 19, .int .i64 d, .int .i64 n, .int .i64 m, .int .i64 a, .int .i64 c, .int .i64 i]) rfl (pc := pc) (r := r))
  generalize hC : coA #[.int .i64 19, .int .i64 d, .int .i64 n, .int .i64 m, .int .i64 a, .int .i64 c, .int .i64 i] pc r = C at *
  have HB := Lib.hid (rowAt_new w C 257)
  clear hC
  cases b
  all_goals
    go_enter Try.func252, Try.ntmps252
    go_wp2_with (first | (refine wpl_load rfl 257 _ rfl w.heap.size 0 rfl C (HM.out _ _ HB.out) ?_))
    refine (H1 _).out.mono ?_
    rintro e w2 ⟨rfl, hb⟩
    rw [HH.out]
    have HB2 := Lib.hid (((Below.refl _ _).alloc (Nat.le_refl _) (.cells C 257)).trans (hb.mono (by simp)))
    have hr2 := Lib.hid (rowAt_below HB.out hb rfl)
    clear hb
    go_wp2_with (first | (refine wpl_load rfl 257 _ rfl w.heap.size 0 rfl C (HM.out _ _ hr2.out) ?_))
    first | refine (H2 _).out.mono ?_ | refine (H3 _).out.mono ?_
    rintro e w3 ⟨rfl, hb⟩
    have HB3 := Lib.hid (HB2.out.trans (hb.mono HB2.out.size))
    clear hb
    go_wp2
    go_ret
    exact ⟨rfl, HB3.out⟩
end Go.Proofs.Ytnbpgoacooddjaa
