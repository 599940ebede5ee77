import Derived.Test.YtnbpgoacooddjaaRows
import Derived.WalkKit
import Derived.ProofKit
import Derived.OpenShut
import Derived.Deep.QuietTactic
import Derived.BigQuiet
import Derived.Outline
import Derived.WalkSmall
import Derived.WalkLawsBesides
import Derived.WalkSpells
import Derived.BigGuardPart
import Derived.RegionTactic
import Derived.Deep.RegionHeld3
import Derived.Lib.Hide
import Derived.Deep.MidRow
import Derived.Below
import Derived.Deep.RegionWith
import Derived.Test.YtnbpgoacooddjaaSfB
import Derived.Test.YtnbpgoacooddjaaSmH
import Derived.Laws.BitsAllLaws
import Derived.Laws.BitsLemmas
namespace Go.Proofs.Ytnbpgoacooddjaa
open Go.ChangeShapes Go.WideShapes Go.ChangeAt Go.RowKit
set_option linter.unusedVariables false
attribute [local go_sem ↓] ld76 ld25 ld38
attribute [local go_sem] rowAt_drew rowAt_drewN
set_option maxRecDepth 100000 in
set_option maxHeartbeats 4000000 in
theorem stored_36 (d n m a c i pc : Int) (r : Rg) (w : World) :
    Calls Try.prog 195 #[.agg (coA #[.int .i64 36, .int .i64 d, .int .i64 n, .int .i64 m, .int .i64 a, .int .i64 c, .int .i64 i] pc r)] w fun e w' => e = .returned (.int .u64 (r.get m)) ∧ Below w.heap.size w w' := by
  have H1 := fun w => Lib.hid (second_c 36 d n m a c i pc r w)
  have hc0 := coA_lo (i := #[.int .i64 36, .int .i64 d, .int .i64 n, .int .i64 m, .int .i64 a, .int .i64 c, .int .i64 i]) rfl pc r 0 (by omega)
  have HA := Lib.hid (coA_all (i := #[.int .i64 36, .int .i64 d, .int .i64 n, .int .i64 m, .int .i64 a, .int .i64 c, .int .i64 i]) rfl pc r)
  have HS := Lib.hid (coA_size (i := #[.int .i64 36, .int .i64 d, .int .i64 n, .int .i64 m, .int .i64 a, .int .i64 c, .int .i64 i]) rfl pc r)
  have HL := Lib.hid (fun w b => core_regs (w := w) (b := b) (i := #[.int .i64 36, .int .i64 d, .int .i64 n, .int .i64 m, .int .i64 a, .int .i64 c, .int .i64 i]) rfl (pc := pc) (r := r))
  have HM := Lib.hid (fun w b => core_all (w := w) (b := b) (i := #[.int .i64 36, .int .i64 d, .int .i64 n, .int .i64 m, .int .i64 a, .int .i64 c, .int .i64 i]) rfl (pc := pc) (r := r))
  simp only [List.getElem?_toArray, List.getElem?_cons_zero] at hc0
  generalize hC : coA #[.int .i64 36, .int .i64 d, .int .i64 n, .int .i64 m, .int .i64 a, .int .i64 c, .int .i64 i] pc r = C at *
  have HB := Lib.hid (rowAt_new w C 257)
  clear hC
  go_enter Try.func195, Try.ntmps195
  go_wp2_with (first | (refine wpl_load rfl 257 _ rfl w.heap.size 0 rfl C (HM.out _ _ HB.out) ?_))
  refine (H1 _).out.mono ?_
  rintro e w2 ⟨rfl, hb⟩
  have HB2 := Lib.hid (((Below.refl _ _).alloc (Nat.le_refl _) (.cells C 257)).trans (hb.mono (by simp)))
  clear hb
  go_wp2
  go_ret
  exact ⟨rfl, HB2.out⟩
theorem store_28 (w : World) : Calls Try.prog 155 #[.int .i64 28] w fun e w' => e = .returned (.bool false) ∧ w' = w := by
  go_enter Try.func155, Try.ntmps155
  go_wp2
  go_ret
  exact ⟨rfl, rfl⟩
set_option maxRecDepth 100000 in
set_option maxHeartbeats 4000000 in
theorem stored_28 (d n m a c i pc : Int) (r : Rg) (w : World) :
    Calls Try.prog 195 #[.agg (coA #[.int .i64 28, .int .i64 d, .int .i64 n, .int .i64 m, .int .i64 a, .int .i64 c, .int .i64 i] pc r)] w fun e w' => e = .returned (.int .u64 (0)) ∧ Below w.heap.size w w' := by
  have hc0 := coA_lo (i := #[.int .i64 28, .int .i64 d, .int .i64 n, .int .i64 m, .int .i64 a, .int .i64 c, .int .i64 i]) rfl pc r 0 (by omega)
  have hc1 := coA_lo (i := #[.int .i64 28, .int .i64 d, .int .i64 n, .int .i64 m, .int .i64 a, .int .i64 c, .int .i64 i]) rfl pc r 1 (by omega)
  have HA := Lib.hid (coA_all (i := #[.int .i64 28, .int .i64 d, .int .i64 n, .int .i64 m, .int .i64 a, .int .i64 c, .int .i64 i]) rfl pc r)
  have HS := Lib.hid (coA_size (i := #[.int .i64 28, .int .i64 d, .int .i64 n, .int .i64 m, .int .i64 a, .int .i64 c, .int .i64 i]) rfl pc r)
  have HL := Lib.hid (fun w b => core_regs (w := w) (b := b) (i := #[.int .i64 28, .int .i64 d, .int .i64 n, .int .i64 m, .int .i64 a, .int .i64 c, .int .i64 i]) rfl (pc := pc) (r := r))
  have HM := Lib.hid (fun w b => core_all (w := w) (b := b) (i := #[.int .i64 28, .int .i64 d, .int .i64 n, .int .i64 m, .int .i64 a, .int .i64 c, .int .i64 i]) rfl (pc := pc) (r := r))
  simp only [List.getElem?_toArray, List.getElem?_cons_zero, List.getElem?_cons_succ] at hc0 hc1
  generalize hC : coA #[.int .i64 28, .int .i64 d, .int .i64 n, .int .i64 m, .int .i64 a, .int .i64 c, .int .i64 i] pc r = C at *
  have HB := Lib.hid (rowAt_new w C 257)
  clear hC
  go_enter Try.func195, Try.ntmps195
  go_wp2_with (first | (refine wpl_load rfl 26 _ rfl w.heap.size 8 rfl r.arr (HL.out _ _ HB.out) ?_) | (go_at_call 155; refine (store_28 _).mono ?_; rintro e w' ⟨rfl, rfl⟩))
  go_ret
  exact ⟨rfl, (Below.refl _ _).alloc (Nat.le_refl _) (.cells C 257)⟩
theorem store_29 (w : World) : Calls Try.prog 155 #[.int .i64 29] w fun e w' => e = .returned (.bool true) ∧ w' = w := by
  go_enter Try.func155, Try.ntmps155
  go_wp2
  go_ret
  exact ⟨rfl, rfl⟩
set_option maxRecDepth 100000 in
set_option maxHeartbeats 4000000 in
theorem stored_29 (d n m a c i pc : Int) (r : Rg) (w : World) :
    Calls Try.prog 195 #[.agg (coA #[.int .i64 29, .int .i64 d, .int .i64 n, .int .i64 m, .int .i64 a, .int .i64 c, .int .i64 i] pc r)] w fun e w' => e = .returned (.int .u64 (r.get d)) ∧ Below w.heap.size w w' := by
  have hc0 := coA_lo (i := #[.int .i64 29, .int .i64 d, .int .i64 n, .int .i64 m, .int .i64 a, .int .i64 c, .int .i64 i]) rfl pc r 0 (by omega)
  have hc1 := coA_lo (i := #[.int .i64 29, .int .i64 d, .int .i64 n, .int .i64 m, .int .i64 a, .int .i64 c, .int .i64 i]) rfl pc r 1 (by omega)
  have HA := Lib.hid (coA_all (i := #[.int .i64 29, .int .i64 d, .int .i64 n, .int .i64 m, .int .i64 a, .int .i64 c, .int .i64 i]) rfl pc r)
  have HS := Lib.hid (coA_size (i := #[.int .i64 29, .int .i64 d, .int .i64 n, .int .i64 m, .int .i64 a, .int .i64 c, .int .i64 i]) rfl pc r)
  have HL := Lib.hid (fun w b => core_regs (w := w) (b := b) (i := #[.int .i64 29, .int .i64 d, .int .i64 n, .int .i64 m, .int .i64 a, .int .i64 c, .int .i64 i]) rfl (pc := pc) (r := r))
  have HM := Lib.hid (fun w b => core_all (w := w) (b := b) (i := #[.int .i64 29, .int .i64 d, .int .i64 n, .int .i64 m, .int .i64 a, .int .i64 c, .int .i64 i]) rfl (pc := pc) (r := r))
  simp only [List.getElem?_toArray, List.getElem?_cons_zero, List.getElem?_cons_succ] at hc0 hc1
  generalize hC : coA #[.int .i64 29, .int .i64 d, .int .i64 n, .int .i64 m, .int .i64 a, .int .i64 c, .int .i64 i] pc r = C at *
  have HB := Lib.hid (rowAt_new w C 257)
  clear hC
  go_enter Try.func195, Try.ntmps195
  go_wp2_with (first | (refine wpl_load rfl 26 _ rfl w.heap.size 8 rfl r.arr (HL.out _ _ HB.out) ?_) | (go_at_call 155; refine (store_29 _).mono ?_; rintro e w' ⟨rfl, rfl⟩))
  refine (get11 r d _).mono ?_
  rintro e w2 ⟨rfl, hb⟩
  have HB2 := Lib.hid (((Below.refl _ _).alloc (Nat.le_refl _) (.cells C 257)).trans (hb.mono (by simp)))
  clear hb
  go_wp2
  go_ret
  exact ⟨rfl, HB2.out⟩
theorem store_30 (w : World) : Calls Try.prog 155 #[.int .i64 30] w fun e w' => e = .returned (.bool false) ∧ w' = w := by
  go_enter Try.func155, Try.ntmps155
  go_wp2
  go_ret
  exact ⟨rfl, rfl⟩
set_option maxRecDepth 100000 in
set_option maxHeartbeats 4000000 in
theorem stored_30 (d n m a c i pc : Int) (r : Rg) (w : World) :
    Calls Try.prog 195 #[.agg (coA #[.int .i64 30, .int .i64 d, .int .i64 n, .int .i64 m, .int .i64 a, .int .i64 c, .int .i64 i] pc r)] w fun e w' => e = .returned (.int .u64 (0)) ∧ Below w.heap.size w w' := by
  have hc0 := coA_lo (i := #[.int .i64 30, .int .i64 d, .int .i64 n, .int .i64 m, .int .i64 a, .int .i64 c, .int .i64 i]) rfl pc r 0 (by omega)
  have hc1 := coA_lo (i := #[.int .i64 30, .int .i64 d, .int .i64 n, .int .i64 m, .int .i64 a, .int .i64 c, .int .i64 i]) rfl pc r 1 (by omega)
  have HA := Lib.hid (coA_all (i := #[.int .i64 30, .int .i64 d, .int .i64 n, .int .i64 m, .int .i64 a, .int .i64 c, .int .i64 i]) rfl pc r)
  have HS := Lib.hid (coA_size (i := #[.int .i64 30, .int .i64 d, .int .i64 n, .int .i64 m, .int .i64 a, .int .i64 c, .int .i64 i]) rfl pc r)
  have HL := Lib.hid (fun w b => core_regs (w := w) (b := b) (i := #[.int .i64 30, .int .i64 d, .int .i64 n, .int .i64 m, .int .i64 a, .int .i64 c, .int .i64 i]) rfl (pc := pc) (r := r))
  have HM := Lib.hid (fun w b => core_all (w := w) (b := b) (i := #[.int .i64 30, .int .i64 d, .int .i64 n, .int .i64 m, .int .i64 a, .int .i64 c, .int .i64 i]) rfl (pc := pc) (r := r))
  simp only [List.getElem?_toArray, List.getElem?_cons_zero, List.getElem?_cons_succ] at hc0 hc1
  generalize hC : coA #[.int .i64 30, .int .i64 d, .int .i64 n, .int .i64 m, .int .i64 a, .int .i64 c, .int .i64 i] pc r = C at *
  have HB := Lib.hid (rowAt_new w C 257)
  clear hC
  go_enter Try.func195, Try.ntmps195
  go_wp2_with (first | (refine wpl_load rfl 26 _ rfl w.heap.size 8 rfl r.arr (HL.out _ _ HB.out) ?_) | (go_at_call 155; refine (store_30 _).mono ?_; rintro e w' ⟨rfl, rfl⟩))
  go_ret
  exact ⟨rfl, (Below.refl _ _).alloc (Nat.le_refl _) (.cells C 257)⟩
theorem store_31 (w : World) : Calls Try.prog 155 #[.int .i64 31] w fun e w' => e = .returned (.bool false) ∧ w' = w := by
  go_enter Try.func155, Try.ntmps155
  go_wp2
  go_ret
  exact ⟨rfl, rfl⟩
set_option maxRecDepth 100000 in
set_option maxHeartbeats 4000000 in
theorem stored_31 (d n m a c i pc : Int) (r : Rg) (w : World) :
    Calls Try.prog 195 #[.agg (coA #[.int .i64 31, .int .i64 d, .int .i64 n, .int .i64 m, .int .i64 a, .int .i64 c, .int .i64 i] pc r)] w fun e w' => e = .returned (.int .u64 (0)) ∧ Below w.heap.size w w' := by
  have hc0 := coA_lo (i := #[.int .i64 31, .int .i64 d, .int .i64 n, .int .i64 m, .int .i64 a, .int .i64 c, .int .i64 i]) rfl pc r 0 (by omega)
  have hc1 := coA_lo (i := #[.int .i64 31, .int .i64 d, .int .i64 n, .int .i64 m, .int .i64 a, .int .i64 c, .int .i64 i]) rfl pc r 1 (by omega)
  have HA := Lib.hid (coA_all (i := #[.int .i64 31, .int .i64 d, .int .i64 n, .int .i64 m, .int .i64 a, .int .i64 c, .int .i64 i]) rfl pc r)
  have HS := Lib.hid (coA_size (i := #[.int .i64 31, .int .i64 d, .int .i64 n, .int .i64 m, .int .i64 a, .int .i64 c, .int .i64 i]) rfl pc r)
  have HL := Lib.hid (fun w b => core_regs (w := w) (b := b) (i := #[.int .i64 31, .int .i64 d, .int .i64 n, .int .i64 m, .int .i64 a, .int .i64 c, .int .i64 i]) rfl (pc := pc) (r := r))
  have HM := Lib.hid (fun w b => core_all (w := w) (b := b) (i := #[.int .i64 31, .int .i64 d, .int .i64 n, .int .i64 m, .int .i64 a, .int .i64 c, .int .i64 i]) rfl (pc := pc) (r := r))
  simp only [List.getElem?_toArray, List.getElem?_cons_zero, List.getElem?_cons_succ] at hc0 hc1
  generalize hC : coA #[.int .i64 31, .int .i64 d, .int .i64 n, .int .i64 m, .int .i64 a, .int .i64 c, .int .i64 i] pc r = C at *
  have HB := Lib.hid (rowAt_new w C 257)
  clear hC
  go_enter Try.func195, Try.ntmps195
  go_wp2_with (first | (refine wpl_load rfl 26 _ rfl w.heap.size 8 rfl r.arr (HL.out _ _ HB.out) ?_) | (go_at_call 155; refine (store_31 _).mono ?_; rintro e w' ⟨rfl, rfl⟩))
  go_ret
  exact ⟨rfl, (Below.refl _ _).alloc (Nat.le_refl _) (.cells C 257)⟩
theorem store_32 (w : World) : Calls Try.prog 155 #[.int .i64 32] w fun e w' => e = .returned (.bool true) ∧ w' = w := by
  go_enter Try.func155, Try.ntmps155
  go_wp2
  go_ret
  exact ⟨rfl, rfl⟩
set_option maxRecDepth 100000 in
set_option maxHeartbeats 4000000 in
theorem stored_32 (d n m a c i pc : Int) (r : Rg) (w : World) :
    Calls Try.prog 195 #[.agg (coA #[.int .i64 32, .int .i64 d, .int .i64 n, .int .i64 m, .int .i64 a, .int .i64 c, .int .i64 i] pc r)] w fun e w' => e = .returned (.int .u64 (r.get d)) ∧ Below w.heap.size w w' := by
  have hc0 := coA_lo (i := #[.int .i64 32, .int .i64 d, .int .i64 n, .int .i64 m, .int .i64 a, .int .i64 c, .int .i64 i]) rfl pc r 0 (by omega)
  have hc1 := coA_lo (i := #[.int .i64 32, .int .i64 d, .int .i64 n, .int .i64 m, .int .i64 a, .int .i64 c, .int .i64 i]) rfl pc r 1 (by omega)
  have HA := Lib.hid (coA_all (i := #[.int .i64 32, .int .i64 d, .int .i64 n, .int .i64 m, .int .i64 a, .int .i64 c, .int .i64 i]) rfl pc r)
  have HS := Lib.hid (coA_size (i := #[.int .i64 32, .int .i64 d, .int .i64 n, .int .i64 m, .int .i64 a, .int .i64 c, .int .i64 i]) rfl pc r)
  have HL := Lib.hid (fun w b => core_regs (w := w) (b := b) (i := #[.int .i64 32, .int .i64 d, .int .i64 n, .int .i64 m, .int .i64 a, .int .i64 c, .int .i64 i]) rfl (pc := pc) (r := r))
  have HM := Lib.hid (fun w b => core_all (w := w) (b := b) (i := #[.int .i64 32, .int .i64 d, .int .i64 n, .int .i64 m, .int .i64 a, .int .i64 c, .int .i64 i]) rfl (pc := pc) (r := r))
  simp only [List.getElem?_toArray, List.getElem?_cons_zero, List.getElem?_cons_succ] at hc0 hc1
  generalize hC : coA #[.int .i64 32, .int .i64 d, .int .i64 n, .int .i64 m, .int .i64 a, .int .i64 c, .int .i64 i] pc r = C at *
  have HB := Lib.hid (rowAt_new w C 257)
  clear hC
  go_enter Try.func195, Try.ntmps195
  go_wp2_with (first | (refine wpl_load rfl 26 _ rfl w.heap.size 8 rfl r.arr (HL.out _ _ HB.out) ?_) | (go_at_call 155; refine (store_32 _).mono ?_; rintro e w' ⟨rfl, rfl⟩))
  refine (get11 r d _).mono ?_
  rintro e w2 ⟨rfl, hb⟩
  have HB2 := Lib.hid (((Below.refl _ _).alloc (Nat.le_refl _) (.cells C 257)).trans (hb.mono (by simp)))
  clear hb
  go_wp2
  go_ret
  exact ⟨rfl, HB2.out⟩
theorem store_33 (w : World) : Calls Try.prog 155 #[.int .i64 33] w fun e w' => e = .returned (.bool false) ∧ w' = w := by
  go_enter Try.func155, Try.ntmps155
  go_wp2
  go_ret
  exact ⟨rfl, rfl⟩
set_option maxRecDepth 100000 in
set_option maxHeartbeats 4000000 in
theorem stored_33 (d n m a c i pc : Int) (r : Rg) (w : World) :
    Calls Try.prog 195 #[.agg (coA #[.int .i64 33, .int .i64 d, .int .i64 n, .int .i64 m, .int .i64 a, .int .i64 c, .int .i64 i] pc r)] w fun e w' => e = .returned (.int .u64 (0)) ∧ Below w.heap.size w w' := by
  have hc0 := coA_lo (i := #[.int .i64 33, .int .i64 d, .int .i64 n, .int .i64 m, .int .i64 a, .int .i64 c, .int .i64 i]) rfl pc r 0 (by omega)
  have hc1 := coA_lo (i := #[.int .i64 33, .int .i64 d, .int .i64 n, .int .i64 m, .int .i64 a, .int .i64 c, .int .i64 i]) rfl pc r 1 (by omega)
  have HA := Lib.hid (coA_all (i := #[.int .i64 33, .int .i64 d, .int .i64 n, .int .i64 m, .int .i64 a, .int .i64 c, .int .i64 i]) rfl pc r)
  have HS := Lib.hid (coA_size (i := #[.int .i64 33, .int .i64 d, .int .i64 n, .int .i64 m, .int .i64 a, .int .i64 c, .int .i64 i]) rfl pc r)
  have HL := Lib.hid (fun w b => core_regs (w := w) (b := b) (i := #[.int .i64 33, .int .i64 d, .int .i64 n, .int .i64 m, .int .i64 a, .int .i64 c, .int .i64 i]) rfl (pc := pc) (r := r))
  have HM := Lib.hid (fun w b => core_all (w := w) (b := b) (i := #[.int .i64 33, .int .i64 d, .int .i64 n, .int .i64 m, .int .i64 a, .int .i64 c, .int .i64 i]) rfl (pc := pc) (r := r))
  simp only [List.getElem?_toArray, List.getElem?_cons_zero, List.getElem?_cons_succ] at hc0 hc1
  generalize hC : coA #[.int .i64 33, .int .i64 d, .int .i64 n, .int .i64 m, .int .i64 a, .int .i64 c, .int .i64 i] pc r = C at *
  have HB := Lib.hid (rowAt_new w C 257)
  clear hC
  go_enter Try.func195, Try.ntmps195
  go_wp2_with (first | (refine wpl_load rfl 26 _ rfl w.heap.size 8 rfl r.arr (HL.out _ _ HB.out) ?_) | (go_at_call 155; refine (store_33 _).mono ?_; rintro e w' ⟨rfl, rfl⟩))
  go_ret
  exact ⟨rfl, (Below.refl _ _).alloc (Nat.le_refl _) (.cells C 257)⟩
theorem store_34 (w : World) : Calls Try.prog 155 #[.int .i64 34] w fun e w' => e = .returned (.bool true) ∧ w' = w := by
  go_enter Try.func155, Try.ntmps155
  go_wp2
  go_ret
  exact ⟨rfl, rfl⟩
set_option maxRecDepth 100000 in
set_option maxHeartbeats 4000000 in
theorem stored_34 (d n m a c i pc : Int) (r : Rg) (w : World) :
    Calls Try.prog 195 #[.agg (coA #[.int .i64 34, .int .i64 d, .int .i64 n, .int .i64 m, .int .i64 a, .int .i64 c, .int .i64 i] pc r)] w fun e w' => e = .returned (.int .u64 (r.get d)) ∧ Below w.heap.size w w' := by
  have hc0 := coA_lo (i := #[.int .i64 34, .int .i64 d, .int .i64 n, .int .i64 m, .int .i64 a, .int .i64 c, .int .i64 i]) rfl pc r 0 (by omega)
  have hc1 := coA_lo (i := #[.int .i64 34, .int .i64 d, .int .i64 n, .int .i64 m, .int .i64 a, .int .i64 c, .int .i64 i]) rfl pc r 1 (by omega)
  have HA := Lib.hid (coA_all (i := #[.int .i64 34, .int .i64 d, .int .i64 n, .int .i64 m, .int .i64 a, .int .i64 c, .int .i64 i]) rfl pc r)
  have HS := Lib.hid (coA_size (i := #[.int .i64 34, .int .i64 d, .int .i64 n, .int .i64 m, .int .i64 a, .int .i64 c, .int .i64 i]) rfl pc r)
  have HL := Lib.hid (fun w b => core_regs (w := w) (b := b) (i := #[.int .i64 34, .int .i64 d, .int .i64 n, .int .i64 m, .int .i64 a, .int .i64 c, .int .i64 i]) rfl (pc := pc) (r := r))
  have HM := Lib.hid (fun w b => core_all (w := w) (b := b) (i := #[.int .i64 34, .int .i64 d, .int .i64 n, .int .i64 m, .int .i64 a, .int .i64 c, .int .i64 i]) rfl (pc := pc) (r := r))
  simp only [List.getElem?_toArray, List.getElem?_cons_zero, List.getElem?_cons_succ] at hc0 hc1
  generalize hC : coA #[.int .i64 34, .int .i64 d, .int .i64 n, .int .i64 m, .int .i64 a, .int .i64 c, .int .i64 i] pc r = C at *
  have HB := Lib.hid (rowAt_new w C 257)
  clear hC
  go_enter Try.func195, Try.ntmps195
  go_wp2_with (first | (refine wpl_load rfl 26 _ rfl w.heap.size 8 rfl r.arr (HL.out _ _ HB.out) ?_) | (go_at_call 155; refine (store_34 _).mono ?_; rintro e w' ⟨rfl, rfl⟩))
  refine (get11 r d _).mono ?_
  rintro e w2 ⟨rfl, hb⟩
  have HB2 := Lib.hid (((Below.refl _ _).alloc (Nat.le_refl _) (.cells C 257)).trans (hb.mono (by simp)))
  clear hb
  go_wp2
  go_ret
  exact ⟨rfl, HB2.out⟩
theorem store_35 (w : World) : Calls Try.prog 155 #[.int .i64 35] w fun e w' => e = .returned (.bool false) ∧ w' = w := by
  go_enter Try.func155, Try.ntmps155
  go_wp2
  go_ret
  exact ⟨rfl, rfl⟩
set_option maxRecDepth 100000 in
set_option maxHeartbeats 4000000 in
theorem stored_35 (d n m a c i pc : Int) (r : Rg) (w : World) :
    Calls Try.prog 195 #[.agg (coA #[.int .i64 35, .int .i64 d, .int .i64 n, .int .i64 m, .int .i64 a, .int .i64 c, .int .i64 i] pc r)] w fun e w' => e = .returned (.int .u64 (0)) ∧ Below w.heap.size w w' := by
  have hc0 := coA_lo (i := #[.int .i64 35, .int .i64 d, .int .i64 n, .int .i64 m, .int .i64 a, .int .i64 c, .int .i64 i]) rfl pc r 0 (by omega)
  have hc1 := coA_lo (i := #[.int .i64 35, .int .i64 d, .int .i64 n, .int .i64 m, .int .i64 a, .int .i64 c, .int .i64 i]) rfl pc r 1 (by omega)
  have HA := Lib.hid (coA_all (i := #[.int .i64 35, .int .i64 d, .int .i64 n, .int .i64 m, .int .i64 a, .int .i64 c, .int .i64 i]) rfl pc r)
  have HS := Lib.hid (coA_size (i := #[.int .i64 35, .int .i64 d, .int .i64 n, .int .i64 m, .int .i64 a, .int .i64 c, .int .i64 i]) rfl pc r)
  have HL := Lib.hid (fun w b => core_regs (w := w) (b := b) (i := #[.int .i64 35, .int .i64 d, .int .i64 n, .int .i64 m, .int .i64 a, .int .i64 c, .int .i64 i]) rfl (pc := pc) (r := r))
  have HM := Lib.hid (fun w b => core_all (w := w) (b := b) (i := #[.int .i64 35, .int .i64 d, .int .i64 n, .int .i64 m, .int .i64 a, .int .i64 c, .int .i64 i]) rfl (pc := pc) (r := r))
  simp only [List.getElem?_toArray, List.getElem?_cons_zero, List.getElem?_cons_succ] at hc0 hc1
  generalize hC : coA #[.int .i64 35, .int .i64 d, .int .i64 n, .int .i64 m, .int .i64 a, .int .i64 c, .int .i64 i] pc r = C at *
  have HB := Lib.hid (rowAt_new w C 257)
  clear hC
  go_enter Try.func195, Try.ntmps195
  go_wp2_with (first | (refine wpl_load rfl 26 _ rfl w.heap.size 8 rfl r.arr (HL.out _ _ HB.out) ?_) | (go_at_call 155; refine (store_35 _).mono ?_; rintro e w' ⟨rfl, rfl⟩))
  go_ret
  exact ⟨rfl, (Below.refl _ _).alloc (Nat.le_refl _) (.cells C 257)⟩
theorem store_40 (w : World) : Calls Try.prog 155 #[.int .i64 40] w fun e w' => e = .returned (.bool false) ∧ w' = w := by
  go_enter Try.func155, Try.ntmps155
  go_wp2
  go_ret
  exact ⟨rfl, rfl⟩
set_option maxRecDepth 100000 in
set_option maxHeartbeats 4000000 in
theorem stored_40 (d n m a c i pc : Int) (r : Rg) (w : World) :
    Calls Try.prog 195 #[.agg (coA #[.int .i64 40, .int .i64 d, .int .i64 n, .int .i64 m, .int .i64 a, .int .i64 c, .int .i64 i] pc r)] w fun e w' => e = .returned (.int .u64 (0)) ∧ Below w.heap.size w w' := by
  have hc0 := coA_lo (i := #[.int .i64 40, .int .i64 d, .int .i64 n, .int .i64 m, .int .i64 a, .int .i64 c, .int .i64 i]) rfl pc r 0 (by omega)
  have hc1 := coA_lo (i := #[.int .i64 40, .int .i64 d, .int .i64 n, .int .i64 m, .int .i64 a, .int .i64 c, .int .i64 i]) rfl pc r 1 (by omega)
  have HA := Lib.hid (coA_all (i := #[.int .i64 40, .int .i64 d, .int .i64 n, .int .i64 m, .int .i64 a, .int .i64 c, .int .i64 i]) rfl pc r)
  have HS := Lib.hid (coA_size (i := #[.int .i64 40, .int .i64 d, .int .i64 n, .int .i64 m, .int .i64 a, .int .i64 c, .int .i64 i]) rfl pc r)
  have HL := Lib.hid (fun w b => core_regs (w := w) (b := b) (i := #[.int .i64 40, .int .i64 d, .int .i64 n, .int .i64 m, .int .i64 a, .int .i64 c, .int .i64 i]) rfl (pc := pc) (r := r))
  have HM := Lib.hid (fun w b => core_all (w := w) (b := b) (i := #[.int .i64 40, .int .i64 d, .int .i64 n, .int .i64 m, .int .i64 a, .int .i64 c, .int .i64 i]) rfl (pc := pc) (r := r))
  simp only [List.getElem?_toArray, List.getElem?_cons_zero, List.getElem?_cons_succ] at hc0 hc1
  generalize hC : coA #[.int .i64 40, .int .i64 d, .int .i64 n, .int .i64 m, .int .i64 a, .int .i64 c, .int .i64 i] pc r = C at *
  have HB := Lib.hid (rowAt_new w C 257)
  clear hC
  go_enter Try.func195, Try.ntmps195
  go_wp2_with (first | (refine wpl_load rfl 26 _ rfl w.heap.size 8 rfl r.arr (HL.out _ _ HB.out) ?_) | (go_at_call 155; refine (store_40 _).mono ?_; rintro e w' ⟨rfl, rfl⟩))
  go_ret
  exact ⟨rfl, (Below.refl _ _).alloc (Nat.le_refl _) (.cells C 257)⟩
theorem store_41 (w : World) : Calls Try.prog 155 #[.int .i64 41] w fun e w' => e = .returned (.bool false) ∧ w' = w := by
  go_enter Try.func155, Try.ntmps155
  go_wp2
  go_ret
  exact ⟨rfl, rfl⟩
set_option maxRecDepth 100000 in
set_option maxHeartbeats 4000000 in
theorem stored_41 (d n m a c i pc : Int) (r : Rg) (w : World) :
    Calls Try.prog 195 #[.agg (coA #[.int .i64 41, .int .i64 d, .int .i64 n, .int .i64 m, .int .i64 a, .int .i64 c, .int .i64 i] pc r)] w fun e w' => e = .returned (.int .u64 (0)) ∧ Below w.heap.size w w' := by
  have hc0 := coA_lo (i := #[.int .i64 41, .int .i64 d, .int .i64 n, .int .i64 m, .int .i64 a, .int .i64 c, .int .i64 i]) rfl pc r 0 (by omega)
  have hc1 := coA_lo (i := #[.int .i64 41, .int .i64 d, .int .i64 n, .int .i64 m, .int .i64 a, .int .i64 c, .int .i64 i]) rfl pc r 1 (by omega)
  have HA := Lib.hid (coA_all (i := #[.int .i64 41, .int .i64 d, .int .i64 n, .int .i64 m, .int .i64 a, .int .i64 c, .int .i64 i]) rfl pc r)
  have HS := Lib.hid (coA_size (i := #[.int .i64 41, .int .i64 d, .int .i64 n, .int .i64 m, .int .i64 a, .int .i64 c, .int .i64 i]) rfl pc r)
  have HL := Lib.hid (fun w b => core_regs (w := w) (b := b) (i := #[.int .i64 41, .int .i64 d, .int .i64 n, .int .i64 m, .int .i64 a, .int .i64 c, .int .i64 i]) rfl (pc := pc) (r := r))
  have HM := Lib.hid (fun w b => core_all (w := w) (b := b) (i := #[.int .i64 41, .int .i64 d, .int .i64 n, .int .i64 m, .int .i64 a, .int .i64 c, .int .i64 i]) rfl (pc := pc) (r := r))
  simp only [List.getElem?_toArray, List.getElem?_cons_zero, List.getElem?_cons_succ] at hc0 hc1
  generalize hC : coA #[.int .i64 41, .int .i64 d, .int .i64 n, .int .i64 m, .int .i64 a, .int .i64 c, .int .i64 i] pc r = C at *
  have HB := Lib.hid (rowAt_new w C 257)
  clear hC
  go_enter Try.func195, Try.ntmps195
  go_wp2_with (first | (refine wpl_load rfl 26 _ rfl w.heap.size 8 rfl r.arr (HL.out _ _ HB.out) ?_) | (go_at_call 155; refine (store_41 _).mono ?_; rintro e w' ⟨rfl, rfl⟩))
  go_ret
  exact ⟨rfl, (Below.refl _ _).alloc (Nat.le_refl _) (.cells C 257)⟩
end Go.Proofs.Ytnbpgoacooddjaa
