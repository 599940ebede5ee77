import Derived.Test.YtnbpgoacooddjaaRows
import Derived.WalkKit
import Derived.ProofKit
import Derived.OpenShut
import Derived.Deep.QuietTactic
import Derived.BigQuiet
import Derived.Outline
import Derived.WalkSmall
import Derived.WalkLawsBesides
import Derived.WalkSpells
import Derived.BigGuardPart
import Derived.RegionTactic
import Derived.Deep.RegionHeld3
import Derived.Lib.Hide
import Derived.Deep.MidRow
import Derived.Below
import Derived.Deep.RegionWith
import Derived.Test.YtnbpgoacooddjaaSfA
namespace Go.Proofs.Ytnbpgoacooddjaa
open Go.ChangeShapes Go.WideShapes Go.ChangeAt Go.RowKit
set_option linter.unusedVariables false
attribute [local go_sem ↓] ld76 ld25 ld38
attribute [local go_sem] rowAt_drew rowAt_drewN
set_option maxRecDepth 100000 in
set_option maxHeartbeats 4000000 in
theorem addn_g (o d n m a c i pc : Int) (x : Int) (r : Rg) (w : World) (h1 : ∀ w, Calls Try.prog 213 #[.agg (coA #[.int .i64 o, .int .i64 d, .int .i64 n, .int .i64 m, .int .i64 a, .int .i64 c, .int .i64 i] pc r)] w fun e w' => e = .returned (.int .u64 (x)) ∧ Below w.heap.size w w') :
    Calls Try.prog 214 #[.agg (coA #[.int .i64 o, .int .i64 d, .int .i64 n, .int .i64 m, .int .i64 a, .int .i64 c, .int .i64 i] pc r)] w fun e w' => e = .returned (.int .u64 (IntKind.u64.wrap (x + IntKind.u64.wrap i))) ∧ Below w.heap.size w w' := by
  have H0 := fun w => Lib.hid (h1 w)
  have H1 := fun w => Lib.hid (number_g o d n m a c i pc r w)
  clear h1
  have HA := Lib.hid (coA_all (i := #[.int .i64 o, .int .i64 d, .int .i64 n, .int .i64 m, .int .i64 a, .int .i64 c, .int .i64 i]) rfl pc r)
  have HS := Lib.hid (coA_size (i := #[.int .i64 o, .int .i64 d, .int .i64 n, .int .i64 m, .int .i64 a, .int .i64 c, .int .i64 i]) rfl pc r)
  have HL := Lib.hid (fun w b => core_regs (w := w) (b := b) (i := #[.int .i64 o, .int .i64 d, .int .i64 n, .int .i64 m, .int .i64 a, .int .i64 c, .int .i64 i]) rfl (pc := pc) (r := r))
  have HM := Lib.hid (fun w b => core_all (w := w) (b := b) (i := #[.int .i64 o, .int .i64 d, .int .i64 n, .int .i64 m, .int .i64 a, .int .i64 c, .int .i64 i]) rfl (pc := pc) (r := r))
  generalize hC : coA #[.int .i64 o, .int .i64 d, .int .i64 n, .int .i64 m, .int .i64 a, .int .i64 c, .int .i64 i] pc r = C at *
  have HB := Lib.hid (rowAt_new w C 257)
  clear hC
  go_enter Try.func214, Try.ntmps214
  go_wp2_with fail
  have HBB : Hid (Below w.heap.size w (w.alloc (.cells C 257))) := Lib.hid ((Below.refl _ _).alloc (Nat.le_refl _) (.cells C 257))
  obtain ⟨b, hb⟩ : ∃ b, b = w.heap.size := ⟨_, rfl⟩
  rw [← hb] at HB
  have HN := Lib.hid hb
  rw [← hb]
  clear hb
  have hB := HB.out
  have ha : ∀ w', rowAt w' b = some C → (ldAt 257 (.pointer (some ⟨b, 0, none⟩))).run Try.prog w' = .ok (.agg C) w' := fun w' h => HM.out w' b h
  generalize w.alloc (.cells C 257) = w1 at *
  go_region_held3 (fun w' => rowAt w' b = some C) (assumption) (first | (go_at_call 213; refine ((H0 _).out).mono ?_; rintro e w' ⟨rfl, hb0⟩; have hB0 := rowAt_below (by assumption) hb0 rfl; have HB0 := Lib.hid (below_step HBB.out hb0 rfl rfl rfl rfl); replace HBB := HB0; clear HB0 hb0) | (go_at_call 207; refine ((H1 _).out).mono ?_; rintro e w' ⟨rfl, hb1⟩; have hB1 := rowAt_below (by assumption) hb1 rfl; have HB1 := Lib.hid (below_step HBB.out hb1 rfl rfl rfl rfl); replace HBB := HB1; clear HB1 hb1))
  all_goals
    go_wp2
    go_ret
    exact ⟨rfl, HBB.out⟩
set_option maxRecDepth 100000 in
set_option maxHeartbeats 4000000 in
theorem subn_g (o d n m a c i pc : Int) (x : Int) (r : Rg) (w : World) (h1 : ∀ w, Calls Try.prog 213 #[.agg (coA #[.int .i64 o, .int .i64 d, .int .i64 n, .int .i64 m, .int .i64 a, .int .i64 c, .int .i64 i] pc r)] w fun e w' => e = .returned (.int .u64 (x)) ∧ Below w.heap.size w w') :
    Calls Try.prog 242 #[.agg (coA #[.int .i64 o, .int .i64 d, .int .i64 n, .int .i64 m, .int .i64 a, .int .i64 c, .int .i64 i] pc r)] w fun e w' => e = .returned (.int .u64 (IntKind.u64.wrap (x - IntKind.u64.wrap i))) ∧ Below w.heap.size w w' := by
  have H0 := fun w => Lib.hid (h1 w)
  have H1 := fun w => Lib.hid (number_g o d n m a c i pc r w)
  clear h1
  have HA := Lib.hid (coA_all (i := #[.int .i64 o, .int .i64 d, .int .i64 n, .int .i64 m, .int .i64 a, .int .i64 c, .int .i64 i]) rfl pc r)
  have HS := Lib.hid (coA_size (i := #[.int .i64 o, .int .i64 d, .int .i64 n, .int .i64 m, .int .i64 a, .int .i64 c, .int .i64 i]) rfl pc r)
  have HL := Lib.hid (fun w b => core_regs (w := w) (b := b) (i := #[.int .i64 o, .int .i64 d, .int .i64 n, .int .i64 m, .int .i64 a, .int .i64 c, .int .i64 i]) rfl (pc := pc) (r := r))
  have HM := Lib.hid (fun w b => core_all (w := w) (b := b) (i := #[.int .i64 o, .int .i64 d, .int .i64 n, .int .i64 m, .int .i64 a, .int .i64 c, .int .i64 i]) rfl (pc := pc) (r := r))
  generalize hC : coA #[.int .i64 o, .int .i64 d, .int .i64 n, .int .i64 m, .int .i64 a, .int .i64 c, .int .i64 i] pc r = C at *
  have HB := Lib.hid (rowAt_new w C 257)
  clear hC
  go_enter Try.func242, Try.ntmps242
  go_wp2_with fail
  have HBB : Hid (Below w.heap.size w (w.alloc (.cells C 257))) := Lib.hid ((Below.refl _ _).alloc (Nat.le_refl _) (.cells C 257))
  obtain ⟨b, hb⟩ : ∃ b, b = w.heap.size := ⟨_, rfl⟩
  rw [← hb] at HB
  have HN := Lib.hid hb
  rw [← hb]
  clear hb
  have hB := HB.out
  have ha : ∀ w', rowAt w' b = some C → (ldAt 257 (.pointer (some ⟨b, 0, none⟩))).run Try.prog w' = .ok (.agg C) w' := fun w' h => HM.out w' b h
  generalize w.alloc (.cells C 257) = w1 at *
  go_region_held3 (fun w' => rowAt w' b = some C) (assumption) (first | (go_at_call 213; refine ((H0 _).out).mono ?_; rintro e w' ⟨rfl, hb0⟩; have hB0 := rowAt_below (by assumption) hb0 rfl; have HB0 := Lib.hid (below_step HBB.out hb0 rfl rfl rfl rfl); replace HBB := HB0; clear HB0 hb0) | (go_at_call 207; refine ((H1 _).out).mono ?_; rintro e w' ⟨rfl, hb1⟩; have hB1 := rowAt_below (by assumption) hb1 rfl; have HB1 := Lib.hid (below_step HBB.out hb1 rfl rfl rfl rfl); replace HBB := HB1; clear HB1 hb1))
  all_goals
    go_wp2
    go_ret
    exact ⟨rfl, HBB.out⟩
set_option maxRecDepth 100000 in
set_option maxHeartbeats 4000000 in
theorem add_g (o d n m a c i pc : Int) (x : Int) (r : Rg) (w : World) (h1 : ∀ w, Calls Try.prog 213 #[.agg (coA #[.int .i64 o, .int .i64 d, .int .i64 n, .int .i64 m, .int .i64 a, .int .i64 c, .int .i64 i] pc r)] w fun e w' => e = .returned (.int .u64 (x)) ∧ Below w.heap.size w w') :
    Calls Try.prog 243 #[.agg (coA #[.int .i64 o, .int .i64 d, .int .i64 n, .int .i64 m, .int .i64 a, .int .i64 c, .int .i64 i] pc r)] w fun e w' => e = .returned (.int .u64 (IntKind.u64.wrap (x + r.get m))) ∧ Below w.heap.size w w' := by
  have H0 := fun w => Lib.hid (h1 w)
  have H1 := fun w => Lib.hid (second_c o d n m a c i pc r w)
  clear h1
  have HA := Lib.hid (coA_all (i := #[.int .i64 o, .int .i64 d, .int .i64 n, .int .i64 m, .int .i64 a, .int .i64 c, .int .i64 i]) rfl pc r)
  have HS := Lib.hid (coA_size (i := #[.int .i64 o, .int .i64 d, .int .i64 n, .int .i64 m, .int .i64 a, .int .i64 c, .int .i64 i]) rfl pc r)
  have HL := Lib.hid (fun w b => core_regs (w := w) (b := b) (i := #[.int .i64 o, .int .i64 d, .int .i64 n, .int .i64 m, .int .i64 a, .int .i64 c, .int .i64 i]) rfl (pc := pc) (r := r))
  have HM := Lib.hid (fun w b => core_all (w := w) (b := b) (i := #[.int .i64 o, .int .i64 d, .int .i64 n, .int .i64 m, .int .i64 a, .int .i64 c, .int .i64 i]) rfl (pc := pc) (r := r))
  generalize hC : coA #[.int .i64 o, .int .i64 d, .int .i64 n, .int .i64 m, .int .i64 a, .int .i64 c, .int .i64 i] pc r = C at *
  have HB := Lib.hid (rowAt_new w C 257)
  clear hC
  go_enter Try.func243, Try.ntmps243
  go_wp2_with fail
  have HBB : Hid (Below w.heap.size w (w.alloc (.cells C 257))) := Lib.hid ((Below.refl _ _).alloc (Nat.le_refl _) (.cells C 257))
  obtain ⟨b, hb⟩ : ∃ b, b = w.heap.size := ⟨_, rfl⟩
  rw [← hb] at HB
  have HN := Lib.hid hb
  rw [← hb]
  clear hb
  have hB := HB.out
  have ha : ∀ w', rowAt w' b = some C → (ldAt 257 (.pointer (some ⟨b, 0, none⟩))).run Try.prog w' = .ok (.agg C) w' := fun w' h => HM.out w' b h
  generalize w.alloc (.cells C 257) = w1 at *
  go_region_held3 (fun w' => rowAt w' b = some C) (assumption) (first | (go_at_call 213; refine ((H0 _).out).mono ?_; rintro e w' ⟨rfl, hb0⟩; have hB0 := rowAt_below (by assumption) hb0 rfl; have HB0 := Lib.hid (below_step HBB.out hb0 rfl rfl rfl rfl); replace HBB := HB0; clear HB0 hb0) | (go_at_call 208; refine ((H1 _).out).mono ?_; rintro e w' ⟨rfl, hb1⟩; have hB1 := rowAt_below (by assumption) hb1 rfl; have HB1 := Lib.hid (below_step HBB.out hb1 rfl rfl rfl rfl); replace HBB := HB1; clear HB1 hb1))
  all_goals
    go_wp2
    go_ret
    exact ⟨rfl, HBB.out⟩
set_option maxRecDepth 100000 in
set_option maxHeartbeats 4000000 in
theorem sub_g (o d n m a c i pc : Int) (x : Int) (r : Rg) (w : World) (h1 : ∀ w, Calls Try.prog 213 #[.agg (coA #[.int .i64 o, .int .i64 d, .int .i64 n, .int .i64 m, .int .i64 a, .int .i64 c, .int .i64 i] pc r)] w fun e w' => e = .returned (.int .u64 (x)) ∧ Below w.heap.size w w') :
    Calls Try.prog 244 #[.agg (coA #[.int .i64 o, .int .i64 d, .int .i64 n, .int .i64 m, .int .i64 a, .int .i64 c, .int .i64 i] pc r)] w fun e w' => e = .returned (.int .u64 (IntKind.u64.wrap (x - r.get m))) ∧ Below w.heap.size w w' := by
  have H0 := fun w => Lib.hid (h1 w)
  have H1 := fun w => Lib.hid (second_c o d n m a c i pc r w)
  clear h1
  have HA := Lib.hid (coA_all (i := #[.int .i64 o, .int .i64 d, .int .i64 n, .int .i64 m, .int .i64 a, .int .i64 c, .int .i64 i]) rfl pc r)
  have HS := Lib.hid (coA_size (i := #[.int .i64 o, .int .i64 d, .int .i64 n, .int .i64 m, .int .i64 a, .int .i64 c, .int .i64 i]) rfl pc r)
  have HL := Lib.hid (fun w b => core_regs (w := w) (b := b) (i := #[.int .i64 o, .int .i64 d, .int .i64 n, .int .i64 m, .int .i64 a, .int .i64 c, .int .i64 i]) rfl (pc := pc) (r := r))
  have HM := Lib.hid (fun w b => core_all (w := w) (b := b) (i := #[.int .i64 o, .int .i64 d, .int .i64 n, .int .i64 m, .int .i64 a, .int .i64 c, .int .i64 i]) rfl (pc := pc) (r := r))
  generalize hC : coA #[.int .i64 o, .int .i64 d, .int .i64 n, .int .i64 m, .int .i64 a, .int .i64 c, .int .i64 i] pc r = C at *
  have HB := Lib.hid (rowAt_new w C 257)
  clear hC
  go_enter Try.func244, Try.ntmps244
  go_wp2_with fail
  have HBB : Hid (Below w.heap.size w (w.alloc (.cells C 257))) := Lib.hid ((Below.refl _ _).alloc (Nat.le_refl _) (.cells C 257))
  obtain ⟨b, hb⟩ : ∃ b, b = w.heap.size := ⟨_, rfl⟩
  rw [← hb] at HB
  have HN := Lib.hid hb
  rw [← hb]
  clear hb
  have hB := HB.out
  have ha : ∀ w', rowAt w' b = some C → (ldAt 257 (.pointer (some ⟨b, 0, none⟩))).run Try.prog w' = .ok (.agg C) w' := fun w' h => HM.out w' b h
  generalize w.alloc (.cells C 257) = w1 at *
  go_region_held3 (fun w' => rowAt w' b = some C) (assumption) (first | (go_at_call 213; refine ((H0 _).out).mono ?_; rintro e w' ⟨rfl, hb0⟩; have hB0 := rowAt_below (by assumption) hb0 rfl; have HB0 := Lib.hid (below_step HBB.out hb0 rfl rfl rfl rfl); replace HBB := HB0; clear HB0 hb0) | (go_at_call 208; refine ((H1 _).out).mono ?_; rintro e w' ⟨rfl, hb1⟩; have hB1 := rowAt_below (by assumption) hb1 rfl; have HB1 := Lib.hid (below_step HBB.out hb1 rfl rfl rfl rfl); replace HBB := HB1; clear HB1 hb1))
  all_goals
    go_wp2
    go_ret
    exact ⟨rfl, HBB.out⟩
set_option maxRecDepth 100000 in
set_option maxHeartbeats 4000000 in
theorem and_g (o d n m a c i pc : Int) (x : Int) (r : Rg) (w : World) (h1 : ∀ w, Calls Try.prog 213 #[.agg (coA #[.int .i64 o, .int .i64 d, .int .i64 n, .int .i64 m, .int .i64 a, .int .i64 c, .int .i64 i] pc r)] w fun e w' => e = .returned (.int .u64 (x)) ∧ Below w.heap.size w w') :
    Calls Try.prog 245 #[.agg (coA #[.int .i64 o, .int .i64 d, .int .i64 n, .int .i64 m, .int .i64 a, .int .i64 c, .int .i64 i] pc r)] w fun e w' => e = .returned (.int .u64 (bits .and .u64 x (r.get m))) ∧ Below w.heap.size w w' := by
  have H0 := fun w => Lib.hid (h1 w)
  have H1 := fun w => Lib.hid (second_c o d n m a c i pc r w)
  clear h1
  have HA := Lib.hid (coA_all (i := #[.int .i64 o, .int .i64 d, .int .i64 n, .int .i64 m, .int .i64 a, .int .i64 c, .int .i64 i]) rfl pc r)
  have HS := Lib.hid (coA_size (i := #[.int .i64 o, .int .i64 d, .int .i64 n, .int .i64 m, .int .i64 a, .int .i64 c, .int .i64 i]) rfl pc r)
  have HL := Lib.hid (fun w b => core_regs (w := w) (b := b) (i := #[.int .i64 o, .int .i64 d, .int .i64 n, .int .i64 m, .int .i64 a, .int .i64 c, .int .i64 i]) rfl (pc := pc) (r := r))
  have HM := Lib.hid (fun w b => core_all (w := w) (b := b) (i := #[.int .i64 o, .int .i64 d, .int .i64 n, .int .i64 m, .int .i64 a, .int .i64 c, .int .i64 i]) rfl (pc := pc) (r := r))
  generalize hC : coA #[.int .i64 o, .int .i64 d, .int .i64 n, .int .i64 m, .int .i64 a, .int .i64 c, .int .i64 i] pc r = C at *
  have HB := Lib.hid (rowAt_new w C 257)
  clear hC
  go_enter Try.func245, Try.ntmps245
  go_wp2_with fail
  have HBB : Hid (Below w.heap.size w (w.alloc (.cells C 257))) := Lib.hid ((Below.refl _ _).alloc (Nat.le_refl _) (.cells C 257))
  obtain ⟨b, hb⟩ : ∃ b, b = w.heap.size := ⟨_, rfl⟩
  rw [← hb] at HB
  have HN := Lib.hid hb
  rw [← hb]
  clear hb
  have hB := HB.out
  have ha : ∀ w', rowAt w' b = some C → (ldAt 257 (.pointer (some ⟨b, 0, none⟩))).run Try.prog w' = .ok (.agg C) w' := fun w' h => HM.out w' b h
  generalize w.alloc (.cells C 257) = w1 at *
  go_region_held3 (fun w' => rowAt w' b = some C) (assumption) (first | (go_at_call 213; refine ((H0 _).out).mono ?_; rintro e w' ⟨rfl, hb0⟩; have hB0 := rowAt_below (by assumption) hb0 rfl; have HB0 := Lib.hid (below_step HBB.out hb0 rfl rfl rfl rfl); replace HBB := HB0; clear HB0 hb0) | (go_at_call 208; refine ((H1 _).out).mono ?_; rintro e w' ⟨rfl, hb1⟩; have hB1 := rowAt_below (by assumption) hb1 rfl; have HB1 := Lib.hid (below_step HBB.out hb1 rfl rfl rfl rfl); replace HBB := HB1; clear HB1 hb1))
  all_goals
    go_wp2
    go_ret
    exact ⟨rfl, HBB.out⟩
set_option maxRecDepth 100000 in
set_option maxHeartbeats 4000000 in
theorem or_g (o d n m a c i pc : Int) (x : Int) (r : Rg) (w : World) (h1 : ∀ w, Calls Try.prog 213 #[.agg (coA #[.int .i64 o, .int .i64 d, .int .i64 n, .int .i64 m, .int .i64 a, .int .i64 c, .int .i64 i] pc r)] w fun e w' => e = .returned (.int .u64 (x)) ∧ Below w.heap.size w w') :
    Calls Try.prog 246 #[.agg (coA #[.int .i64 o, .int .i64 d, .int .i64 n, .int .i64 m, .int .i64 a, .int .i64 c, .int .i64 i] pc r)] w fun e w' => e = .returned (.int .u64 (bits .or .u64 x (r.get m))) ∧ Below w.heap.size w w' := by
  have H0 := fun w => Lib.hid (h1 w)
  have H1 := fun w => Lib.hid (second_c o d n m a c i pc r w)
  clear h1
  have HA := Lib.hid (coA_all (i := #[.int .i64 o, .int .i64 d, .int .i64 n, .int .i64 m, .int .i64 a, .int .i64 c, .int .i64 i]) rfl pc r)
  have HS := Lib.hid (coA_size (i := #[.int .i64 o, .int .i64 d, .int .i64 n, .int .i64 m, .int .i64 a, .int .i64 c, .int .i64 i]) rfl pc r)
  have HL := Lib.hid (fun w b => core_regs (w := w) (b := b) (i := #[.int .i64 o, .int .i64 d, .int .i64 n, .int .i64 m, .int .i64 a, .int .i64 c, .int .i64 i]) rfl (pc := pc) (r := r))
  have HM := Lib.hid (fun w b => core_all (w := w) (b := b) (i := #[.int .i64 o, .int .i64 d, .int .i64 n, .int .i64 m, .int .i64 a, .int .i64 c, .int .i64 i]) rfl (pc := pc) (r := r))
  generalize hC : coA #[.int .i64 o, .int .i64 d, .int .i64 n, .int .i64 m, .int .i64 a, .int .i64 c, .int .i64 i] pc r = C at *
  have HB := Lib.hid (rowAt_new w C 257)
  clear hC
  go_enter Try.func246, Try.ntmps246
  go_wp2_with fail
  have HBB : Hid (Below w.heap.size w (w.alloc (.cells C 257))) := Lib.hid ((Below.refl _ _).alloc (Nat.le_refl _) (.cells C 257))
  obtain ⟨b, hb⟩ : ∃ b, b = w.heap.size := ⟨_, rfl⟩
  rw [← hb] at HB
  have HN := Lib.hid hb
  rw [← hb]
  clear hb
  have hB := HB.out
  have ha : ∀ w', rowAt w' b = some C → (ldAt 257 (.pointer (some ⟨b, 0, none⟩))).run Try.prog w' = .ok (.agg C) w' := fun w' h => HM.out w' b h
  generalize w.alloc (.cells C 257) = w1 at *
  go_region_held3 (fun w' => rowAt w' b = some C) (assumption) (first | (go_at_call 213; refine ((H0 _).out).mono ?_; rintro e w' ⟨rfl, hb0⟩; have hB0 := rowAt_below (by assumption) hb0 rfl; have HB0 := Lib.hid (below_step HBB.out hb0 rfl rfl rfl rfl); replace HBB := HB0; clear HB0 hb0) | (go_at_call 208; refine ((H1 _).out).mono ?_; rintro e w' ⟨rfl, hb1⟩; have hB1 := rowAt_below (by assumption) hb1 rfl; have HB1 := Lib.hid (below_step HBB.out hb1 rfl rfl rfl rfl); replace HBB := HB1; clear HB1 hb1))
  all_goals
    go_wp2
    go_ret
    exact ⟨rfl, HBB.out⟩
set_option maxRecDepth 100000 in
set_option maxHeartbeats 4000000 in
theorem xor_g (o d n m a c i pc : Int) (x : Int) (r : Rg) (w : World) (h1 : ∀ w, Calls Try.prog 213 #[.agg (coA #[.int .i64 o, .int .i64 d, .int .i64 n, .int .i64 m, .int .i64 a, .int .i64 c, .int .i64 i] pc r)] w fun e w' => e = .returned (.int .u64 (x)) ∧ Below w.heap.size w w') :
    Calls Try.prog 247 #[.agg (coA #[.int .i64 o, .int .i64 d, .int .i64 n, .int .i64 m, .int .i64 a, .int .i64 c, .int .i64 i] pc r)] w fun e w' => e = .returned (.int .u64 (bits .xor .u64 x (r.get m))) ∧ Below w.heap.size w w' := by
  have H0 := fun w => Lib.hid (h1 w)
  have H1 := fun w => Lib.hid (second_c o d n m a c i pc r w)
  clear h1
  have HA := Lib.hid (coA_all (i := #[.int .i64 o, .int .i64 d, .int .i64 n, .int .i64 m, .int .i64 a, .int .i64 c, .int .i64 i]) rfl pc r)
  have HS := Lib.hid (coA_size (i := #[.int .i64 o, .int .i64 d, .int .i64 n, .int .i64 m, .int .i64 a, .int .i64 c, .int .i64 i]) rfl pc r)
  have HL := Lib.hid (fun w b => core_regs (w := w) (b := b) (i := #[.int .i64 o, .int .i64 d, .int .i64 n, .int .i64 m, .int .i64 a, .int .i64 c, .int .i64 i]) rfl (pc := pc) (r := r))
  have HM := Lib.hid (fun w b => core_all (w := w) (b := b) (i := #[.int .i64 o, .int .i64 d, .int .i64 n, .int .i64 m, .int .i64 a, .int .i64 c, .int .i64 i]) rfl (pc := pc) (r := r))
  generalize hC : coA #[.int .i64 o, .int .i64 d, .int .i64 n, .int .i64 m, .int .i64 a, .int .i64 c, .int .i64 i] pc r = C at *
  have HB := Lib.hid (rowAt_new w C 257)
  clear hC
  go_enter Try.func247, Try.ntmps247
  go_wp2_with fail
  have HBB : Hid (Below w.heap.size w (w.alloc (.cells C 257))) := Lib.hid ((Below.refl _ _).alloc (Nat.le_refl _) (.cells C 257))
  obtain ⟨b, hb⟩ : ∃ b, b = w.heap.size := ⟨_, rfl⟩
  rw [← hb] at HB
  have HN := Lib.hid hb
  rw [← hb]
  clear hb
  have hB := HB.out
  have ha : ∀ w', rowAt w' b = some C → (ldAt 257 (.pointer (some ⟨b, 0, none⟩))).run Try.prog w' = .ok (.agg C) w' := fun w' h => HM.out w' b h
  generalize w.alloc (.cells C 257) = w1 at *
  go_region_held3 (fun w' => rowAt w' b = some C) (assumption) (first | (go_at_call 213; refine ((H0 _).out).mono ?_; rintro e w' ⟨rfl, hb0⟩; have hB0 := rowAt_below (by assumption) hb0 rfl; have HB0 := Lib.hid (below_step HBB.out hb0 rfl rfl rfl rfl); replace HBB := HB0; clear HB0 hb0) | (go_at_call 208; refine ((H1 _).out).mono ?_; rintro e w' ⟨rfl, hb1⟩; have hB1 := rowAt_below (by assumption) hb1 rfl; have HB1 := Lib.hid (below_step HBB.out hb1 rfl rfl rfl rfl); replace HBB := HB1; clear HB1 hb1))
  all_goals
    go_wp2
    go_ret
    exact ⟨rfl, HBB.out⟩
set_option maxRecDepth 100000 in
set_option maxHeartbeats 4000000 in
theorem madd_g (o d n m a c i pc : Int) (x : Int) (r : Rg) (w : World) (h1 : ∀ w, Calls Try.prog 213 #[.agg (coA #[.int .i64 o, .int .i64 d, .int .i64 n, .int .i64 m, .int .i64 a, .int .i64 c, .int .i64 i] pc r)] w fun e w' => e = .returned (.int .u64 (x)) ∧ Below w.heap.size w w') :
    Calls Try.prog 248 #[.agg (coA #[.int .i64 o, .int .i64 d, .int .i64 n, .int .i64 m, .int .i64 a, .int .i64 c, .int .i64 i] pc r)] w fun e w' => e = .returned (.int .u64 (IntKind.u64.wrap (r.get a + IntKind.u64.wrap (x * r.get m)))) ∧ Below w.heap.size w w' := by
  have H0 := fun w => Lib.hid (third_c o d n m a c i pc r w)
  have H1 := fun w => Lib.hid (h1 w)
  have H2 := fun w => Lib.hid (second_c o d n m a c i pc r w)
  clear h1
  have HA := Lib.hid (coA_all (i := #[.int .i64 o, .int .i64 d, .int .i64 n, .int .i64 m, .int .i64 a, .int .i64 c, .int .i64 i]) rfl pc r)
  have HS := Lib.hid (coA_size (i := #[.int .i64 o, .int .i64 d, .int .i64 n, .int .i64 m, .int .i64 a, .int .i64 c, .int .i64 i]) rfl pc r)
  have HL := Lib.hid (fun w b => core_regs (w := w) (b := b) (i := #[.int .i64 o, .int .i64 d, .int .i64 n, .int .i64 m, .int .i64 a, .int .i64 c, .int .i64 i]) rfl (pc := pc) (r := r))
  have HM := Lib.hid (fun w b => core_all (w := w) (b := b) (i := #[.int .i64 o, .int .i64 d, .int .i64 n, .int .i64 m, .int .i64 a, .int .i64 c, .int .i64 i]) rfl (pc := pc) (r := r))
  generalize hC : coA #[.int .i64 o, .int .i64 d, .int .i64 n, .int .i64 m, .int .i64 a, .int .i64 c, .int .i64 i] pc r = C at *
  have HB := Lib.hid (rowAt_new w C 257)
  clear hC
  go_enter Try.func248, Try.ntmps248
  go_wp2_with fail
  have HBB : Hid (Below w.heap.size w (w.alloc (.cells C 257))) := Lib.hid ((Below.refl _ _).alloc (Nat.le_refl _) (.cells C 257))
  obtain ⟨b, hb⟩ : ∃ b, b = w.heap.size := ⟨_, rfl⟩
  rw [← hb] at HB
  have HN := Lib.hid hb
  rw [← hb]
  clear hb
  have hB := HB.out
  have ha : ∀ w', rowAt w' b = some C → (ldAt 257 (.pointer (some ⟨b, 0, none⟩))).run Try.prog w' = .ok (.agg C) w' := fun w' h => HM.out w' b h
  generalize w.alloc (.cells C 257) = w1 at *
  go_region_held3 (fun w' => rowAt w' b = some C) (assumption) (first | (go_at_call 257; refine ((H0 _).out).mono ?_; rintro e w' ⟨rfl, hb0⟩; have hB0 := rowAt_below (by assumption) hb0 rfl; have HB0 := Lib.hid (below_step HBB.out hb0 rfl rfl rfl rfl); replace HBB := HB0; clear HB0 hb0) | (go_at_call 213; refine ((H1 _).out).mono ?_; rintro e w' ⟨rfl, hb1⟩; have hB1 := rowAt_below (by assumption) hb1 rfl; have HB1 := Lib.hid (below_step HBB.out hb1 rfl rfl rfl rfl); replace HBB := HB1; clear HB1 hb1) | (go_at_call 208; refine ((H2 _).out).mono ?_; rintro e w' ⟨rfl, hb2⟩; have hB2 := rowAt_below (by assumption) hb2 rfl; have HB2 := Lib.hid (below_step HBB.out hb2 rfl rfl rfl rfl); replace HBB := HB2; clear HB2 hb2))
  all_goals
    go_wp2
    go_ret
    exact ⟨rfl, HBB.out⟩
set_option maxRecDepth 100000 in
set_option maxHeartbeats 4000000 in
theorem msub_g (o d n m a c i pc : Int) (x : Int) (r : Rg) (w : World) (h1 : ∀ w, Calls Try.prog 213 #[.agg (coA #[.int .i64 o, .int .i64 d, .int .i64 n, .int .i64 m, .int .i64 a, .int .i64 c, .int .i64 i] pc r)] w fun e w' => e = .returned (.int .u64 (x)) ∧ Below w.heap.size w w') :
    Calls Try.prog 249 #[.agg (coA #[.int .i64 o, .int .i64 d, .int .i64 n, .int .i64 m, .int .i64 a, .int .i64 c, .int .i64 i] pc r)] w fun e w' => e = .returned (.int .u64 (IntKind.u64.wrap (r.get a - IntKind.u64.wrap (x * r.get m)))) ∧ Below w.heap.size w w' := by
  have H0 := fun w => Lib.hid (third_c o d n m a c i pc r w)
  have H1 := fun w => Lib.hid (h1 w)
  have H2 := fun w => Lib.hid (second_c o d n m a c i pc r w)
  clear h1
  have HA := Lib.hid (coA_all (i := #[.int .i64 o, .int .i64 d, .int .i64 n, .int .i64 m, .int .i64 a, .int .i64 c, .int .i64 i]) rfl pc r)
  have HS := Lib.hid (coA_size (i := #[.int .i64 o, .int .i64 d, .int .i64 n, .int .i64 m, .int .i64 a, .int .i64 c, .int .i64 i]) rfl pc r)
  have HL := Lib.hid (fun w b => core_regs (w := w) (b := b) (i := #[.int .i64 o, .int .i64 d, .int .i64 n, .int .i64 m, .int .i64 a, .int .i64 c, .int .i64 i]) rfl (pc := pc) (r := r))
  have HM := Lib.hid (fun w b => core_all (w := w) (b := b) (i := #[.int .i64 o, .int .i64 d, .int .i64 n, .int .i64 m, .int .i64 a, .int .i64 c, .int .i64 i]) rfl (pc := pc) (r := r))
  generalize hC : coA #[.int .i64 o, .int .i64 d, .int .i64 n, .int .i64 m, .int .i64 a, .int .i64 c, .int .i64 i] pc r = C at *
  have HB := Lib.hid (rowAt_new w C 257)
  clear hC
  go_enter Try.func249, Try.ntmps249
  go_wp2_with fail
  have HBB : Hid (Below w.heap.size w (w.alloc (.cells C 257))) := Lib.hid ((Below.refl _ _).alloc (Nat.le_refl _) (.cells C 257))
  obtain ⟨b, hb⟩ : ∃ b, b = w.heap.size := ⟨_, rfl⟩
  rw [← hb] at HB
  have HN := Lib.hid hb
  rw [← hb]
  clear hb
  have hB := HB.out
  have ha : ∀ w', rowAt w' b = some C → (ldAt 257 (.pointer (some ⟨b, 0, none⟩))).run Try.prog w' = .ok (.agg C) w' := fun w' h => HM.out w' b h
  generalize w.alloc (.cells C 257) = w1 at *
  go_region_held3 (fun w' => rowAt w' b = some C) (assumption) (first | (go_at_call 257; refine ((H0 _).out).mono ?_; rintro e w' ⟨rfl, hb0⟩; have hB0 := rowAt_below (by assumption) hb0 rfl; have HB0 := Lib.hid (below_step HBB.out hb0 rfl rfl rfl rfl); replace HBB := HB0; clear HB0 hb0) | (go_at_call 213; refine ((H1 _).out).mono ?_; rintro e w' ⟨rfl, hb1⟩; have hB1 := rowAt_below (by assumption) hb1 rfl; have HB1 := Lib.hid (below_step HBB.out hb1 rfl rfl rfl rfl); replace HBB := HB1; clear HB1 hb1) | (go_at_call 208; refine ((H2 _).out).mono ?_; rintro e w' ⟨rfl, hb2⟩; have hB2 := rowAt_below (by assumption) hb2 rfl; have HB2 := Lib.hid (below_step HBB.out hb2 rfl rfl rfl rfl); replace HBB := HB2; clear HB2 hb2))
  all_goals
    go_wp2
    go_ret
    exact ⟨rfl, HBB.out⟩
set_option maxRecDepth 100000 in
set_option maxHeartbeats 4000000 in
theorem elem_g (o d n m a c i pc : Int) (x : Int) (r : Rg) (w : World) (h1 : ∀ w, Calls Try.prog 213 #[.agg (coA #[.int .i64 o, .int .i64 d, .int .i64 n, .int .i64 m, .int .i64 a, .int .i64 c, .int .i64 i] pc r)] w fun e w' => e = .returned (.int .u64 (x)) ∧ Below w.heap.size w w') :
    Calls Try.prog 215 #[.agg (coA #[.int .i64 o, .int .i64 d, .int .i64 n, .int .i64 m, .int .i64 a, .int .i64 c, .int .i64 i] pc r)] w fun e w' => e = .returned (.int .u64 (IntKind.u64.wrap (x + IntKind.u64.wrap (8 * r.get m)))) ∧ Below w.heap.size w w' := by
  have H0 := fun w => Lib.hid (h1 w)
  have H1 := fun w => Lib.hid (second_c o d n m a c i pc r w)
  clear h1
  have HA := Lib.hid (coA_all (i := #[.int .i64 o, .int .i64 d, .int .i64 n, .int .i64 m, .int .i64 a, .int .i64 c, .int .i64 i]) rfl pc r)
  have HS := Lib.hid (coA_size (i := #[.int .i64 o, .int .i64 d, .int .i64 n, .int .i64 m, .int .i64 a, .int .i64 c, .int .i64 i]) rfl pc r)
  have HL := Lib.hid (fun w b => core_regs (w := w) (b := b) (i := #[.int .i64 o, .int .i64 d, .int .i64 n, .int .i64 m, .int .i64 a, .int .i64 c, .int .i64 i]) rfl (pc := pc) (r := r))
  have HM := Lib.hid (fun w b => core_all (w := w) (b := b) (i := #[.int .i64 o, .int .i64 d, .int .i64 n, .int .i64 m, .int .i64 a, .int .i64 c, .int .i64 i]) rfl (pc := pc) (r := r))
  generalize hC : coA #[.int .i64 o, .int .i64 d, .int .i64 n, .int .i64 m, .int .i64 a, .int .i64 c, .int .i64 i] pc r = C at *
  have HB := Lib.hid (rowAt_new w C 257)
  clear hC
  go_enter Try.func215, Try.ntmps215
  go_wp2_with fail
  have HBB : Hid (Below w.heap.size w (w.alloc (.cells C 257))) := Lib.hid ((Below.refl _ _).alloc (Nat.le_refl _) (.cells C 257))
  obtain ⟨b, hb⟩ : ∃ b, b = w.heap.size := ⟨_, rfl⟩
  rw [← hb] at HB
  have HN := Lib.hid hb
  rw [← hb]
  clear hb
  have hB := HB.out
  have ha : ∀ w', rowAt w' b = some C → (ldAt 257 (.pointer (some ⟨b, 0, none⟩))).run Try.prog w' = .ok (.agg C) w' := fun w' h => HM.out w' b h
  generalize w.alloc (.cells C 257) = w1 at *
  go_region_held3 (fun w' => rowAt w' b = some C) (assumption) (first | (go_at_call 213; refine ((H0 _).out).mono ?_; rintro e w' ⟨rfl, hb0⟩; have hB0 := rowAt_below (by assumption) hb0 rfl; have HB0 := Lib.hid (below_step HBB.out hb0 rfl rfl rfl rfl); replace HBB := HB0; clear HB0 hb0) | (go_at_call 208; refine ((H1 _).out).mono ?_; rintro e w' ⟨rfl, hb1⟩; have hB1 := rowAt_below (by assumption) hb1 rfl; have HB1 := Lib.hid (below_step HBB.out hb1 rfl rfl rfl rfl); replace HBB := HB1; clear HB1 hb1))
  all_goals
    go_wp2
    go_ret
    exact ⟨rfl, HBB.out⟩
end Go.Proofs.Ytnbpgoacooddjaa
