import Derived.Test.YtpjfjdncdiemlaaRows
import Derived.WalkKit
import Derived.ProofKit
import Derived.OpenShut
import Derived.Deep.QuietTactic
import Derived.BigQuiet
import Derived.Outline
import Derived.WalkSmall
import Derived.WalkLawsBesides
import Derived.WalkSpells
import Derived.BigGuardPart
import Derived.RegionTactic
import Derived.Deep.RegionHeld3
import Derived.Lib.Hide
import Derived.Deep.MidRow
import Derived.Below
import Derived.Deep.RegionWith
import Derived.Test.YtpjfjdncdiemlaaSfA
namespace Go.Proofs.Ytpjfjdncdiemlaa
open Go.ChangeShapes Go.WideShapes Go.ChangeAt Go.RowKit
set_option linter.unusedVariables false
attribute [local go_sem ↓] ld76 ld25 ld38
attribute [local go_sem] rowAt_drew rowAt_drewN
set_option maxRecDepth 100000 in
set_option maxHeartbeats 4000000 in
theorem addn_g (o d n m a c i pc : Int) (x : Int) (r : Rg) (w : World) (h1 : ∀ w, Calls Try.prog 64 #[.agg (coA #[.int .i64 o, .int .i64 d, .int .i64 n, .int .i64 m, .int .i64 a, .int .i64 c, .int .i64 i] pc r)] w fun e w' => e = .returned (.int .u64 (x)) ∧ Below w.heap.size w w') :
    Calls Try.prog 65 #[.agg (coA #[.int .i64 o, .int .i64 d, .int .i64 n, .int .i64 m, .int .i64 a, .int .i64 c, .int .i64 i] pc r)] w fun e w' => e = .returned (.int .u64 (IntKind.u64.wrap (x + IntKind.u64.wrap i))) ∧ Below w.heap.size w w' := by
  have H0 := fun w => Lib.hid (h1 w)
  have H1 := fun w => Lib.hid (number_g o d n m a c i pc r w)
  clear h1
  have HA := Lib.hid (coA_all (i := #[.int .i64 o, .int .i64 d, .int .i64 n, .int .i64 m, .int .i64 a, .int .i64 c, .int .i64 i]) rfl pc r)
  have HS := Lib.hid (coA_size (i := #[.int .i64 o, .int .i64 d, .int .i64 n, .int .i64 m, .int .i64 a, .int .i64 c, .int .i64 i]) rfl pc r)
  have HL := Lib.hid (fun w b => core_regs (w := w) (b := b) (i := #[.int .i64 o, .int .i64 d, .int .i64 n, .int .i64 m, .int .i64 a, .int .i64 c, .int .i64 i]) rfl (pc := pc) (r := r))
  have HM := Lib.hid (fun w b => core_all (w := w) (b := b) (i := #[.int .i64 o, .int .i64 d, .int .i64 n, .int .i64 m, .int .i64 a, .int .i64 c, .int .i64 i]) rfl (pc := pc) (r := r))
  generalize hC : coA #[.int .i64 o, .int .i64 d, .int .i64 n, .int .i64 m, .int .i64 a, .int .i64 c, .int .i64 i] pc r = C at *
  have HB := Lib.hid (rowAt_new w C 76)
  clear hC
  go_enter Try.func65, Try.ntmps65
  go_wp2_with fail
  have HBB : Hid (Below w.heap.size w (w.alloc (.cells C 76))) := Lib.hid ((Below.refl _ _).alloc (Nat.le_refl _) (.cells C 76))
  obtain ⟨b, hb⟩ : ∃ b, b = w.heap.size := ⟨_, rfl⟩
  rw [← hb] at HB
  have HN := Lib.hid hb
  rw [← hb]
  clear hb
  have hB := HB.out
  have ha : ∀ w', rowAt w' b = some C → (ldAt 76 (.pointer (some ⟨b, 0, none⟩))).run Try.prog w' = .ok (.agg C) w' := fun w' h => HM.out w' b h
  generalize w.alloc (.cells C 76) = w1 at *
  go_region_held3 (fun w' => rowAt w' b = some C) (assumption) (first | (go_at_call 64; refine ((H0 _).out).mono ?_; rintro e w' ⟨rfl, hb0⟩; have hB0 := rowAt_below (by assumption) hb0 rfl; have HB0 := Lib.hid (below_step HBB.out hb0 rfl rfl rfl rfl); replace HBB := HB0; clear HB0 hb0) | (go_at_call 58; refine ((H1 _).out).mono ?_; rintro e w' ⟨rfl, hb1⟩; have hB1 := rowAt_below (by assumption) hb1 rfl; have HB1 := Lib.hid (below_step HBB.out hb1 rfl rfl rfl rfl); replace HBB := HB1; clear HB1 hb1))
  all_goals
    go_wp2
    go_ret
    exact ⟨rfl, HBB.out⟩
set_option maxRecDepth 100000 in
set_option maxHeartbeats 4000000 in
theorem subn_g (o d n m a c i pc : Int) (x : Int) (r : Rg) (w : World) (h1 : ∀ w, Calls Try.prog 64 #[.agg (coA #[.int .i64 o, .int .i64 d, .int .i64 n, .int .i64 m, .int .i64 a, .int .i64 c, .int .i64 i] pc r)] w fun e w' => e = .returned (.int .u64 (x)) ∧ Below w.heap.size w w') :
    Calls Try.prog 80 #[.agg (coA #[.int .i64 o, .int .i64 d, .int .i64 n, .int .i64 m, .int .i64 a, .int .i64 c, .int .i64 i] pc r)] w fun e w' => e = .returned (.int .u64 (IntKind.u64.wrap (x - IntKind.u64.wrap i))) ∧ Below w.heap.size w w' := by
  have H0 := fun w => Lib.hid (h1 w)
  have H1 := fun w => Lib.hid (number_g o d n m a c i pc r w)
  clear h1
  have HA := Lib.hid (coA_all (i := #[.int .i64 o, .int .i64 d, .int .i64 n, .int .i64 m, .int .i64 a, .int .i64 c, .int .i64 i]) rfl pc r)
  have HS := Lib.hid (coA_size (i := #[.int .i64 o, .int .i64 d, .int .i64 n, .int .i64 m, .int .i64 a, .int .i64 c, .int .i64 i]) rfl pc r)
  have HL := Lib.hid (fun w b => core_regs (w := w) (b := b) (i := #[.int .i64 o, .int .i64 d, .int .i64 n, .int .i64 m, .int .i64 a, .int .i64 c, .int .i64 i]) rfl (pc := pc) (r := r))
  have HM := Lib.hid (fun w b => core_all (w := w) (b := b) (i := #[.int .i64 o, .int .i64 d, .int .i64 n, .int .i64 m, .int .i64 a, .int .i64 c, .int .i64 i]) rfl (pc := pc) (r := r))
  generalize hC : coA #[.int .i64 o, .int .i64 d, .int .i64 n, .int .i64 m, .int .i64 a, .int .i64 c, .int .i64 i] pc r = C at *
  have HB := Lib.hid (rowAt_new w C 76)
  clear hC
  go_enter Try.func80, Try.ntmps80
  go_wp2_with fail
  have HBB : Hid (Below w.heap.size w (w.alloc (.cells C 76))) := Lib.hid ((Below.refl _ _).alloc (Nat.le_refl _) (.cells C 76))
  obtain ⟨b, hb⟩ : ∃ b, b = w.heap.size := ⟨_, rfl⟩
  rw [← hb] at HB
  have HN := Lib.hid hb
  rw [← hb]
  clear hb
  have hB := HB.out
  have ha : ∀ w', rowAt w' b = some C → (ldAt 76 (.pointer (some ⟨b, 0, none⟩))).run Try.prog w' = .ok (.agg C) w' := fun w' h => HM.out w' b h
  generalize w.alloc (.cells C 76) = w1 at *
  go_region_held3 (fun w' => rowAt w' b = some C) (assumption) (first | (go_at_call 64; refine ((H0 _).out).mono ?_; rintro e w' ⟨rfl, hb0⟩; have hB0 := rowAt_below (by assumption) hb0 rfl; have HB0 := Lib.hid (below_step HBB.out hb0 rfl rfl rfl rfl); replace HBB := HB0; clear HB0 hb0) | (go_at_call 58; refine ((H1 _).out).mono ?_; rintro e w' ⟨rfl, hb1⟩; have hB1 := rowAt_below (by assumption) hb1 rfl; have HB1 := Lib.hid (below_step HBB.out hb1 rfl rfl rfl rfl); replace HBB := HB1; clear HB1 hb1))
  all_goals
    go_wp2
    go_ret
    exact ⟨rfl, HBB.out⟩
set_option maxRecDepth 100000 in
set_option maxHeartbeats 4000000 in
theorem add_g (o d n m a c i pc : Int) (x : Int) (r : Rg) (w : World) (h1 : ∀ w, Calls Try.prog 64 #[.agg (coA #[.int .i64 o, .int .i64 d, .int .i64 n, .int .i64 m, .int .i64 a, .int .i64 c, .int .i64 i] pc r)] w fun e w' => e = .returned (.int .u64 (x)) ∧ Below w.heap.size w w') :
    Calls Try.prog 81 #[.agg (coA #[.int .i64 o, .int .i64 d, .int .i64 n, .int .i64 m, .int .i64 a, .int .i64 c, .int .i64 i] pc r)] w fun e w' => e = .returned (.int .u64 (IntKind.u64.wrap (x + r.get m))) ∧ Below w.heap.size w w' := by
  have H0 := fun w => Lib.hid (h1 w)
  have H1 := fun w => Lib.hid (second_c o d n m a c i pc r w)
  clear h1
  have HA := Lib.hid (coA_all (i := #[.int .i64 o, .int .i64 d, .int .i64 n, .int .i64 m, .int .i64 a, .int .i64 c, .int .i64 i]) rfl pc r)
  have HS := Lib.hid (coA_size (i := #[.int .i64 o, .int .i64 d, .int .i64 n, .int .i64 m, .int .i64 a, .int .i64 c, .int .i64 i]) rfl pc r)
  have HL := Lib.hid (fun w b => core_regs (w := w) (b := b) (i := #[.int .i64 o, .int .i64 d, .int .i64 n, .int .i64 m, .int .i64 a, .int .i64 c, .int .i64 i]) rfl (pc := pc) (r := r))
  have HM := Lib.hid (fun w b => core_all (w := w) (b := b) (i := #[.int .i64 o, .int .i64 d, .int .i64 n, .int .i64 m, .int .i64 a, .int .i64 c, .int .i64 i]) rfl (pc := pc) (r := r))
  generalize hC : coA #[.int .i64 o, .int .i64 d, .int .i64 n, .int .i64 m, .int .i64 a, .int .i64 c, .int .i64 i] pc r = C at *
  have HB := Lib.hid (rowAt_new w C 76)
  clear hC
  go_enter Try.func81, Try.ntmps81
  go_wp2_with fail
  have HBB : Hid (Below w.heap.size w (w.alloc (.cells C 76))) := Lib.hid ((Below.refl _ _).alloc (Nat.le_refl _) (.cells C 76))
  obtain ⟨b, hb⟩ : ∃ b, b = w.heap.size := ⟨_, rfl⟩
  rw [← hb] at HB
  have HN := Lib.hid hb
  rw [← hb]
  clear hb
  have hB := HB.out
  have ha : ∀ w', rowAt w' b = some C → (ldAt 76 (.pointer (some ⟨b, 0, none⟩))).run Try.prog w' = .ok (.agg C) w' := fun w' h => HM.out w' b h
  generalize w.alloc (.cells C 76) = w1 at *
  go_region_held3 (fun w' => rowAt w' b = some C) (assumption) (first | (go_at_call 64; refine ((H0 _).out).mono ?_; rintro e w' ⟨rfl, hb0⟩; have hB0 := rowAt_below (by assumption) hb0 rfl; have HB0 := Lib.hid (below_step HBB.out hb0 rfl rfl rfl rfl); replace HBB := HB0; clear HB0 hb0) | (go_at_call 59; refine ((H1 _).out).mono ?_; rintro e w' ⟨rfl, hb1⟩; have hB1 := rowAt_below (by assumption) hb1 rfl; have HB1 := Lib.hid (below_step HBB.out hb1 rfl rfl rfl rfl); replace HBB := HB1; clear HB1 hb1))
  all_goals
    go_wp2
    go_ret
    exact ⟨rfl, HBB.out⟩
set_option maxRecDepth 100000 in
set_option maxHeartbeats 4000000 in
theorem sub_g (o d n m a c i pc : Int) (x : Int) (r : Rg) (w : World) (h1 : ∀ w, Calls Try.prog 64 #[.agg (coA #[.int .i64 o, .int .i64 d, .int .i64 n, .int .i64 m, .int .i64 a, .int .i64 c, .int .i64 i] pc r)] w fun e w' => e = .returned (.int .u64 (x)) ∧ Below w.heap.size w w') :
    Calls Try.prog 82 #[.agg (coA #[.int .i64 o, .int .i64 d, .int .i64 n, .int .i64 m, .int .i64 a, .int .i64 c, .int .i64 i] pc r)] w fun e w' => e = .returned (.int .u64 (IntKind.u64.wrap (x - r.get m))) ∧ Below w.heap.size w w' := by
  have H0 := fun w => Lib.hid (h1 w)
  have H1 := fun w => Lib.hid (second_c o d n m a c i pc r w)
  clear h1
  have HA := Lib.hid (coA_all (i := #[.int .i64 o, .int .i64 d, .int .i64 n, .int .i64 m, .int .i64 a, .int .i64 c, .int .i64 i]) rfl pc r)
  have HS := Lib.hid (coA_size (i := #[.int .i64 o, .int .i64 d, .int .i64 n, .int .i64 m, .int .i64 a, .int .i64 c, .int .i64 i]) rfl pc r)
  have HL := Lib.hid (fun w b => core_regs (w := w) (b := b) (i := #[.int .i64 o, .int .i64 d, .int .i64 n, .int .i64 m, .int .i64 a, .int .i64 c, .int .i64 i]) rfl (pc := pc) (r := r))
  have HM := Lib.hid (fun w b => core_all (w := w) (b := b) (i := #[.int .i64 o, .int .i64 d, .int .i64 n, .int .i64 m, .int .i64 a, .int .i64 c, .int .i64 i]) rfl (pc := pc) (r := r))
  generalize hC : coA #[.int .i64 o, .int .i64 d, .int .i64 n, .int .i64 m, .int .i64 a, .int .i64 c, .int .i64 i] pc r = C at *
  have HB := Lib.hid (rowAt_new w C 76)
  clear hC
  go_enter Try.func82, Try.ntmps82
  go_wp2_with fail
  have HBB : Hid (Below w.heap.size w (w.alloc (.cells C 76))) := Lib.hid ((Below.refl _ _).alloc (Nat.le_refl _) (.cells C 76))
  obtain ⟨b, hb⟩ : ∃ b, b = w.heap.size := ⟨_, rfl⟩
  rw [← hb] at HB
  have HN := Lib.hid hb
  rw [← hb]
  clear hb
  have hB := HB.out
  have ha : ∀ w', rowAt w' b = some C → (ldAt 76 (.pointer (some ⟨b, 0, none⟩))).run Try.prog w' = .ok (.agg C) w' := fun w' h => HM.out w' b h
  generalize w.alloc (.cells C 76) = w1 at *
  go_region_held3 (fun w' => rowAt w' b = some C) (assumption) (first | (go_at_call 64; refine ((H0 _).out).mono ?_; rintro e w' ⟨rfl, hb0⟩; have hB0 := rowAt_below (by assumption) hb0 rfl; have HB0 := Lib.hid (below_step HBB.out hb0 rfl rfl rfl rfl); replace HBB := HB0; clear HB0 hb0) | (go_at_call 59; refine ((H1 _).out).mono ?_; rintro e w' ⟨rfl, hb1⟩; have hB1 := rowAt_below (by assumption) hb1 rfl; have HB1 := Lib.hid (below_step HBB.out hb1 rfl rfl rfl rfl); replace HBB := HB1; clear HB1 hb1))
  all_goals
    go_wp2
    go_ret
    exact ⟨rfl, HBB.out⟩
set_option maxRecDepth 100000 in
set_option maxHeartbeats 4000000 in
theorem and_g (o d n m a c i pc : Int) (x : Int) (r : Rg) (w : World) (h1 : ∀ w, Calls Try.prog 64 #[.agg (coA #[.int .i64 o, .int .i64 d, .int .i64 n, .int .i64 m, .int .i64 a, .int .i64 c, .int .i64 i] pc r)] w fun e w' => e = .returned (.int .u64 (x)) ∧ Below w.heap.size w w') :
    Calls Try.prog 83 #[.agg (coA #[.int .i64 o, .int .i64 d, .int .i64 n, .int .i64 m, .int .i64 a, .int .i64 c, .int .i64 i] pc r)] w fun e w' => e = .returned (.int .u64 (bits .and .u64 x (r.get m))) ∧ Below w.heap.size w w' := by
  have H0 := fun w => Lib.hid (h1 w)
  have H1 := fun w => Lib.hid (second_c o d n m a c i pc r w)
  clear h1
  have HA := Lib.hid (coA_all (i := #[.int .i64 o, .int .i64 d, .int .i64 n, .int .i64 m, .int .i64 a, .int .i64 c, .int .i64 i]) rfl pc r)
  have HS := Lib.hid (coA_size (i := #[.int .i64 o, .int .i64 d, .int .i64 n, .int .i64 m, .int .i64 a, .int .i64 c, .int .i64 i]) rfl pc r)
  have HL := Lib.hid (fun w b => core_regs (w := w) (b := b) (i := #[.int .i64 o, .int .i64 d, .int .i64 n, .int .i64 m, .int .i64 a, .int .i64 c, .int .i64 i]) rfl (pc := pc) (r := r))
  have HM := Lib.hid (fun w b => core_all (w := w) (b := b) (i := #[.int .i64 o, .int .i64 d, .int .i64 n, .int .i64 m, .int .i64 a, .int .i64 c, .int .i64 i]) rfl (pc := pc) (r := r))
  generalize hC : coA #[.int .i64 o, .int .i64 d, .int .i64 n, .int .i64 m, .int .i64 a, .int .i64 c, .int .i64 i] pc r = C at *
  have HB := Lib.hid (rowAt_new w C 76)
  clear hC
  go_enter Try.func83, Try.ntmps83
  go_wp2_with fail
  have HBB : Hid (Below w.heap.size w (w.alloc (.cells C 76))) := Lib.hid ((Below.refl _ _).alloc (Nat.le_refl _) (.cells C 76))
  obtain ⟨b, hb⟩ : ∃ b, b = w.heap.size := ⟨_, rfl⟩
  rw [← hb] at HB
  have HN := Lib.hid hb
  rw [← hb]
  clear hb
  have hB := HB.out
  have ha : ∀ w', rowAt w' b = some C → (ldAt 76 (.pointer (some ⟨b, 0, none⟩))).run Try.prog w' = .ok (.agg C) w' := fun w' h => HM.out w' b h
  generalize w.alloc (.cells C 76) = w1 at *
  go_region_held3 (fun w' => rowAt w' b = some C) (assumption) (first | (go_at_call 64; refine ((H0 _).out).mono ?_; rintro e w' ⟨rfl, hb0⟩; have hB0 := rowAt_below (by assumption) hb0 rfl; have HB0 := Lib.hid (below_step HBB.out hb0 rfl rfl rfl rfl); replace HBB := HB0; clear HB0 hb0) | (go_at_call 59; refine ((H1 _).out).mono ?_; rintro e w' ⟨rfl, hb1⟩; have hB1 := rowAt_below (by assumption) hb1 rfl; have HB1 := Lib.hid (below_step HBB.out hb1 rfl rfl rfl rfl); replace HBB := HB1; clear HB1 hb1))
  all_goals
    go_wp2
    go_ret
    exact ⟨rfl, HBB.out⟩
set_option maxRecDepth 100000 in
set_option maxHeartbeats 4000000 in
theorem or_g (o d n m a c i pc : Int) (x : Int) (r : Rg) (w : World) (h1 : ∀ w, Calls Try.prog 64 #[.agg (coA #[.int .i64 o, .int .i64 d, .int .i64 n, .int .i64 m, .int .i64 a, .int .i64 c, .int .i64 i] pc r)] w fun e w' => e = .returned (.int .u64 (x)) ∧ Below w.heap.size w w') :
    Calls Try.prog 84 #[.agg (coA #[.int .i64 o, .int .i64 d, .int .i64 n, .int .i64 m, .int .i64 a, .int .i64 c, .int .i64 i] pc r)] w fun e w' => e = .returned (.int .u64 (bits .or .u64 x (r.get m))) ∧ Below w.heap.size w w' := by
  have H0 := fun w => Lib.hid (h1 w)
  have H1 := fun w => Lib.hid (second_c o d n m a c i pc r w)
  clear h1
  have HA := Lib.hid (coA_all (i := #[.int .i64 o, .int .i64 d, .int .i64 n, .int .i64 m, .int .i64 a, .int .i64 c, .int .i64 i]) rfl pc r)
  have HS := Lib.hid (coA_size (i := #[.int .i64 o, .int .i64 d, .int .i64 n, .int .i64 m, .int .i64 a, .int .i64 c, .int .i64 i]) rfl pc r)
  have HL := Lib.hid (fun w b => core_regs (w := w) (b := b) (i := #[.int .i64 o, .int .i64 d, .int .i64 n, .int .i64 m, .int .i64 a, .int .i64 c, .int .i64 i]) rfl (pc := pc) (r := r))
  have HM := Lib.hid (fun w b => core_all (w := w) (b := b) (i := #[.int .i64 o, .int .i64 d, .int .i64 n, .int .i64 m, .int .i64 a, .int .i64 c, .int .i64 i]) rfl (pc := pc) (r := r))
  generalize hC : coA #[.int .i64 o, .int .i64 d, .int .i64 n, .int .i64 m, .int .i64 a, .int .i64 c, .int .i64 i] pc r = C at *
  have HB := Lib.hid (rowAt_new w C 76)
  clear hC
  go_enter Try.func84, Try.ntmps84
  go_wp2_with fail
  have HBB : Hid (Below w.heap.size w (w.alloc (.cells C 76))) := Lib.hid ((Below.refl _ _).alloc (Nat.le_refl _) (.cells C 76))
  obtain ⟨b, hb⟩ : ∃ b, b = w.heap.size := ⟨_, rfl⟩
  rw [← hb] at HB
  have HN := Lib.hid hb
  rw [← hb]
  clear hb
  have hB := HB.out
  have ha : ∀ w', rowAt w' b = some C → (ldAt 76 (.pointer (some ⟨b, 0, none⟩))).run Try.prog w' = .ok (.agg C) w' := fun w' h => HM.out w' b h
  generalize w.alloc (.cells C 76) = w1 at *
  go_region_held3 (fun w' => rowAt w' b = some C) (assumption) (first | (go_at_call 64; refine ((H0 _).out).mono ?_; rintro e w' ⟨rfl, hb0⟩; have hB0 := rowAt_below (by assumption) hb0 rfl; have HB0 := Lib.hid (below_step HBB.out hb0 rfl rfl rfl rfl); replace HBB := HB0; clear HB0 hb0) | (go_at_call 59; refine ((H1 _).out).mono ?_; rintro e w' ⟨rfl, hb1⟩; have hB1 := rowAt_below (by assumption) hb1 rfl; have HB1 := Lib.hid (below_step HBB.out hb1 rfl rfl rfl rfl); replace HBB := HB1; clear HB1 hb1))
  all_goals
    go_wp2
    go_ret
    exact ⟨rfl, HBB.out⟩
set_option maxRecDepth 100000 in
set_option maxHeartbeats 4000000 in
theorem xor_g (o d n m a c i pc : Int) (x : Int) (r : Rg) (w : World) (h1 : ∀ w, Calls Try.prog 64 #[.agg (coA #[.int .i64 o, .int .i64 d, .int .i64 n, .int .i64 m, .int .i64 a, .int .i64 c, .int .i64 i] pc r)] w fun e w' => e = .returned (.int .u64 (x)) ∧ Below w.heap.size w w') :
    Calls Try.prog 85 #[.agg (coA #[.int .i64 o, .int .i64 d, .int .i64 n, .int .i64 m, .int .i64 a, .int .i64 c, .int .i64 i] pc r)] w fun e w' => e = .returned (.int .u64 (bits .xor .u64 x (r.get m))) ∧ Below w.heap.size w w' := by
  have H0 := fun w => Lib.hid (h1 w)
  have H1 := fun w => Lib.hid (second_c o d n m a c i pc r w)
  clear h1
  have HA := Lib.hid (coA_all (i := #[.int .i64 o, .int .i64 d, .int .i64 n, .int .i64 m, .int .i64 a, .int .i64 c, .int .i64 i]) rfl pc r)
  have HS := Lib.hid (coA_size (i := #[.int .i64 o, .int .i64 d, .int .i64 n, .int .i64 m, .int .i64 a, .int .i64 c, .int .i64 i]) rfl pc r)
  have HL := Lib.hid (fun w b => core_regs (w := w) (b := b) (i := #[.int .i64 o, .int .i64 d, .int .i64 n, .int .i64 m, .int .i64 a, .int .i64 c, .int .i64 i]) rfl (pc := pc) (r := r))
  have HM := Lib.hid (fun w b => core_all (w := w) (b := b) (i := #[.int .i64 o, .int .i64 d, .int .i64 n, .int .i64 m, .int .i64 a, .int .i64 c, .int .i64 i]) rfl (pc := pc) (r := r))
  generalize hC : coA #[.int .i64 o, .int .i64 d, .int .i64 n, .int .i64 m, .int .i64 a, .int .i64 c, .int .i64 i] pc r = C at *
  have HB := Lib.hid (rowAt_new w C 76)
  clear hC
  go_enter Try.func85, Try.ntmps85
  go_wp2_with fail
  have HBB : Hid (Below w.heap.size w (w.alloc (.cells C 76))) := Lib.hid ((Below.refl _ _).alloc (Nat.le_refl _) (.cells C 76))
  obtain ⟨b, hb⟩ : ∃ b, b = w.heap.size := ⟨_, rfl⟩
  rw [← hb] at HB
  have HN := Lib.hid hb
  rw [← hb]
  clear hb
  have hB := HB.out
  have ha : ∀ w', rowAt w' b = some C → (ldAt 76 (.pointer (some ⟨b, 0, none⟩))).run Try.prog w' = .ok (.agg C) w' := fun w' h => HM.out w' b h
  generalize w.alloc (.cells C 76) = w1 at *
  go_region_held3 (fun w' => rowAt w' b = some C) (assumption) (first | (go_at_call 64; refine ((H0 _).out).mono ?_; rintro e w' ⟨rfl, hb0⟩; have hB0 := rowAt_below (by assumption) hb0 rfl; have HB0 := Lib.hid (below_step HBB.out hb0 rfl rfl rfl rfl); replace HBB := HB0; clear HB0 hb0) | (go_at_call 59; refine ((H1 _).out).mono ?_; rintro e w' ⟨rfl, hb1⟩; have hB1 := rowAt_below (by assumption) hb1 rfl; have HB1 := Lib.hid (below_step HBB.out hb1 rfl rfl rfl rfl); replace HBB := HB1; clear HB1 hb1))
  all_goals
    go_wp2
    go_ret
    exact ⟨rfl, HBB.out⟩
set_option maxRecDepth 100000 in
set_option maxHeartbeats 4000000 in
theorem madd_g (o d n m a c i pc : Int) (x : Int) (r : Rg) (w : World) (h1 : ∀ w, Calls Try.prog 64 #[.agg (coA #[.int .i64 o, .int .i64 d, .int .i64 n, .int .i64 m, .int .i64 a, .int .i64 c, .int .i64 i] pc r)] w fun e w' => e = .returned (.int .u64 (x)) ∧ Below w.heap.size w w') :
    Calls Try.prog 86 #[.agg (coA #[.int .i64 o, .int .i64 d, .int .i64 n, .int .i64 m, .int .i64 a, .int .i64 c, .int .i64 i] pc r)] w fun e w' => e = .returned (.int .u64 (IntKind.u64.wrap (r.get a + IntKind.u64.wrap (x * r.get m)))) ∧ Below w.heap.size w w' := by
  have H0 := fun w => Lib.hid (third_c o d n m a c i pc r w)
  have H1 := fun w => Lib.hid (h1 w)
  have H2 := fun w => Lib.hid (second_c o d n m a c i pc r w)
  clear h1
  have HA := Lib.hid (coA_all (i := #[.int .i64 o, .int .i64 d, .int .i64 n, .int .i64 m, .int .i64 a, .int .i64 c, .int .i64 i]) rfl pc r)
  have HS := Lib.hid (coA_size (i := #[.int .i64 o, .int .i64 d, .int .i64 n, .int .i64 m, .int .i64 a, .int .i64 c, .int .i64 i]) rfl pc r)
  have HL := Lib.hid (fun w b => core_regs (w := w) (b := b) (i := #[.int .i64 o, .int .i64 d, .int .i64 n, .int .i64 m, .int .i64 a, .int .i64 c, .int .i64 i]) rfl (pc := pc) (r := r))
  have HM := Lib.hid (fun w b => core_all (w := w) (b := b) (i := #[.int .i64 o, .int .i64 d, .int .i64 n, .int .i64 m, .int .i64 a, .int .i64 c, .int .i64 i]) rfl (pc := pc) (r := r))
  generalize hC : coA #[.int .i64 o, .int .i64 d, .int .i64 n, .int .i64 m, .int .i64 a, .int .i64 c, .int .i64 i] pc r = C at *
  have HB := Lib.hid (rowAt_new w C 76)
  clear hC
  go_enter Try.func86, Try.ntmps86
  go_wp2_with fail
  have HBB : Hid (Below w.heap.size w (w.alloc (.cells C 76))) := Lib.hid ((Below.refl _ _).alloc (Nat.le_refl _) (.cells C 76))
  obtain ⟨b, hb⟩ : ∃ b, b = w.heap.size := ⟨_, rfl⟩
  rw [← hb] at HB
  have HN := Lib.hid hb
  rw [← hb]
  clear hb
  have hB := HB.out
  have ha : ∀ w', rowAt w' b = some C → (ldAt 76 (.pointer (some ⟨b, 0, none⟩))).run Try.prog w' = .ok (.agg C) w' := fun w' h => HM.out w' b h
  generalize w.alloc (.cells C 76) = w1 at *
  go_region_held3 (fun w' => rowAt w' b = some C) (assumption) (first | (go_at_call 92; refine ((H0 _).out).mono ?_; rintro e w' ⟨rfl, hb0⟩; have hB0 := rowAt_below (by assumption) hb0 rfl; have HB0 := Lib.hid (below_step HBB.out hb0 rfl rfl rfl rfl); replace HBB := HB0; clear HB0 hb0) | (go_at_call 64; refine ((H1 _).out).mono ?_; rintro e w' ⟨rfl, hb1⟩; have hB1 := rowAt_below (by assumption) hb1 rfl; have HB1 := Lib.hid (below_step HBB.out hb1 rfl rfl rfl rfl); replace HBB := HB1; clear HB1 hb1) | (go_at_call 59; refine ((H2 _).out).mono ?_; rintro e w' ⟨rfl, hb2⟩; have hB2 := rowAt_below (by assumption) hb2 rfl; have HB2 := Lib.hid (below_step HBB.out hb2 rfl rfl rfl rfl); replace HBB := HB2; clear HB2 hb2))
  all_goals
    go_wp2
    go_ret
    exact ⟨rfl, HBB.out⟩
set_option maxRecDepth 100000 in
set_option maxHeartbeats 4000000 in
theorem msub_g (o d n m a c i pc : Int) (x : Int) (r : Rg) (w : World) (h1 : ∀ w, Calls Try.prog 64 #[.agg (coA #[.int .i64 o, .int .i64 d, .int .i64 n, .int .i64 m, .int .i64 a, .int .i64 c, .int .i64 i] pc r)] w fun e w' => e = .returned (.int .u64 (x)) ∧ Below w.heap.size w w') :
    Calls Try.prog 87 #[.agg (coA #[.int .i64 o, .int .i64 d, .int .i64 n, .int .i64 m, .int .i64 a, .int .i64 c, .int .i64 i] pc r)] w fun e w' => e = .returned (.int .u64 (IntKind.u64.wrap (r.get a - IntKind.u64.wrap (x * r.get m)))) ∧ Below w.heap.size w w' := by
  have H0 := fun w => Lib.hid (third_c o d n m a c i pc r w)
  have H1 := fun w => Lib.hid (h1 w)
  have H2 := fun w => Lib.hid (second_c o d n m a c i pc r w)
  clear h1
  have HA := Lib.hid (coA_all (i := #[.int .i64 o, .int .i64 d, .int .i64 n, .int .i64 m, .int .i64 a, .int .i64 c, .int .i64 i]) rfl pc r)
  have HS := Lib.hid (coA_size (i := #[.int .i64 o, .int .i64 d, .int .i64 n, .int .i64 m, .int .i64 a, .int .i64 c, .int .i64 i]) rfl pc r)
  have HL := Lib.hid (fun w b => core_regs (w := w) (b := b) (i := #[.int .i64 o, .int .i64 d, .int .i64 n, .int .i64 m, .int .i64 a, .int .i64 c, .int .i64 i]) rfl (pc := pc) (r := r))
  have HM := Lib.hid (fun w b => core_all (w := w) (b := b) (i := #[.int .i64 o, .int .i64 d, .int .i64 n, .int .i64 m, .int .i64 a, .int .i64 c, .int .i64 i]) rfl (pc := pc) (r := r))
  generalize hC : coA #[.int .i64 o, .int .i64 d, .int .i64 n, .int .i64 m, .int .i64 a, .int .i64 c, .int .i64 i] pc r = C at *
  have HB := Lib.hid (rowAt_new w C 76)
  clear hC
  go_enter Try.func87, Try.ntmps87
  go_wp2_with fail
  have HBB : Hid (Below w.heap.size w (w.alloc (.cells C 76))) := Lib.hid ((Below.refl _ _).alloc (Nat.le_refl _) (.cells C 76))
  obtain ⟨b, hb⟩ : ∃ b, b = w.heap.size := ⟨_, rfl⟩
  rw [← hb] at HB
  have HN := Lib.hid hb
  rw [← hb]
  clear hb
  have hB := HB.out
  have ha : ∀ w', rowAt w' b = some C → (ldAt 76 (.pointer (some ⟨b, 0, none⟩))).run Try.prog w' = .ok (.agg C) w' := fun w' h => HM.out w' b h
  generalize w.alloc (.cells C 76) = w1 at *
  go_region_held3 (fun w' => rowAt w' b = some C) (assumption) (first | (go_at_call 92; refine ((H0 _).out).mono ?_; rintro e w' ⟨rfl, hb0⟩; have hB0 := rowAt_below (by assumption) hb0 rfl; have HB0 := Lib.hid (below_step HBB.out hb0 rfl rfl rfl rfl); replace HBB := HB0; clear HB0 hb0) | (go_at_call 64; refine ((H1 _).out).mono ?_; rintro e w' ⟨rfl, hb1⟩; have hB1 := rowAt_below (by assumption) hb1 rfl; have HB1 := Lib.hid (below_step HBB.out hb1 rfl rfl rfl rfl); replace HBB := HB1; clear HB1 hb1) | (go_at_call 59; refine ((H2 _).out).mono ?_; rintro e w' ⟨rfl, hb2⟩; have hB2 := rowAt_below (by assumption) hb2 rfl; have HB2 := Lib.hid (below_step HBB.out hb2 rfl rfl rfl rfl); replace HBB := HB2; clear HB2 hb2))
  all_goals
    go_wp2
    go_ret
    exact ⟨rfl, HBB.out⟩
set_option maxRecDepth 100000 in
set_option maxHeartbeats 4000000 in
theorem elem_g (o d n m a c i pc : Int) (x : Int) (r : Rg) (w : World) (h1 : ∀ w, Calls Try.prog 64 #[.agg (coA #[.int .i64 o, .int .i64 d, .int .i64 n, .int .i64 m, .int .i64 a, .int .i64 c, .int .i64 i] pc r)] w fun e w' => e = .returned (.int .u64 (x)) ∧ Below w.heap.size w w') :
    Calls Try.prog 66 #[.agg (coA #[.int .i64 o, .int .i64 d, .int .i64 n, .int .i64 m, .int .i64 a, .int .i64 c, .int .i64 i] pc r)] w fun e w' => e = .returned (.int .u64 (IntKind.u64.wrap (x + IntKind.u64.wrap (8 * r.get m)))) ∧ Below w.heap.size w w' := by
  have H0 := fun w => Lib.hid (h1 w)
  have H1 := fun w => Lib.hid (second_c o d n m a c i pc r w)
  clear h1
  have HA := Lib.hid (coA_all (i := #[.int .i64 o, .int .i64 d, .int .i64 n, .int .i64 m, .int .i64 a, .int .i64 c, .int .i64 i]) rfl pc r)
  have HS := Lib.hid (coA_size (i := #[.int .i64 o, .int .i64 d, .int .i64 n, .int .i64 m, .int .i64 a, .int .i64 c, .int .i64 i]) rfl pc r)
  have HL := Lib.hid (fun w b => core_regs (w := w) (b := b) (i := #[.int .i64 o, .int .i64 d, .int .i64 n, .int .i64 m, .int .i64 a, .int .i64 c, .int .i64 i]) rfl (pc := pc) (r := r))
  have HM := Lib.hid (fun w b => core_all (w := w) (b := b) (i := #[.int .i64 o, .int .i64 d, .int .i64 n, .int .i64 m, .int .i64 a, .int .i64 c, .int .i64 i]) rfl (pc := pc) (r := r))
  generalize hC : coA #[.int .i64 o, .int .i64 d, .int .i64 n, .int .i64 m, .int .i64 a, .int .i64 c, .int .i64 i] pc r = C at *
  have HB := Lib.hid (rowAt_new w C 76)
  clear hC
  go_enter Try.func66, Try.ntmps66
  go_wp2_with fail
  have HBB : Hid (Below w.heap.size w (w.alloc (.cells C 76))) := Lib.hid ((Below.refl _ _).alloc (Nat.le_refl _) (.cells C 76))
  obtain ⟨b, hb⟩ : ∃ b, b = w.heap.size := ⟨_, rfl⟩
  rw [← hb] at HB
  have HN := Lib.hid hb
  rw [← hb]
  clear hb
  have hB := HB.out
  have ha : ∀ w', rowAt w' b = some C → (ldAt 76 (.pointer (some ⟨b, 0, none⟩))).run Try.prog w' = .ok (.agg C) w' := fun w' h => HM.out w' b h
  generalize w.alloc (.cells C 76) = w1 at *
  go_region_held3 (fun w' => rowAt w' b = some C) (assumption) (first | (go_at_call 64; refine ((H0 _).out).mono ?_; rintro e w' ⟨rfl, hb0⟩; have hB0 := rowAt_below (by assumption) hb0 rfl; have HB0 := Lib.hid (below_step HBB.out hb0 rfl rfl rfl rfl); replace HBB := HB0; clear HB0 hb0) | (go_at_call 59; refine ((H1 _).out).mono ?_; rintro e w' ⟨rfl, hb1⟩; have hB1 := rowAt_below (by assumption) hb1 rfl; have HB1 := Lib.hid (below_step HBB.out hb1 rfl rfl rfl rfl); replace HBB := HB1; clear HB1 hb1))
  all_goals
    go_wp2
    go_ret
    exact ⟨rfl, HBB.out⟩
end Go.Proofs.Ytpjfjdncdiemlaa
