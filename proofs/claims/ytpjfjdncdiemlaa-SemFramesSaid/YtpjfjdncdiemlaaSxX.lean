import Derived.Test.YtpjfjdncdiemlaaRows
import Derived.WalkKit
import Derived.ProofKit
import Derived.OpenShut
import Derived.Deep.QuietTactic
import Derived.BigQuiet
import Derived.Outline
import Derived.WalkSmall
import Derived.WalkLawsBesides
import Derived.WalkSpells
import Derived.BigGuardPart
import Derived.RegionTactic
import Derived.Deep.RegionHeld3
import Derived.Lib.Hide
import Derived.Deep.MidRow
import Derived.Below
import Derived.Deep.RegionWith
import Derived.Test.YtpjfjdncdiemlaaSmC
import Derived.Test.YtpjfjdncdiemlaaSxK
import Derived.Laws.BitsAllLaws
import Derived.Laws.BitsLemmas
import Derived.Deep.OwnRows
import Derived.Deep.AppendLies
import Derived.Laws.BitsAllLaws
import Derived.Laws.BitsLemmas
namespace Go.Proofs.Ytpjfjdncdiemlaa
open Go.ChangeShapes Go.WideShapes Go.ChangeAt Go.RowKit
set_option linter.unusedVariables false



attribute [local go_sem ↓] ld76 ld25 ld38
attribute [local go_sem] rowAt_drew rowAt_drewN
theorem shl_0 (i : Int) (h1 : 0 ≤ i) (h2 : i ≤ 65535) (w : World) : (Op.shift .shl .u64 i .i64 0).run Try.prog w = .ok (.int .u64 (i * 1)) w := by
  have hw : IntKind.u64.wrap (i * 1) = i * 1 := by rw [IntKind.wrap_u64]; omega
  have h : (Op.shift .shl .u64 i .i64 0).run Try.prog w = .ok (.int .u64 (IntKind.u64.wrap (i * 1))) w := by rfl
  rw [h, hw]
theorem shl65_0 (w : World) : (Op.shift .shl .u64 65535 .i64 0).run Try.prog w = .ok (.int .u64 65535) w := by rfl
theorem shl_1 (i : Int) (h1 : 0 ≤ i) (h2 : i ≤ 65535) (w : World) : (Op.shift .shl .u64 i .i64 16).run Try.prog w = .ok (.int .u64 (i * 65536)) w := by
  have hw : IntKind.u64.wrap (i * 65536) = i * 65536 := by rw [IntKind.wrap_u64]; omega
  have h : (Op.shift .shl .u64 i .i64 16).run Try.prog w = .ok (.int .u64 (IntKind.u64.wrap (i * 65536))) w := by rfl
  rw [h, hw]
theorem shl65_1 (w : World) : (Op.shift .shl .u64 65535 .i64 16).run Try.prog w = .ok (.int .u64 4294901760) w := by rfl
theorem shl_2 (i : Int) (h1 : 0 ≤ i) (h2 : i ≤ 65535) (w : World) : (Op.shift .shl .u64 i .i64 32).run Try.prog w = .ok (.int .u64 (i * 4294967296)) w := by
  have hw : IntKind.u64.wrap (i * 4294967296) = i * 4294967296 := by rw [IntKind.wrap_u64]; omega
  have h : (Op.shift .shl .u64 i .i64 32).run Try.prog w = .ok (.int .u64 (IntKind.u64.wrap (i * 4294967296))) w := by rfl
  rw [h, hw]
theorem shl65_2 (w : World) : (Op.shift .shl .u64 65535 .i64 32).run Try.prog w = .ok (.int .u64 281470681743360) w := by rfl
theorem shl_3 (i : Int) (h1 : 0 ≤ i) (h2 : i ≤ 65535) (w : World) : (Op.shift .shl .u64 i .i64 48).run Try.prog w = .ok (.int .u64 (i * 281474976710656)) w := by
  have hw : IntKind.u64.wrap (i * 281474976710656) = i * 281474976710656 := by rw [IntKind.wrap_u64]; omega
  have h : (Op.shift .shl .u64 i .i64 48).run Try.prog w = .ok (.int .u64 (IntKind.u64.wrap (i * 281474976710656))) w := by rfl
  rw [h, hw]
theorem shl65_3 (w : World) : (Op.shift .shl .u64 65535 .i64 48).run Try.prog w = .ok (.int .u64 18446462598732840960) w := by rfl
set_option maxRecDepth 100000 in
set_option maxHeartbeats 2000000 in
theorem moved_0 (o d n a c i pc : Int) (r : Rg) (w : World) (i1 : 0 ≤ i) (i2 : i ≤ 65535) :
    Calls Try.prog 78 #[.agg (coA #[.int .i64 o, .int .i64 d, .int .i64 n, .int .i64 0, .int .i64 a, .int .i64 c, .int .i64 i] pc r)] w fun e w' => e = .returned (.int .u64 (i)) ∧ Below w.heap.size w w' := by
  have H1 := fun w => Lib.hid ((number_c o d n 0 a c i pc r w i1 (by omega)))
  have hc3 := coA_lo (i := #[.int .i64 o, .int .i64 d, .int .i64 n, .int .i64 0, .int .i64 a, .int .i64 c, .int .i64 i]) rfl pc r 3 (by omega)
  have HA := Lib.hid (coA_all (i := #[.int .i64 o, .int .i64 d, .int .i64 n, .int .i64 0, .int .i64 a, .int .i64 c, .int .i64 i]) rfl pc r)
  have HS := Lib.hid (coA_size (i := #[.int .i64 o, .int .i64 d, .int .i64 n, .int .i64 0, .int .i64 a, .int .i64 c, .int .i64 i]) rfl pc r)
  have HL := Lib.hid (fun w b => core_regs (w := w) (b := b) (i := #[.int .i64 o, .int .i64 d, .int .i64 n, .int .i64 0, .int .i64 a, .int .i64 c, .int .i64 i]) rfl (pc := pc) (r := r))
  have HM := Lib.hid (fun w b => core_all (w := w) (b := b) (i := #[.int .i64 o, .int .i64 d, .int .i64 n, .int .i64 0, .int .i64 a, .int .i64 c, .int .i64 i]) rfl (pc := pc) (r := r))
  simp only [List.getElem?_toArray, List.getElem?_cons_zero, List.getElem?_cons_succ] at hc3
  generalize hC : coA #[.int .i64 o, .int .i64 d, .int .i64 n, .int .i64 0, .int .i64 a, .int .i64 c, .int .i64 i] pc r = C at *
  have HB := Lib.hid (rowAt_new w C 76)
  clear hC
  have hw16 : IntKind.i64.wrap 0 = 0 := by rfl
  have hwu : IntKind.u64.wrap (i) = i := by rw [IntKind.wrap_u64]; omega
  go_enter Try.func78, Try.ntmps78
  go_wp2_with fail
  have HBB : Hid (Below w.heap.size w (w.alloc (.cells C 76))) := Lib.hid ((Below.refl _ _).alloc (Nat.le_refl _) _)
  obtain ⟨b, hb⟩ : ∃ b, b = w.heap.size := ⟨_, rfl⟩
  rw [← hb] at HB
  have HN := Lib.hid hb
  rw [← hb]
  clear hb
  have hB := HB.out
  have ha : ∀ w', rowAt w' b = some C → (ldAt 76 (.pointer (some ⟨b, 0, none⟩))).run Try.prog w' = .ok (.agg C) w' := fun w' h => HM.out w' b h
  have hr : ∀ w', rowAt w' b = some C → (ldAt 25 (.pointer (some ⟨b, 8, none⟩))).run Try.prog w' = .ok (.agg r.arr) w' := fun w' h => HL.out w' b h
  have hf3 : ∀ w' : World, rowAt w' b = some C → w'.cell? ⟨b, 3, none⟩ = some (.int .i64 0) := fun w' h => (rowAt_cell h 3).trans hc3
  generalize w.alloc (.cells C 76) = w1 at *
  go_region_held3 (fun w' => rowAt w' b = some C) (assumption) (first | (go_at_call 58; refine ((H1 _).out).mono ?_; rintro e w' ⟨rfl, hb1⟩; have hB1 := rowAt_below (by assumption) hb1 rfl; have HB1 := Lib.hid (below_step HBB.out hb1 rfl rfl rfl rfl); replace HBB := HB1; clear HB1 hb1))
  all_goals
    go_wp2
    go_ret
    exact ⟨rfl, HBB.out⟩
set_option maxRecDepth 100000 in
set_option maxHeartbeats 2000000 in
theorem moved_1 (o d n a c i pc : Int) (r : Rg) (w : World) (i1 : 0 ≤ i) (i2 : i ≤ 65535) :
    Calls Try.prog 78 #[.agg (coA #[.int .i64 o, .int .i64 d, .int .i64 n, .int .i64 1, .int .i64 a, .int .i64 c, .int .i64 i] pc r)] w fun e w' => e = .returned (.int .u64 (i * 65536)) ∧ Below w.heap.size w w' := by
  have H1 := fun w => Lib.hid ((number_c o d n 1 a c i pc r w i1 (by omega)))
  have hc3 := coA_lo (i := #[.int .i64 o, .int .i64 d, .int .i64 n, .int .i64 1, .int .i64 a, .int .i64 c, .int .i64 i]) rfl pc r 3 (by omega)
  have HA := Lib.hid (coA_all (i := #[.int .i64 o, .int .i64 d, .int .i64 n, .int .i64 1, .int .i64 a, .int .i64 c, .int .i64 i]) rfl pc r)
  have HS := Lib.hid (coA_size (i := #[.int .i64 o, .int .i64 d, .int .i64 n, .int .i64 1, .int .i64 a, .int .i64 c, .int .i64 i]) rfl pc r)
  have HL := Lib.hid (fun w b => core_regs (w := w) (b := b) (i := #[.int .i64 o, .int .i64 d, .int .i64 n, .int .i64 1, .int .i64 a, .int .i64 c, .int .i64 i]) rfl (pc := pc) (r := r))
  have HM := Lib.hid (fun w b => core_all (w := w) (b := b) (i := #[.int .i64 o, .int .i64 d, .int .i64 n, .int .i64 1, .int .i64 a, .int .i64 c, .int .i64 i]) rfl (pc := pc) (r := r))
  simp only [List.getElem?_toArray, List.getElem?_cons_zero, List.getElem?_cons_succ] at hc3
  generalize hC : coA #[.int .i64 o, .int .i64 d, .int .i64 n, .int .i64 1, .int .i64 a, .int .i64 c, .int .i64 i] pc r = C at *
  have HB := Lib.hid (rowAt_new w C 76)
  clear hC
  have hw16 : IntKind.i64.wrap 16 = 16 := by rfl
  have hwu : IntKind.u64.wrap (i * 65536) = i * 65536 := by rw [IntKind.wrap_u64]; omega
  go_enter Try.func78, Try.ntmps78
  go_wp2_with fail
  have HBB : Hid (Below w.heap.size w (w.alloc (.cells C 76))) := Lib.hid ((Below.refl _ _).alloc (Nat.le_refl _) _)
  obtain ⟨b, hb⟩ : ∃ b, b = w.heap.size := ⟨_, rfl⟩
  rw [← hb] at HB
  have HN := Lib.hid hb
  rw [← hb]
  clear hb
  have hB := HB.out
  have ha : ∀ w', rowAt w' b = some C → (ldAt 76 (.pointer (some ⟨b, 0, none⟩))).run Try.prog w' = .ok (.agg C) w' := fun w' h => HM.out w' b h
  have hr : ∀ w', rowAt w' b = some C → (ldAt 25 (.pointer (some ⟨b, 8, none⟩))).run Try.prog w' = .ok (.agg r.arr) w' := fun w' h => HL.out w' b h
  have hf3 : ∀ w' : World, rowAt w' b = some C → w'.cell? ⟨b, 3, none⟩ = some (.int .i64 1) := fun w' h => (rowAt_cell h 3).trans hc3
  generalize w.alloc (.cells C 76) = w1 at *
  go_region_held3 (fun w' => rowAt w' b = some C) (assumption) (first | (go_at_call 58; refine ((H1 _).out).mono ?_; rintro e w' ⟨rfl, hb1⟩; have hB1 := rowAt_below (by assumption) hb1 rfl; have HB1 := Lib.hid (below_step HBB.out hb1 rfl rfl rfl rfl); replace HBB := HB1; clear HB1 hb1))
  all_goals
    go_wp2
    go_ret
    exact ⟨rfl, HBB.out⟩
set_option maxRecDepth 100000 in
set_option maxHeartbeats 2000000 in
theorem moved_2 (o d n a c i pc : Int) (r : Rg) (w : World) (i1 : 0 ≤ i) (i2 : i ≤ 65535) :
    Calls Try.prog 78 #[.agg (coA #[.int .i64 o, .int .i64 d, .int .i64 n, .int .i64 2, .int .i64 a, .int .i64 c, .int .i64 i] pc r)] w fun e w' => e = .returned (.int .u64 (i * 4294967296)) ∧ Below w.heap.size w w' := by
  have H1 := fun w => Lib.hid ((number_c o d n 2 a c i pc r w i1 (by omega)))
  have hc3 := coA_lo (i := #[.int .i64 o, .int .i64 d, .int .i64 n, .int .i64 2, .int .i64 a, .int .i64 c, .int .i64 i]) rfl pc r 3 (by omega)
  have HA := Lib.hid (coA_all (i := #[.int .i64 o, .int .i64 d, .int .i64 n, .int .i64 2, .int .i64 a, .int .i64 c, .int .i64 i]) rfl pc r)
  have HS := Lib.hid (coA_size (i := #[.int .i64 o, .int .i64 d, .int .i64 n, .int .i64 2, .int .i64 a, .int .i64 c, .int .i64 i]) rfl pc r)
  have HL := Lib.hid (fun w b => core_regs (w := w) (b := b) (i := #[.int .i64 o, .int .i64 d, .int .i64 n, .int .i64 2, .int .i64 a, .int .i64 c, .int .i64 i]) rfl (pc := pc) (r := r))
  have HM := Lib.hid (fun w b => core_all (w := w) (b := b) (i := #[.int .i64 o, .int .i64 d, .int .i64 n, .int .i64 2, .int .i64 a, .int .i64 c, .int .i64 i]) rfl (pc := pc) (r := r))
  simp only [List.getElem?_toArray, List.getElem?_cons_zero, List.getElem?_cons_succ] at hc3
  generalize hC : coA #[.int .i64 o, .int .i64 d, .int .i64 n, .int .i64 2, .int .i64 a, .int .i64 c, .int .i64 i] pc r = C at *
  have HB := Lib.hid (rowAt_new w C 76)
  clear hC
  have hw16 : IntKind.i64.wrap 32 = 32 := by rfl
  have hwu : IntKind.u64.wrap (i * 4294967296) = i * 4294967296 := by rw [IntKind.wrap_u64]; omega
  go_enter Try.func78, Try.ntmps78
  go_wp2_with fail
  have HBB : Hid (Below w.heap.size w (w.alloc (.cells C 76))) := Lib.hid ((Below.refl _ _).alloc (Nat.le_refl _) _)
  obtain ⟨b, hb⟩ : ∃ b, b = w.heap.size := ⟨_, rfl⟩
  rw [← hb] at HB
  have HN := Lib.hid hb
  rw [← hb]
  clear hb
  have hB := HB.out
  have ha : ∀ w', rowAt w' b = some C → (ldAt 76 (.pointer (some ⟨b, 0, none⟩))).run Try.prog w' = .ok (.agg C) w' := fun w' h => HM.out w' b h
  have hr : ∀ w', rowAt w' b = some C → (ldAt 25 (.pointer (some ⟨b, 8, none⟩))).run Try.prog w' = .ok (.agg r.arr) w' := fun w' h => HL.out w' b h
  have hf3 : ∀ w' : World, rowAt w' b = some C → w'.cell? ⟨b, 3, none⟩ = some (.int .i64 2) := fun w' h => (rowAt_cell h 3).trans hc3
  generalize w.alloc (.cells C 76) = w1 at *
  go_region_held3 (fun w' => rowAt w' b = some C) (assumption) (first | (go_at_call 58; refine ((H1 _).out).mono ?_; rintro e w' ⟨rfl, hb1⟩; have hB1 := rowAt_below (by assumption) hb1 rfl; have HB1 := Lib.hid (below_step HBB.out hb1 rfl rfl rfl rfl); replace HBB := HB1; clear HB1 hb1))
  all_goals
    go_wp2
    go_ret
    exact ⟨rfl, HBB.out⟩
set_option maxRecDepth 100000 in
set_option maxHeartbeats 2000000 in
theorem moved_3 (o d n a c i pc : Int) (r : Rg) (w : World) (i1 : 0 ≤ i) (i2 : i ≤ 65535) :
    Calls Try.prog 78 #[.agg (coA #[.int .i64 o, .int .i64 d, .int .i64 n, .int .i64 3, .int .i64 a, .int .i64 c, .int .i64 i] pc r)] w fun e w' => e = .returned (.int .u64 (i * 281474976710656)) ∧ Below w.heap.size w w' := by
  have H1 := fun w => Lib.hid ((number_c o d n 3 a c i pc r w i1 (by omega)))
  have hc3 := coA_lo (i := #[.int .i64 o, .int .i64 d, .int .i64 n, .int .i64 3, .int .i64 a, .int .i64 c, .int .i64 i]) rfl pc r 3 (by omega)
  have HA := Lib.hid (coA_all (i := #[.int .i64 o, .int .i64 d, .int .i64 n, .int .i64 3, .int .i64 a, .int .i64 c, .int .i64 i]) rfl pc r)
  have HS := Lib.hid (coA_size (i := #[.int .i64 o, .int .i64 d, .int .i64 n, .int .i64 3, .int .i64 a, .int .i64 c, .int .i64 i]) rfl pc r)
  have HL := Lib.hid (fun w b => core_regs (w := w) (b := b) (i := #[.int .i64 o, .int .i64 d, .int .i64 n, .int .i64 3, .int .i64 a, .int .i64 c, .int .i64 i]) rfl (pc := pc) (r := r))
  have HM := Lib.hid (fun w b => core_all (w := w) (b := b) (i := #[.int .i64 o, .int .i64 d, .int .i64 n, .int .i64 3, .int .i64 a, .int .i64 c, .int .i64 i]) rfl (pc := pc) (r := r))
  simp only [List.getElem?_toArray, List.getElem?_cons_zero, List.getElem?_cons_succ] at hc3
  generalize hC : coA #[.int .i64 o, .int .i64 d, .int .i64 n, .int .i64 3, .int .i64 a, .int .i64 c, .int .i64 i] pc r = C at *
  have HB := Lib.hid (rowAt_new w C 76)
  clear hC
  have hw16 : IntKind.i64.wrap 48 = 48 := by rfl
  have hwu : IntKind.u64.wrap (i * 281474976710656) = i * 281474976710656 := by rw [IntKind.wrap_u64]; omega
  go_enter Try.func78, Try.ntmps78
  go_wp2_with fail
  have HBB : Hid (Below w.heap.size w (w.alloc (.cells C 76))) := Lib.hid ((Below.refl _ _).alloc (Nat.le_refl _) _)
  obtain ⟨b, hb⟩ : ∃ b, b = w.heap.size := ⟨_, rfl⟩
  rw [← hb] at HB
  have HN := Lib.hid hb
  rw [← hb]
  clear hb
  have hB := HB.out
  have ha : ∀ w', rowAt w' b = some C → (ldAt 76 (.pointer (some ⟨b, 0, none⟩))).run Try.prog w' = .ok (.agg C) w' := fun w' h => HM.out w' b h
  have hr : ∀ w', rowAt w' b = some C → (ldAt 25 (.pointer (some ⟨b, 8, none⟩))).run Try.prog w' = .ok (.agg r.arr) w' := fun w' h => HL.out w' b h
  have hf3 : ∀ w' : World, rowAt w' b = some C → w'.cell? ⟨b, 3, none⟩ = some (.int .i64 3) := fun w' h => (rowAt_cell h 3).trans hc3
  generalize w.alloc (.cells C 76) = w1 at *
  go_region_held3 (fun w' => rowAt w' b = some C) (assumption) (first | (go_at_call 58; refine ((H1 _).out).mono ?_; rintro e w' ⟨rfl, hb1⟩; have hB1 := rowAt_below (by assumption) hb1 rfl; have HB1 := Lib.hid (below_step HBB.out hb1 rfl rfl rfl rfl); replace HBB := HB1; clear HB1 hb1))
  all_goals
    go_wp2
    go_ret
    exact ⟨rfl, HBB.out⟩
end Go.Proofs.Ytpjfjdncdiemlaa
