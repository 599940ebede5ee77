import Derived.Test.YtnbpgoacooddjaaRows
import Derived.WalkKit
import Derived.ProofKit
import Derived.OpenShut
import Derived.Deep.QuietTactic
import Derived.BigQuiet
import Derived.Outline
import Derived.WalkSmall
import Derived.WalkLawsBesides
import Derived.WalkSpells
import Derived.BigGuardPart
import Derived.RegionTactic
import Derived.Deep.RegionHeld3
import Derived.Lib.Hide
import Derived.Deep.MidRow
import Derived.Below
import Derived.Deep.RegionWith
import Derived.Test.YtnbpgoacooddjaaSfF
import Derived.Test.YtnbpgoacooddjaaSmC
import Derived.Test.YtnbpgoacooddjaaSxK
import Derived.Deep.OwnRows
import Derived.Deep.AppendLies
import Derived.Laws.BitsAllLaws
import Derived.Laws.BitsLemmas
namespace Go.Proofs.Ytnbpgoacooddjaa
open Go.ChangeShapes Go.WideShapes Go.ChangeAt Go.RowKit
set_option linter.unusedVariables false
attribute [local go_sem ↓] ld76 ld25 ld38 st25
attribute [local go_sem] rowAt_drew rowAt_drewN
set_option maxRecDepth 100000 in
set_option maxHeartbeats 4000000 in
theorem do_p65 (o d n m a c i pc v sv : Int) (r : Rg) (w : World) (hck : ∀ w, Calls Try.prog 31 #[.agg #[.int .i64 o, .int .i64 d, .int .i64 n, .int .i64 m, .int .i64 a, .int .i64 c, .int .i64 i]] w fun e w' => e = .returned (.int .i64 0) ∧ Below w.heap.size w w') (hdo : ∀ w, Calls Try.prog 192 #[.int .i64 o] w fun e w' => e = .returned (.iface 264 (Value.func (.func 214) #[] #[])) ∧ w' = w) (hf : ∀ w, Calls Try.prog 214 #[.agg (coA #[.int .i64 o, .int .i64 d, .int .i64 n, .int .i64 m, .int .i64 a, .int .i64 c, .int .i64 i] pc r)] w fun e w' => e = .returned (.int .u64 v) ∧ Below w.heap.size w w') (hs : ∀ w, Calls Try.prog 195 #[.agg (coA #[.int .i64 o, .int .i64 d, .int .i64 n, .int .i64 m, .int .i64 a, .int .i64 c, .int .i64 i] pc r)] w fun e w' => e = .returned (.int .u64 sv) ∧ Below w.heap.size w w') :
    Calls Try.prog 163 #[.agg #[.int .i64 o, .int .i64 d, .int .i64 n, .int .i64 m, .int .i64 a, .int .i64 c, .int .i64 i], .int .u64 pc, .agg r.arr] w fun e w' => e = .returned (.agg (efA r (IntKind.u64.wrap (pc + 4)) v sv true)) ∧ Below w.heap.size w w' := by
  have HCK := Lib.hid hck
  have HDO := Lib.hid hdo
  have HFF := Lib.hid hf
  have HSS := Lib.hid hs
  obtain ⟨nx, hnx⟩ : ∃ nx, IntKind.u64.wrap (pc + 4) = nx := ⟨_, rfl⟩
  rw [hnx]
  have t1 := ta83_79 214
  have t2 := ta83_80 214
  have t3 := ta83_82 214
  have t4 := ta83_83 214
  clear hck hdo hf hs
  have HI0 : Hid (InsAt (((w.alloc (.cells #[.int .i64 o, .int .i64 d, .int .i64 n, .int .i64 m, .int .i64 a, .int .i64 c, .int .i64 i] 29)).alloc (.cells r.arr 26)).alloc (.cells z40 232)) w.heap.size (.int .i64 o) (.int .i64 d) (.int .i64 n) (.int .i64 m) (.int .i64 a) (.int .i64 c) (.int .i64 i)) := Lib.hid (((InsAt.new _ _ _ _ _ _ _ _).past _).past _)
  have HR0 : Hid (rowAt (((w.alloc (.cells #[.int .i64 o, .int .i64 d, .int .i64 n, .int .i64 m, .int .i64 a, .int .i64 c, .int .i64 i] 29)).alloc (.cells r.arr 26)).alloc (.cells z40 232)) (w.heap.size + 1) = some r.arr) := Lib.hid (by have := rowAt_past (rowAt_new (w.alloc (.cells #[.int .i64 o, .int .i64 d, .int .i64 n, .int .i64 m, .int .i64 a, .int .i64 c, .int .i64 i] 29)) r.arr 26) (.cells z40 232); simpa using this)
  have HE0 : Hid (rowAt (((w.alloc (.cells #[.int .i64 o, .int .i64 d, .int .i64 n, .int .i64 m, .int .i64 a, .int .i64 c, .int .i64 i] 29)).alloc (.cells r.arr 26)).alloc (.cells z40 232)) (w.heap.size + 2) = some z40) := Lib.hid (by have := rowAt_new ((w.alloc (.cells #[.int .i64 o, .int .i64 d, .int .i64 n, .int .i64 m, .int .i64 a, .int .i64 c, .int .i64 i] 29)).alloc (.cells r.arr 26)) z40 232; simpa using this)
  have HB0 : Hid (Below w.heap.size w (((w.alloc (.cells #[.int .i64 o, .int .i64 d, .int .i64 n, .int .i64 m, .int .i64 a, .int .i64 c, .int .i64 i] 29)).alloc (.cells r.arr 26)).alloc (.cells z40 232))) := Lib.hid ((((Below.refl _ _).alloc (Nat.le_refl _) _).alloc (by simp) _).alloc (by simp; omega) _)
  have HI1 : Hid (InsAt ((((w.alloc (.cells #[.int .i64 o, .int .i64 d, .int .i64 n, .int .i64 m, .int .i64 a, .int .i64 c, .int .i64 i] 29)).alloc (.cells r.arr 26)).alloc (.cells z40 232)).alloc (.cells z40 232)) w.heap.size (.int .i64 o) (.int .i64 d) (.int .i64 n) (.int .i64 m) (.int .i64 a) (.int .i64 c) (.int .i64 i)) := Lib.hid (HI0.out.past _)
  have HR1 : Hid (rowAt ((((w.alloc (.cells #[.int .i64 o, .int .i64 d, .int .i64 n, .int .i64 m, .int .i64 a, .int .i64 c, .int .i64 i] 29)).alloc (.cells r.arr 26)).alloc (.cells z40 232)).alloc (.cells z40 232)) (w.heap.size + 1) = some r.arr) := Lib.hid (rowAt_past HR0.out _)
  have HE1 : Hid (rowAt ((((w.alloc (.cells #[.int .i64 o, .int .i64 d, .int .i64 n, .int .i64 m, .int .i64 a, .int .i64 c, .int .i64 i] 29)).alloc (.cells r.arr 26)).alloc (.cells z40 232)).alloc (.cells z40 232)) (w.heap.size + 2) = some z40) := Lib.hid (rowAt_past HE0.out _)
  have HZ1 : Hid (rowAt ((((w.alloc (.cells #[.int .i64 o, .int .i64 d, .int .i64 n, .int .i64 m, .int .i64 a, .int .i64 c, .int .i64 i] 29)).alloc (.cells r.arr 26)).alloc (.cells z40 232)).alloc (.cells z40 232)) (w.heap.size + 3) = some z40) := Lib.hid (by have := rowAt_new (((w.alloc (.cells #[.int .i64 o, .int .i64 d, .int .i64 n, .int .i64 m, .int .i64 a, .int .i64 c, .int .i64 i] 29)).alloc (.cells r.arr 26)).alloc (.cells z40 232)) z40 232; simpa using this)
  have HB1 : Hid (Below w.heap.size w ((((w.alloc (.cells #[.int .i64 o, .int .i64 d, .int .i64 n, .int .i64 m, .int .i64 a, .int .i64 c, .int .i64 i] 29)).alloc (.cells r.arr 26)).alloc (.cells z40 232)).alloc (.cells z40 232))) := Lib.hid (HB0.out.alloc HB0.out.size _)
  go_enter Try.func163, Try.ntmps163
  go_wp2_with (first | (refine wpl_load rfl 26 _ rfl (w.heap.size + 1) 0 rfl r.arr (reg_all HR0.out) ?_) | (refine wpl_build2 rfl 232 0 1 _ _ rfl (.agg r.arr) (.int .u64 nx) rfl rfl _ (built38 r nx) ?_) | (refine wpl_store rfl 232 _ _ rfl (w.heap.size + 3) (efA r nx 0 0 false) z40 rfl rfl HZ1.out (by rw [efA_size]; exact info38) (by rw [efA_size]; rfl) (efA_one _ _ _ _ _) ?_; intro w2 hrow2 hg2; have HE2 := Lib.hid hrow2; have HI2 := Lib.hid (HI1.out.far hg2 (by omega)); have HR2 := Lib.hid (rowAt_grown HR1.out hg2 (by omega)); have HZ2 := Lib.hid (rowAt_grown HE1.out hg2 (by omega)); have HB2 := Lib.hid (grown_below HB1.out hg2 (by omega)); clear hrow2 hg2; obtain ⟨hl, i0, i1, i2, i3, i4, i5, i6⟩ := HI2.out))
  refine (HCK.out _).mono ?_
  rintro e w3 ⟨rfl, hb3⟩
  have HI3 := Lib.hid (HI2.out.below' hb3 rfl)
  have HR3 := Lib.hid (rowAt_below HR2.out hb3 rfl)
  have HE3 := Lib.hid (rowAt_below HE2.out hb3 rfl)
  have HZ3 := Lib.hid (rowAt_below HZ2.out hb3 rfl)
  have HB3 := Lib.hid (HB2.out.trans (hb3.mono HB2.out.size))
  have hq3 : w.heap.size + 3 < w3.heap.size := rowAt_lt HE3.out
  clear hb3 HI2 HR2 HE2 HZ2 HB2 HI1 HR1 HE1 HZ1 HB1 HI0 HR0 HE0 HB0 hl i0 i1 i2 i3 i4 i5 i6
  obtain ⟨hl, i0, i1, i2, i3, i4, i5, i6⟩ := HI3.out
  obtain ⟨q, hq⟩ : ∃ q, q = w3.heap.size := ⟨_, rfl⟩
  have HQ3 : Hid (rowAt (w3.alloc (.cells z44 257)) w3.heap.size = some z44) := Lib.hid (rowAt_new w3 z44 257)
  have HI4 := Lib.hid (HI3.out.past (.cells z44 257))
  have HR4 := Lib.hid (rowAt_past HR3.out (.cells z44 257))
  have HE4 := Lib.hid (rowAt_past HE3.out (.cells z44 257))
  have HZ4 := Lib.hid (rowAt_past HZ3.out (.cells z44 257))
  have HB4 := Lib.hid (HB3.out.alloc HB3.out.size (.cells z44 257))
  have HQN := Lib.hid hq
  clear hq
  go_wp2_with (first | (refine wpl_load rfl 26 _ rfl (w.heap.size + 1) 0 rfl r.arr (reg_all HR3.out) ?_) | (refine wpl_build3 rfl 257 0 1 2 _ _ _ rfl (.agg #[.int .i64 o, .int .i64 d, .int .i64 n, .int .i64 m, .int .i64 a, .int .i64 c, .int .i64 i]) (.int .u64 pc) (.agg r.arr) rfl rfl rfl _ (built76 o d n m a c i pc r) ?_) | (refine wpl_store rfl 257 _ _ rfl w3.heap.size (coA #[.int .i64 o, .int .i64 d, .int .i64 n, .int .i64 m, .int .i64 a, .int .i64 c, .int .i64 i] pc r) z44 rfl rfl HQ3.out (by rw [coA_size rfl]; exact info76) (by rw [coA_size rfl]; rfl) (coA_one _ _ _ _ _ _ _ _ _) ?_; intro w4 hrow4 hg4; have HC5 := Lib.hid hrow4; have HI5 := Lib.hid (HI4.out.far hg4 (by omega)); have HR5 := Lib.hid (rowAt_grown HR4.out hg4 (by omega)); have HE5 := Lib.hid (rowAt_grown HE4.out hg4 (by omega)); have HZ5 := Lib.hid (rowAt_grown HZ4.out hg4 (by omega)); have HB5 := Lib.hid (grown_below HB4.out hg4 (by omega)); clear hrow4 hg4 hl i0 i1 i2 i3 i4 i5 i6; obtain ⟨hl, i0, i1, i2, i3, i4, i5, i6⟩ := HI5.out) | (go_at_call 192; refine (HDO.out _).mono ?_; rintro e w' ⟨rfl, rfl⟩))
  clear hl i0 i1 i2 i3 i4 i5 i6 HI4 HR4 HE4 HZ4 HB4 HI3 HR3 HE3 HZ3 HB3 HQ3 t1 t2 t3 t4
  have hR := HR5.out
  have hC := HC5.out
  have hE := HE5.out
  have hZ := HZ5.out
  have n1 : w.heap.size + 1 ≠ w.heap.size + 1 + 1 + 1 := by omega
  have n2 : w3.heap.size ≠ w.heap.size + 1 + 1 + 1 := by omega
  have n3 : w.heap.size + 1 + 1 ≠ w.heap.size + 1 + 1 + 1 := by omega
  have hl2 : ∀ w', rowAt w' w3.heap.size = some (coA #[.int .i64 o, .int .i64 d, .int .i64 n, .int .i64 m, .int .i64 a, .int .i64 c, .int .i64 i] pc r) → (ldAt 257 (.pointer (some ⟨w3.heap.size, 0, none⟩))).run Try.prog w' = .ok (.agg (coA #[.int .i64 o, .int .i64 d, .int .i64 n, .int .i64 m, .int .i64 a, .int .i64 c, .int .i64 i] pc r)) w' := fun w' h => core_all rfl h
  have q37 := efA_37 r nx 0 0 false
  have q38 := efA_38 r nx 0 0 false
  have q39 := efA_39 r nx 0 0 false
  have Q37 := Lib.hid q37
  have Q38 := Lib.hid q38
  have Q39 := Lib.hid q39
  clear q37 q38 q39
  generalize hCC : coA #[.int .i64 o, .int .i64 d, .int .i64 n, .int .i64 m, .int .i64 a, .int .i64 c, .int .i64 i] pc r = Cc at *
  generalize hEE : efA r nx 0 0 false = Ee at *
  have HEE := Lib.hid hEE
  clear hCC hEE
  have hE : rowAt _ (w.heap.size + 1 + 1 + 1) = some Ee := hE
  go_region_held3 (fun w' => rowAt w' w3.heap.size = some Cc) (first | with_reducible exact hCa | with_reducible exact hCb | with_reducible exact rowAt_set_far hCb n2 _ _ | with_reducible exact rowAt_set_far (rowAt_set_far hCb n2 _ _) n2 _ _ | with_reducible exact rowAt_set_far (rowAt_set_far (rowAt_set_far hCb n2 _ _) n2 _ _) n2 _ _ | exact hC) (first | (go_at_call 214; refine (HFF.out _).mono ?_; rintro e wa ⟨rfl, hba⟩; have hCa : rowAt wa w3.heap.size = some Cc := rowAt_below hC hba rfl; have hEa := rowAt_below hE hba rfl; have hZa := rowAt_below hZ hba rfl; have HBa := Lib.hid (below_step HB5.out hba rfl rfl rfl rfl); clear hba) | (go_at_call 195; refine (HSS.out _).mono ?_; rintro e wb ⟨rfl, hbb⟩; have hCb : rowAt wb w3.heap.size = some Cc := rowAt_below hCa hbb rfl; have hEb := rowAt_below hEa hbb rfl; have hZb := rowAt_below hZa hbb rfl; have HBb := Lib.hid (below_step HBa.out hbb rfl rfl rfl rfl); clear hbb; have c37 : wb.cell? ⟨w.heap.size + 1 + 1 + 1, 37, none⟩ = some (.int .u64 0) := (rowAt_cell hEb 37).trans Q37.out; have c38 : wb.cell? ⟨w.heap.size + 1 + 1 + 1, 38, none⟩ = some (.int .u64 0) := (rowAt_cell hEb 38).trans Q38.out; have c39 : wb.cell? ⟨w.heap.size + 1 + 1 + 1, 39, none⟩ = some (.bool false) := (rowAt_cell hEb 39).trans Q39.out; have f37 : wb.frozen? ⟨w.heap.size + 1 + 1 + 1, 37, none⟩ = false := rowAt_frz hEb 37; have f38 : wb.frozen? ⟨w.heap.size + 1 + 1 + 1, 38, none⟩ = false := rowAt_frz hEb 38; have f39 : wb.frozen? ⟨w.heap.size + 1 + 1 + 1, 39, none⟩ = false := rowAt_frz hEb 39))
  have HEF : Hid (rowAt (((wb.setCell ⟨w.heap.size + 1 + 1 + 1, 39, none⟩ (.bool true)).setCell ⟨w.heap.size + 1 + 1 + 1, 37, none⟩ (.int .u64 v)).setCell ⟨w.heap.size + 1 + 1 + 1, 38, none⟩ (.int .u64 sv)) (w.heap.size + 3) = some (efA r nx v sv true)) := Lib.hid (by have h := rowAt_set (rowAt_set (rowAt_set hEb 39 (.bool true)) 37 (.int .u64 v)) 38 (.int .u64 sv); rw [← HEE.out, efA_place] at h; exact h)
  have HZF : Hid (rowAt (((wb.setCell ⟨w.heap.size + 1 + 1 + 1, 39, none⟩ (.bool true)).setCell ⟨w.heap.size + 1 + 1 + 1, 37, none⟩ (.int .u64 v)).setCell ⟨w.heap.size + 1 + 1 + 1, 38, none⟩ (.int .u64 sv)) (w.heap.size + 2) = some z40) := Lib.hid (rowAt_set_far (rowAt_set_far (rowAt_set_far hZb n3 _ _) n3 _ _) n3 _ _)
  have HBF : Hid (Below w.heap.size w (((wb.setCell ⟨w.heap.size + 1 + 1 + 1, 39, none⟩ (.bool true)).setCell ⟨w.heap.size + 1 + 1 + 1, 37, none⟩ (.int .u64 v)).setCell ⟨w.heap.size + 1 + 1 + 1, 38, none⟩ (.int .u64 sv))) := Lib.hid (((HBb.out.setCell (p := ⟨w.heap.size + 1 + 1 + 1, 39, none⟩) (by show w.heap.size ≤ w.heap.size + 1 + 1 + 1; omega) _).setCell (p := ⟨w.heap.size + 1 + 1 + 1, 37, none⟩) (by show w.heap.size ≤ w.heap.size + 1 + 1 + 1; omega) _).setCell (p := ⟨w.heap.size + 1 + 1 + 1, 38, none⟩) (by show w.heap.size ≤ w.heap.size + 1 + 1 + 1; omega) _)
  clear hR hC hE hZ hCa hEa hZa HBa hCb hEb hZb HBb hl2 c37 c38 c39 f37 f38 f39
  generalize (((wb.setCell ⟨w.heap.size + 1 + 1 + 1, 39, none⟩ (.bool true)).setCell ⟨w.heap.size + 1 + 1 + 1, 37, none⟩ (.int .u64 v)).setCell ⟨w.heap.size + 1 + 1 + 1, 38, none⟩ (.int .u64 sv)) = w8 at *
  go_wp2_with (first | (refine wpl_load rfl 232 _ rfl (w.heap.size + 3) 0 rfl (efA r nx v sv true) (ef_all HEF.out) ?_) | (refine wpl_store rfl 232 _ _ rfl (w.heap.size + 2) (efA r nx v sv true) z40 rfl rfl HZF.out (by rw [efA_size]; exact info38) (by rw [efA_size]; rfl) (efA_one _ _ _ _ _) ?_; intro w9 hrow9 hg9; have HR9 := Lib.hid hrow9; have HB9 := Lib.hid (grown_below HBF.out hg9 (by omega)); clear hrow9 hg9))
  obtain ⟨t9, ht9⟩ := rowAt_heap HR9.out
  refine bodyPost_ret (results_cell_row rfl _ _ (w.heap.size + 2) t9 (efA r nx v sv true) (0, 0) _ rfl ht9 Try.underlying232 rfl (by rw [efA_size]; exact info38)) rfl ⟨rfl, HB9.out⟩
set_option maxRecDepth 100000 in
set_option maxHeartbeats 4000000 in
theorem do_p66 (o d n m a c i pc v sv : Int) (r : Rg) (w : World) (hck : ∀ w, Calls Try.prog 31 #[.agg #[.int .i64 o, .int .i64 d, .int .i64 n, .int .i64 m, .int .i64 a, .int .i64 c, .int .i64 i]] w fun e w' => e = .returned (.int .i64 0) ∧ Below w.heap.size w w') (hdo : ∀ w, Calls Try.prog 192 #[.int .i64 o] w fun e w' => e = .returned (.iface 264 (Value.func (.func 215) #[] #[])) ∧ w' = w) (hf : ∀ w, Calls Try.prog 215 #[.agg (coA #[.int .i64 o, .int .i64 d, .int .i64 n, .int .i64 m, .int .i64 a, .int .i64 c, .int .i64 i] pc r)] w fun e w' => e = .returned (.int .u64 v) ∧ Below w.heap.size w w') (hs : ∀ w, Calls Try.prog 195 #[.agg (coA #[.int .i64 o, .int .i64 d, .int .i64 n, .int .i64 m, .int .i64 a, .int .i64 c, .int .i64 i] pc r)] w fun e w' => e = .returned (.int .u64 sv) ∧ Below w.heap.size w w') :
    Calls Try.prog 163 #[.agg #[.int .i64 o, .int .i64 d, .int .i64 n, .int .i64 m, .int .i64 a, .int .i64 c, .int .i64 i], .int .u64 pc, .agg r.arr] w fun e w' => e = .returned (.agg (efA r (IntKind.u64.wrap (pc + 4)) v sv true)) ∧ Below w.heap.size w w' := by
  have HCK := Lib.hid hck
  have HDO := Lib.hid hdo
  have HFF := Lib.hid hf
  have HSS := Lib.hid hs
  obtain ⟨nx, hnx⟩ : ∃ nx, IntKind.u64.wrap (pc + 4) = nx := ⟨_, rfl⟩
  rw [hnx]
  have t1 := ta83_79 215
  have t2 := ta83_80 215
  have t3 := ta83_82 215
  have t4 := ta83_83 215
  clear hck hdo hf hs
  have HI0 : Hid (InsAt (((w.alloc (.cells #[.int .i64 o, .int .i64 d, .int .i64 n, .int .i64 m, .int .i64 a, .int .i64 c, .int .i64 i] 29)).alloc (.cells r.arr 26)).alloc (.cells z40 232)) w.heap.size (.int .i64 o) (.int .i64 d) (.int .i64 n) (.int .i64 m) (.int .i64 a) (.int .i64 c) (.int .i64 i)) := Lib.hid (((InsAt.new _ _ _ _ _ _ _ _).past _).past _)
  have HR0 : Hid (rowAt (((w.alloc (.cells #[.int .i64 o, .int .i64 d, .int .i64 n, .int .i64 m, .int .i64 a, .int .i64 c, .int .i64 i] 29)).alloc (.cells r.arr 26)).alloc (.cells z40 232)) (w.heap.size + 1) = some r.arr) := Lib.hid (by have := rowAt_past (rowAt_new (w.alloc (.cells #[.int .i64 o, .int .i64 d, .int .i64 n, .int .i64 m, .int .i64 a, .int .i64 c, .int .i64 i] 29)) r.arr 26) (.cells z40 232); simpa using this)
  have HE0 : Hid (rowAt (((w.alloc (.cells #[.int .i64 o, .int .i64 d, .int .i64 n, .int .i64 m, .int .i64 a, .int .i64 c, .int .i64 i] 29)).alloc (.cells r.arr 26)).alloc (.cells z40 232)) (w.heap.size + 2) = some z40) := Lib.hid (by have := rowAt_new ((w.alloc (.cells #[.int .i64 o, .int .i64 d, .int .i64 n, .int .i64 m, .int .i64 a, .int .i64 c, .int .i64 i] 29)).alloc (.cells r.arr 26)) z40 232; simpa using this)
  have HB0 : Hid (Below w.heap.size w (((w.alloc (.cells #[.int .i64 o, .int .i64 d, .int .i64 n, .int .i64 m, .int .i64 a, .int .i64 c, .int .i64 i] 29)).alloc (.cells r.arr 26)).alloc (.cells z40 232))) := Lib.hid ((((Below.refl _ _).alloc (Nat.le_refl _) _).alloc (by simp) _).alloc (by simp; omega) _)
  have HI1 : Hid (InsAt ((((w.alloc (.cells #[.int .i64 o, .int .i64 d, .int .i64 n, .int .i64 m, .int .i64 a, .int .i64 c, .int .i64 i] 29)).alloc (.cells r.arr 26)).alloc (.cells z40 232)).alloc (.cells z40 232)) w.heap.size (.int .i64 o) (.int .i64 d) (.int .i64 n) (.int .i64 m) (.int .i64 a) (.int .i64 c) (.int .i64 i)) := Lib.hid (HI0.out.past _)
  have HR1 : Hid (rowAt ((((w.alloc (.cells #[.int .i64 o, .int .i64 d, .int .i64 n, .int .i64 m, .int .i64 a, .int .i64 c, .int .i64 i] 29)).alloc (.cells r.arr 26)).alloc (.cells z40 232)).alloc (.cells z40 232)) (w.heap.size + 1) = some r.arr) := Lib.hid (rowAt_past HR0.out _)
  have HE1 : Hid (rowAt ((((w.alloc (.cells #[.int .i64 o, .int .i64 d, .int .i64 n, .int .i64 m, .int .i64 a, .int .i64 c, .int .i64 i] 29)).alloc (.cells r.arr 26)).alloc (.cells z40 232)).alloc (.cells z40 232)) (w.heap.size + 2) = some z40) := Lib.hid (rowAt_past HE0.out _)
  have HZ1 : Hid (rowAt ((((w.alloc (.cells #[.int .i64 o, .int .i64 d, .int .i64 n, .int .i64 m, .int .i64 a, .int .i64 c, .int .i64 i] 29)).alloc (.cells r.arr 26)).alloc (.cells z40 232)).alloc (.cells z40 232)) (w.heap.size + 3) = some z40) := Lib.hid (by have := rowAt_new (((w.alloc (.cells #[.int .i64 o, .int .i64 d, .int .i64 n, .int .i64 m, .int .i64 a, .int .i64 c, .int .i64 i] 29)).alloc (.cells r.arr 26)).alloc (.cells z40 232)) z40 232; simpa using this)
  have HB1 : Hid (Below w.heap.size w ((((w.alloc (.cells #[.int .i64 o, .int .i64 d, .int .i64 n, .int .i64 m, .int .i64 a, .int .i64 c, .int .i64 i] 29)).alloc (.cells r.arr 26)).alloc (.cells z40 232)).alloc (.cells z40 232))) := Lib.hid (HB0.out.alloc HB0.out.size _)
  go_enter Try.func163, Try.ntmps163
  go_wp2_with (first | (refine wpl_load rfl 26 _ rfl (w.heap.size + 1) 0 rfl r.arr (reg_all HR0.out) ?_) | (refine wpl_build2 rfl 232 0 1 _ _ rfl (.agg r.arr) (.int .u64 nx) rfl rfl _ (built38 r nx) ?_) | (refine wpl_store rfl 232 _ _ rfl (w.heap.size + 3) (efA r nx 0 0 false) z40 rfl rfl HZ1.out (by rw [efA_size]; exact info38) (by rw [efA_size]; rfl) (efA_one _ _ _ _ _) ?_; intro w2 hrow2 hg2; have HE2 := Lib.hid hrow2; have HI2 := Lib.hid (HI1.out.far hg2 (by omega)); have HR2 := Lib.hid (rowAt_grown HR1.out hg2 (by omega)); have HZ2 := Lib.hid (rowAt_grown HE1.out hg2 (by omega)); have HB2 := Lib.hid (grown_below HB1.out hg2 (by omega)); clear hrow2 hg2; obtain ⟨hl, i0, i1, i2, i3, i4, i5, i6⟩ := HI2.out))
  refine (HCK.out _).mono ?_
  rintro e w3 ⟨rfl, hb3⟩
  have HI3 := Lib.hid (HI2.out.below' hb3 rfl)
  have HR3 := Lib.hid (rowAt_below HR2.out hb3 rfl)
  have HE3 := Lib.hid (rowAt_below HE2.out hb3 rfl)
  have HZ3 := Lib.hid (rowAt_below HZ2.out hb3 rfl)
  have HB3 := Lib.hid (HB2.out.trans (hb3.mono HB2.out.size))
  have hq3 : w.heap.size + 3 < w3.heap.size := rowAt_lt HE3.out
  clear hb3 HI2 HR2 HE2 HZ2 HB2 HI1 HR1 HE1 HZ1 HB1 HI0 HR0 HE0 HB0 hl i0 i1 i2 i3 i4 i5 i6
  obtain ⟨hl, i0, i1, i2, i3, i4, i5, i6⟩ := HI3.out
  obtain ⟨q, hq⟩ : ∃ q, q = w3.heap.size := ⟨_, rfl⟩
  have HQ3 : Hid (rowAt (w3.alloc (.cells z44 257)) w3.heap.size = some z44) := Lib.hid (rowAt_new w3 z44 257)
  have HI4 := Lib.hid (HI3.out.past (.cells z44 257))
  have HR4 := Lib.hid (rowAt_past HR3.out (.cells z44 257))
  have HE4 := Lib.hid (rowAt_past HE3.out (.cells z44 257))
  have HZ4 := Lib.hid (rowAt_past HZ3.out (.cells z44 257))
  have HB4 := Lib.hid (HB3.out.alloc HB3.out.size (.cells z44 257))
  have HQN := Lib.hid hq
  clear hq
  go_wp2_with (first | (refine wpl_load rfl 26 _ rfl (w.heap.size + 1) 0 rfl r.arr (reg_all HR3.out) ?_) | (refine wpl_build3 rfl 257 0 1 2 _ _ _ rfl (.agg #[.int .i64 o, .int .i64 d, .int .i64 n, .int .i64 m, .int .i64 a, .int .i64 c, .int .i64 i]) (.int .u64 pc) (.agg r.arr) rfl rfl rfl _ (built76 o d n m a c i pc r) ?_) | (refine wpl_store rfl 257 _ _ rfl w3.heap.size (coA #[.int .i64 o, .int .i64 d, .int .i64 n, .int .i64 m, .int .i64 a, .int .i64 c, .int .i64 i] pc r) z44 rfl rfl HQ3.out (by rw [coA_size rfl]; exact info76) (by rw [coA_size rfl]; rfl) (coA_one _ _ _ _ _ _ _ _ _) ?_; intro w4 hrow4 hg4; have HC5 := Lib.hid hrow4; have HI5 := Lib.hid (HI4.out.far hg4 (by omega)); have HR5 := Lib.hid (rowAt_grown HR4.out hg4 (by omega)); have HE5 := Lib.hid (rowAt_grown HE4.out hg4 (by omega)); have HZ5 := Lib.hid (rowAt_grown HZ4.out hg4 (by omega)); have HB5 := Lib.hid (grown_below HB4.out hg4 (by omega)); clear hrow4 hg4 hl i0 i1 i2 i3 i4 i5 i6; obtain ⟨hl, i0, i1, i2, i3, i4, i5, i6⟩ := HI5.out) | (go_at_call 192; refine (HDO.out _).mono ?_; rintro e w' ⟨rfl, rfl⟩))
  clear hl i0 i1 i2 i3 i4 i5 i6 HI4 HR4 HE4 HZ4 HB4 HI3 HR3 HE3 HZ3 HB3 HQ3 t1 t2 t3 t4
  have hR := HR5.out
  have hC := HC5.out
  have hE := HE5.out
  have hZ := HZ5.out
  have n1 : w.heap.size + 1 ≠ w.heap.size + 1 + 1 + 1 := by omega
  have n2 : w3.heap.size ≠ w.heap.size + 1 + 1 + 1 := by omega
  have n3 : w.heap.size + 1 + 1 ≠ w.heap.size + 1 + 1 + 1 := by omega
  have hl2 : ∀ w', rowAt w' w3.heap.size = some (coA #[.int .i64 o, .int .i64 d, .int .i64 n, .int .i64 m, .int .i64 a, .int .i64 c, .int .i64 i] pc r) → (ldAt 257 (.pointer (some ⟨w3.heap.size, 0, none⟩))).run Try.prog w' = .ok (.agg (coA #[.int .i64 o, .int .i64 d, .int .i64 n, .int .i64 m, .int .i64 a, .int .i64 c, .int .i64 i] pc r)) w' := fun w' h => core_all rfl h
  have q37 := efA_37 r nx 0 0 false
  have q38 := efA_38 r nx 0 0 false
  have q39 := efA_39 r nx 0 0 false
  have Q37 := Lib.hid q37
  have Q38 := Lib.hid q38
  have Q39 := Lib.hid q39
  clear q37 q38 q39
  generalize hCC : coA #[.int .i64 o, .int .i64 d, .int .i64 n, .int .i64 m, .int .i64 a, .int .i64 c, .int .i64 i] pc r = Cc at *
  generalize hEE : efA r nx 0 0 false = Ee at *
  have HEE := Lib.hid hEE
  clear hCC hEE
  have hE : rowAt _ (w.heap.size + 1 + 1 + 1) = some Ee := hE
  go_region_held3 (fun w' => rowAt w' w3.heap.size = some Cc) (first | with_reducible exact hCa | with_reducible exact hCb | with_reducible exact rowAt_set_far hCb n2 _ _ | with_reducible exact rowAt_set_far (rowAt_set_far hCb n2 _ _) n2 _ _ | with_reducible exact rowAt_set_far (rowAt_set_far (rowAt_set_far hCb n2 _ _) n2 _ _) n2 _ _ | exact hC) (first | (go_at_call 215; refine (HFF.out _).mono ?_; rintro e wa ⟨rfl, hba⟩; have hCa : rowAt wa w3.heap.size = some Cc := rowAt_below hC hba rfl; have hEa := rowAt_below hE hba rfl; have hZa := rowAt_below hZ hba rfl; have HBa := Lib.hid (below_step HB5.out hba rfl rfl rfl rfl); clear hba) | (go_at_call 195; refine (HSS.out _).mono ?_; rintro e wb ⟨rfl, hbb⟩; have hCb : rowAt wb w3.heap.size = some Cc := rowAt_below hCa hbb rfl; have hEb := rowAt_below hEa hbb rfl; have hZb := rowAt_below hZa hbb rfl; have HBb := Lib.hid (below_step HBa.out hbb rfl rfl rfl rfl); clear hbb; have c37 : wb.cell? ⟨w.heap.size + 1 + 1 + 1, 37, none⟩ = some (.int .u64 0) := (rowAt_cell hEb 37).trans Q37.out; have c38 : wb.cell? ⟨w.heap.size + 1 + 1 + 1, 38, none⟩ = some (.int .u64 0) := (rowAt_cell hEb 38).trans Q38.out; have c39 : wb.cell? ⟨w.heap.size + 1 + 1 + 1, 39, none⟩ = some (.bool false) := (rowAt_cell hEb 39).trans Q39.out; have f37 : wb.frozen? ⟨w.heap.size + 1 + 1 + 1, 37, none⟩ = false := rowAt_frz hEb 37; have f38 : wb.frozen? ⟨w.heap.size + 1 + 1 + 1, 38, none⟩ = false := rowAt_frz hEb 38; have f39 : wb.frozen? ⟨w.heap.size + 1 + 1 + 1, 39, none⟩ = false := rowAt_frz hEb 39))
  have HEF : Hid (rowAt (((wb.setCell ⟨w.heap.size + 1 + 1 + 1, 39, none⟩ (.bool true)).setCell ⟨w.heap.size + 1 + 1 + 1, 37, none⟩ (.int .u64 v)).setCell ⟨w.heap.size + 1 + 1 + 1, 38, none⟩ (.int .u64 sv)) (w.heap.size + 3) = some (efA r nx v sv true)) := Lib.hid (by have h := rowAt_set (rowAt_set (rowAt_set hEb 39 (.bool true)) 37 (.int .u64 v)) 38 (.int .u64 sv); rw [← HEE.out, efA_place] at h; exact h)
  have HZF : Hid (rowAt (((wb.setCell ⟨w.heap.size + 1 + 1 + 1, 39, none⟩ (.bool true)).setCell ⟨w.heap.size + 1 + 1 + 1, 37, none⟩ (.int .u64 v)).setCell ⟨w.heap.size + 1 + 1 + 1, 38, none⟩ (.int .u64 sv)) (w.heap.size + 2) = some z40) := Lib.hid (rowAt_set_far (rowAt_set_far (rowAt_set_far hZb n3 _ _) n3 _ _) n3 _ _)
  have HBF : Hid (Below w.heap.size w (((wb.setCell ⟨w.heap.size + 1 + 1 + 1, 39, none⟩ (.bool true)).setCell ⟨w.heap.size + 1 + 1 + 1, 37, none⟩ (.int .u64 v)).setCell ⟨w.heap.size + 1 + 1 + 1, 38, none⟩ (.int .u64 sv))) := Lib.hid (((HBb.out.setCell (p := ⟨w.heap.size + 1 + 1 + 1, 39, none⟩) (by show w.heap.size ≤ w.heap.size + 1 + 1 + 1; omega) _).setCell (p := ⟨w.heap.size + 1 + 1 + 1, 37, none⟩) (by show w.heap.size ≤ w.heap.size + 1 + 1 + 1; omega) _).setCell (p := ⟨w.heap.size + 1 + 1 + 1, 38, none⟩) (by show w.heap.size ≤ w.heap.size + 1 + 1 + 1; omega) _)
  clear hR hC hE hZ hCa hEa hZa HBa hCb hEb hZb HBb hl2 c37 c38 c39 f37 f38 f39
  generalize (((wb.setCell ⟨w.heap.size + 1 + 1 + 1, 39, none⟩ (.bool true)).setCell ⟨w.heap.size + 1 + 1 + 1, 37, none⟩ (.int .u64 v)).setCell ⟨w.heap.size + 1 + 1 + 1, 38, none⟩ (.int .u64 sv)) = w8 at *
  go_wp2_with (first | (refine wpl_load rfl 232 _ rfl (w.heap.size + 3) 0 rfl (efA r nx v sv true) (ef_all HEF.out) ?_) | (refine wpl_store rfl 232 _ _ rfl (w.heap.size + 2) (efA r nx v sv true) z40 rfl rfl HZF.out (by rw [efA_size]; exact info38) (by rw [efA_size]; rfl) (efA_one _ _ _ _ _) ?_; intro w9 hrow9 hg9; have HR9 := Lib.hid hrow9; have HB9 := Lib.hid (grown_below HBF.out hg9 (by omega)); clear hrow9 hg9))
  obtain ⟨t9, ht9⟩ := rowAt_heap HR9.out
  refine bodyPost_ret (results_cell_row rfl _ _ (w.heap.size + 2) t9 (efA r nx v sv true) (0, 0) _ rfl ht9 Try.underlying232 rfl (by rw [efA_size]; exact info38)) rfl ⟨rfl, HB9.out⟩
set_option maxRecDepth 100000 in
set_option maxHeartbeats 4000000 in
theorem do_p64 (o d n m a c i pc v sv : Int) (r : Rg) (w : World) (hck : ∀ w, Calls Try.prog 31 #[.agg #[.int .i64 o, .int .i64 d, .int .i64 n, .int .i64 m, .int .i64 a, .int .i64 c, .int .i64 i]] w fun e w' => e = .returned (.int .i64 0) ∧ Below w.heap.size w w') (hdo : ∀ w, Calls Try.prog 192 #[.int .i64 o] w fun e w' => e = .returned (.iface 264 (Value.func (.func 213) #[] #[])) ∧ w' = w) (hf : ∀ w, Calls Try.prog 213 #[.agg (coA #[.int .i64 o, .int .i64 d, .int .i64 n, .int .i64 m, .int .i64 a, .int .i64 c, .int .i64 i] pc r)] w fun e w' => e = .returned (.int .u64 v) ∧ Below w.heap.size w w') (hs : ∀ w, Calls Try.prog 195 #[.agg (coA #[.int .i64 o, .int .i64 d, .int .i64 n, .int .i64 m, .int .i64 a, .int .i64 c, .int .i64 i] pc r)] w fun e w' => e = .returned (.int .u64 sv) ∧ Below w.heap.size w w') :
    Calls Try.prog 163 #[.agg #[.int .i64 o, .int .i64 d, .int .i64 n, .int .i64 m, .int .i64 a, .int .i64 c, .int .i64 i], .int .u64 pc, .agg r.arr] w fun e w' => e = .returned (.agg (efA r (IntKind.u64.wrap (pc + 4)) v sv true)) ∧ Below w.heap.size w w' := by
  have HCK := Lib.hid hck
  have HDO := Lib.hid hdo
  have HFF := Lib.hid hf
  have HSS := Lib.hid hs
  obtain ⟨nx, hnx⟩ : ∃ nx, IntKind.u64.wrap (pc + 4) = nx := ⟨_, rfl⟩
  rw [hnx]
  have t1 := ta83_79 213
  have t2 := ta83_80 213
  have t3 := ta83_82 213
  have t4 := ta83_83 213
  clear hck hdo hf hs
  have HI0 : Hid (InsAt (((w.alloc (.cells #[.int .i64 o, .int .i64 d, .int .i64 n, .int .i64 m, .int .i64 a, .int .i64 c, .int .i64 i] 29)).alloc (.cells r.arr 26)).alloc (.cells z40 232)) w.heap.size (.int .i64 o) (.int .i64 d) (.int .i64 n) (.int .i64 m) (.int .i64 a) (.int .i64 c) (.int .i64 i)) := Lib.hid (((InsAt.new _ _ _ _ _ _ _ _).past _).past _)
  have HR0 : Hid (rowAt (((w.alloc (.cells #[.int .i64 o, .int .i64 d, .int .i64 n, .int .i64 m, .int .i64 a, .int .i64 c, .int .i64 i] 29)).alloc (.cells r.arr 26)).alloc (.cells z40 232)) (w.heap.size + 1) = some r.arr) := Lib.hid (by have := rowAt_past (rowAt_new (w.alloc (.cells #[.int .i64 o, .int .i64 d, .int .i64 n, .int .i64 m, .int .i64 a, .int .i64 c, .int .i64 i] 29)) r.arr 26) (.cells z40 232); simpa using this)
  have HE0 : Hid (rowAt (((w.alloc (.cells #[.int .i64 o, .int .i64 d, .int .i64 n, .int .i64 m, .int .i64 a, .int .i64 c, .int .i64 i] 29)).alloc (.cells r.arr 26)).alloc (.cells z40 232)) (w.heap.size + 2) = some z40) := Lib.hid (by have := rowAt_new ((w.alloc (.cells #[.int .i64 o, .int .i64 d, .int .i64 n, .int .i64 m, .int .i64 a, .int .i64 c, .int .i64 i] 29)).alloc (.cells r.arr 26)) z40 232; simpa using this)
  have HB0 : Hid (Below w.heap.size w (((w.alloc (.cells #[.int .i64 o, .int .i64 d, .int .i64 n, .int .i64 m, .int .i64 a, .int .i64 c, .int .i64 i] 29)).alloc (.cells r.arr 26)).alloc (.cells z40 232))) := Lib.hid ((((Below.refl _ _).alloc (Nat.le_refl _) _).alloc (by simp) _).alloc (by simp; omega) _)
  have HI1 : Hid (InsAt ((((w.alloc (.cells #[.int .i64 o, .int .i64 d, .int .i64 n, .int .i64 m, .int .i64 a, .int .i64 c, .int .i64 i] 29)).alloc (.cells r.arr 26)).alloc (.cells z40 232)).alloc (.cells z40 232)) w.heap.size (.int .i64 o) (.int .i64 d) (.int .i64 n) (.int .i64 m) (.int .i64 a) (.int .i64 c) (.int .i64 i)) := Lib.hid (HI0.out.past _)
  have HR1 : Hid (rowAt ((((w.alloc (.cells #[.int .i64 o, .int .i64 d, .int .i64 n, .int .i64 m, .int .i64 a, .int .i64 c, .int .i64 i] 29)).alloc (.cells r.arr 26)).alloc (.cells z40 232)).alloc (.cells z40 232)) (w.heap.size + 1) = some r.arr) := Lib.hid (rowAt_past HR0.out _)
  have HE1 : Hid (rowAt ((((w.alloc (.cells #[.int .i64 o, .int .i64 d, .int .i64 n, .int .i64 m, .int .i64 a, .int .i64 c, .int .i64 i] 29)).alloc (.cells r.arr 26)).alloc (.cells z40 232)).alloc (.cells z40 232)) (w.heap.size + 2) = some z40) := Lib.hid (rowAt_past HE0.out _)
  have HZ1 : Hid (rowAt ((((w.alloc (.cells #[.int .i64 o, .int .i64 d, .int .i64 n, .int .i64 m, .int .i64 a, .int .i64 c, .int .i64 i] 29)).alloc (.cells r.arr 26)).alloc (.cells z40 232)).alloc (.cells z40 232)) (w.heap.size + 3) = some z40) := Lib.hid (by have := rowAt_new (((w.alloc (.cells #[.int .i64 o, .int .i64 d, .int .i64 n, .int .i64 m, .int .i64 a, .int .i64 c, .int .i64 i] 29)).alloc (.cells r.arr 26)).alloc (.cells z40 232)) z40 232; simpa using this)
  have HB1 : Hid (Below w.heap.size w ((((w.alloc (.cells #[.int .i64 o, .int .i64 d, .int .i64 n, .int .i64 m, .int .i64 a, .int .i64 c, .int .i64 i] 29)).alloc (.cells r.arr 26)).alloc (.cells z40 232)).alloc (.cells z40 232))) := Lib.hid (HB0.out.alloc HB0.out.size _)
  go_enter Try.func163, Try.ntmps163
  go_wp2_with (first | (refine wpl_load rfl 26 _ rfl (w.heap.size + 1) 0 rfl r.arr (reg_all HR0.out) ?_) | (refine wpl_build2 rfl 232 0 1 _ _ rfl (.agg r.arr) (.int .u64 nx) rfl rfl _ (built38 r nx) ?_) | (refine wpl_store rfl 232 _ _ rfl (w.heap.size + 3) (efA r nx 0 0 false) z40 rfl rfl HZ1.out (by rw [efA_size]; exact info38) (by rw [efA_size]; rfl) (efA_one _ _ _ _ _) ?_; intro w2 hrow2 hg2; have HE2 := Lib.hid hrow2; have HI2 := Lib.hid (HI1.out.far hg2 (by omega)); have HR2 := Lib.hid (rowAt_grown HR1.out hg2 (by omega)); have HZ2 := Lib.hid (rowAt_grown HE1.out hg2 (by omega)); have HB2 := Lib.hid (grown_below HB1.out hg2 (by omega)); clear hrow2 hg2; obtain ⟨hl, i0, i1, i2, i3, i4, i5, i6⟩ := HI2.out))
  refine (HCK.out _).mono ?_
  rintro e w3 ⟨rfl, hb3⟩
  have HI3 := Lib.hid (HI2.out.below' hb3 rfl)
  have HR3 := Lib.hid (rowAt_below HR2.out hb3 rfl)
  have HE3 := Lib.hid (rowAt_below HE2.out hb3 rfl)
  have HZ3 := Lib.hid (rowAt_below HZ2.out hb3 rfl)
  have HB3 := Lib.hid (HB2.out.trans (hb3.mono HB2.out.size))
  have hq3 : w.heap.size + 3 < w3.heap.size := rowAt_lt HE3.out
  clear hb3 HI2 HR2 HE2 HZ2 HB2 HI1 HR1 HE1 HZ1 HB1 HI0 HR0 HE0 HB0 hl i0 i1 i2 i3 i4 i5 i6
  obtain ⟨hl, i0, i1, i2, i3, i4, i5, i6⟩ := HI3.out
  obtain ⟨q, hq⟩ : ∃ q, q = w3.heap.size := ⟨_, rfl⟩
  have HQ3 : Hid (rowAt (w3.alloc (.cells z44 257)) w3.heap.size = some z44) := Lib.hid (rowAt_new w3 z44 257)
  have HI4 := Lib.hid (HI3.out.past (.cells z44 257))
  have HR4 := Lib.hid (rowAt_past HR3.out (.cells z44 257))
  have HE4 := Lib.hid (rowAt_past HE3.out (.cells z44 257))
  have HZ4 := Lib.hid (rowAt_past HZ3.out (.cells z44 257))
  have HB4 := Lib.hid (HB3.out.alloc HB3.out.size (.cells z44 257))
  have HQN := Lib.hid hq
  clear hq
  go_wp2_with (first | (refine wpl_load rfl 26 _ rfl (w.heap.size + 1) 0 rfl r.arr (reg_all HR3.out) ?_) | (refine wpl_build3 rfl 257 0 1 2 _ _ _ rfl (.agg #[.int .i64 o, .int .i64 d, .int .i64 n, .int .i64 m, .int .i64 a, .int .i64 c, .int .i64 i]) (.int .u64 pc) (.agg r.arr) rfl rfl rfl _ (built76 o d n m a c i pc r) ?_) | (refine wpl_store rfl 257 _ _ rfl w3.heap.size (coA #[.int .i64 o, .int .i64 d, .int .i64 n, .int .i64 m, .int .i64 a, .int .i64 c, .int .i64 i] pc r) z44 rfl rfl HQ3.out (by rw [coA_size rfl]; exact info76) (by rw [coA_size rfl]; rfl) (coA_one _ _ _ _ _ _ _ _ _) ?_; intro w4 hrow4 hg4; have HC5 := Lib.hid hrow4; have HI5 := Lib.hid (HI4.out.far hg4 (by omega)); have HR5 := Lib.hid (rowAt_grown HR4.out hg4 (by omega)); have HE5 := Lib.hid (rowAt_grown HE4.out hg4 (by omega)); have HZ5 := Lib.hid (rowAt_grown HZ4.out hg4 (by omega)); have HB5 := Lib.hid (grown_below HB4.out hg4 (by omega)); clear hrow4 hg4 hl i0 i1 i2 i3 i4 i5 i6; obtain ⟨hl, i0, i1, i2, i3, i4, i5, i6⟩ := HI5.out) | (go_at_call 192; refine (HDO.out _).mono ?_; rintro e w' ⟨rfl, rfl⟩))
  clear hl i0 i1 i2 i3 i4 i5 i6 HI4 HR4 HE4 HZ4 HB4 HI3 HR3 HE3 HZ3 HB3 HQ3 t1 t2 t3 t4
  have hR := HR5.out
  have hC := HC5.out
  have hE := HE5.out
  have hZ := HZ5.out
  have n1 : w.heap.size + 1 ≠ w.heap.size + 1 + 1 + 1 := by omega
  have n2 : w3.heap.size ≠ w.heap.size + 1 + 1 + 1 := by omega
  have n3 : w.heap.size + 1 + 1 ≠ w.heap.size + 1 + 1 + 1 := by omega
  have hl2 : ∀ w', rowAt w' w3.heap.size = some (coA #[.int .i64 o, .int .i64 d, .int .i64 n, .int .i64 m, .int .i64 a, .int .i64 c, .int .i64 i] pc r) → (ldAt 257 (.pointer (some ⟨w3.heap.size, 0, none⟩))).run Try.prog w' = .ok (.agg (coA #[.int .i64 o, .int .i64 d, .int .i64 n, .int .i64 m, .int .i64 a, .int .i64 c, .int .i64 i] pc r)) w' := fun w' h => core_all rfl h
  have q37 := efA_37 r nx 0 0 false
  have q38 := efA_38 r nx 0 0 false
  have q39 := efA_39 r nx 0 0 false
  have Q37 := Lib.hid q37
  have Q38 := Lib.hid q38
  have Q39 := Lib.hid q39
  clear q37 q38 q39
  generalize hCC : coA #[.int .i64 o, .int .i64 d, .int .i64 n, .int .i64 m, .int .i64 a, .int .i64 c, .int .i64 i] pc r = Cc at *
  generalize hEE : efA r nx 0 0 false = Ee at *
  have HEE := Lib.hid hEE
  clear hCC hEE
  have hE : rowAt _ (w.heap.size + 1 + 1 + 1) = some Ee := hE
  go_region_held3 (fun w' => rowAt w' w3.heap.size = some Cc) (first | with_reducible exact hCa | with_reducible exact hCb | with_reducible exact rowAt_set_far hCb n2 _ _ | with_reducible exact rowAt_set_far (rowAt_set_far hCb n2 _ _) n2 _ _ | with_reducible exact rowAt_set_far (rowAt_set_far (rowAt_set_far hCb n2 _ _) n2 _ _) n2 _ _ | exact hC) (first | (go_at_call 213; refine (HFF.out _).mono ?_; rintro e wa ⟨rfl, hba⟩; have hCa : rowAt wa w3.heap.size = some Cc := rowAt_below hC hba rfl; have hEa := rowAt_below hE hba rfl; have hZa := rowAt_below hZ hba rfl; have HBa := Lib.hid (below_step HB5.out hba rfl rfl rfl rfl); clear hba) | (go_at_call 195; refine (HSS.out _).mono ?_; rintro e wb ⟨rfl, hbb⟩; have hCb : rowAt wb w3.heap.size = some Cc := rowAt_below hCa hbb rfl; have hEb := rowAt_below hEa hbb rfl; have hZb := rowAt_below hZa hbb rfl; have HBb := Lib.hid (below_step HBa.out hbb rfl rfl rfl rfl); clear hbb; have c37 : wb.cell? ⟨w.heap.size + 1 + 1 + 1, 37, none⟩ = some (.int .u64 0) := (rowAt_cell hEb 37).trans Q37.out; have c38 : wb.cell? ⟨w.heap.size + 1 + 1 + 1, 38, none⟩ = some (.int .u64 0) := (rowAt_cell hEb 38).trans Q38.out; have c39 : wb.cell? ⟨w.heap.size + 1 + 1 + 1, 39, none⟩ = some (.bool false) := (rowAt_cell hEb 39).trans Q39.out; have f37 : wb.frozen? ⟨w.heap.size + 1 + 1 + 1, 37, none⟩ = false := rowAt_frz hEb 37; have f38 : wb.frozen? ⟨w.heap.size + 1 + 1 + 1, 38, none⟩ = false := rowAt_frz hEb 38; have f39 : wb.frozen? ⟨w.heap.size + 1 + 1 + 1, 39, none⟩ = false := rowAt_frz hEb 39))
  have HEF : Hid (rowAt (((wb.setCell ⟨w.heap.size + 1 + 1 + 1, 39, none⟩ (.bool true)).setCell ⟨w.heap.size + 1 + 1 + 1, 37, none⟩ (.int .u64 v)).setCell ⟨w.heap.size + 1 + 1 + 1, 38, none⟩ (.int .u64 sv)) (w.heap.size + 3) = some (efA r nx v sv true)) := Lib.hid (by have h := rowAt_set (rowAt_set (rowAt_set hEb 39 (.bool true)) 37 (.int .u64 v)) 38 (.int .u64 sv); rw [← HEE.out, efA_place] at h; exact h)
  have HZF : Hid (rowAt (((wb.setCell ⟨w.heap.size + 1 + 1 + 1, 39, none⟩ (.bool true)).setCell ⟨w.heap.size + 1 + 1 + 1, 37, none⟩ (.int .u64 v)).setCell ⟨w.heap.size + 1 + 1 + 1, 38, none⟩ (.int .u64 sv)) (w.heap.size + 2) = some z40) := Lib.hid (rowAt_set_far (rowAt_set_far (rowAt_set_far hZb n3 _ _) n3 _ _) n3 _ _)
  have HBF : Hid (Below w.heap.size w (((wb.setCell ⟨w.heap.size + 1 + 1 + 1, 39, none⟩ (.bool true)).setCell ⟨w.heap.size + 1 + 1 + 1, 37, none⟩ (.int .u64 v)).setCell ⟨w.heap.size + 1 + 1 + 1, 38, none⟩ (.int .u64 sv))) := Lib.hid (((HBb.out.setCell (p := ⟨w.heap.size + 1 + 1 + 1, 39, none⟩) (by show w.heap.size ≤ w.heap.size + 1 + 1 + 1; omega) _).setCell (p := ⟨w.heap.size + 1 + 1 + 1, 37, none⟩) (by show w.heap.size ≤ w.heap.size + 1 + 1 + 1; omega) _).setCell (p := ⟨w.heap.size + 1 + 1 + 1, 38, none⟩) (by show w.heap.size ≤ w.heap.size + 1 + 1 + 1; omega) _)
  clear hR hC hE hZ hCa hEa hZa HBa hCb hEb hZb HBb hl2 c37 c38 c39 f37 f38 f39
  generalize (((wb.setCell ⟨w.heap.size + 1 + 1 + 1, 39, none⟩ (.bool true)).setCell ⟨w.heap.size + 1 + 1 + 1, 37, none⟩ (.int .u64 v)).setCell ⟨w.heap.size + 1 + 1 + 1, 38, none⟩ (.int .u64 sv)) = w8 at *
  go_wp2_with (first | (refine wpl_load rfl 232 _ rfl (w.heap.size + 3) 0 rfl (efA r nx v sv true) (ef_all HEF.out) ?_) | (refine wpl_store rfl 232 _ _ rfl (w.heap.size + 2) (efA r nx v sv true) z40 rfl rfl HZF.out (by rw [efA_size]; exact info38) (by rw [efA_size]; rfl) (efA_one _ _ _ _ _) ?_; intro w9 hrow9 hg9; have HR9 := Lib.hid hrow9; have HB9 := Lib.hid (grown_below HBF.out hg9 (by omega)); clear hrow9 hg9))
  obtain ⟨t9, ht9⟩ := rowAt_heap HR9.out
  refine bodyPost_ret (results_cell_row rfl _ _ (w.heap.size + 2) t9 (efA r nx v sv true) (0, 0) _ rfl ht9 Try.underlying232 rfl (by rw [efA_size]; exact info38)) rfl ⟨rfl, HB9.out⟩
end Go.Proofs.Ytnbpgoacooddjaa
