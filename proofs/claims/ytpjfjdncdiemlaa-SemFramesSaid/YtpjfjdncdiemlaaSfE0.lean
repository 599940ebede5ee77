import Derived.Test.YtpjfjdncdiemlaaRows
import Derived.WalkKit
import Derived.ProofKit
import Derived.OpenShut
import Derived.Deep.QuietTactic
import Derived.BigQuiet
import Derived.Outline
import Derived.WalkSmall
import Derived.WalkLawsBesides
import Derived.WalkSpells
import Derived.BigGuardPart
import Derived.RegionTactic
import Derived.Deep.RegionHeld3
import Derived.Lib.Hide
import Derived.Deep.MidRow
import Derived.Below
import Derived.Deep.RegionWith
import Derived.Test.YtpjfjdncdiemlaaSfD
import Derived.Test.YtpjfjdncdiemlaaSmC
import Derived.Test.YtpjfjdncdiemlaaSxK
import Derived.Deep.OwnRows
import Derived.Deep.AppendLies
import Derived.Laws.BitsAllLaws
import Derived.Laws.BitsLemmas
namespace Go.Proofs.Ytpjfjdncdiemlaa
open Go.ChangeShapes Go.WideShapes Go.ChangeAt Go.RowKit
set_option linter.unusedVariables false
attribute [local go_sem ↓] ld76 ld25 ld38 st25
attribute [local go_sem] rowAt_drew rowAt_drewN
set_option maxRecDepth 100000 in
set_option maxHeartbeats 4000000 in
theorem do_rs65 (o d n m a c i pc t v : Int) (r : Rg) (w : World) (hck : ∀ w, Calls Try.prog 17 #[.agg #[.int .i64 o, .int .i64 d, .int .i64 n, .int .i64 m, .int .i64 a, .int .i64 c, .int .i64 i]] w fun e w' => e = .returned (.int .i64 0) ∧ Below w.heap.size w w') (hdo : ∀ w, Calls Try.prog 41 #[.int .i64 o] w fun e w' => e = .returned (.iface 79 (Value.func (.func 65) #[] #[])) ∧ w' = w) (htg : ∀ w, Calls Try.prog 42 #[.agg (coA #[.int .i64 o, .int .i64 d, .int .i64 n, .int .i64 m, .int .i64 a, .int .i64 c, .int .i64 i] pc r)] w fun e w' => e = .returned (.int .i64 t) ∧ Below w.heap.size w w') (hf : ∀ w, Calls Try.prog 65 #[.agg (coA #[.int .i64 o, .int .i64 d, .int .i64 n, .int .i64 m, .int .i64 a, .int .i64 c, .int .i64 i] pc r)] w fun e w' => e = .returned (.int .u64 v) ∧ Below w.heap.size w w') :
    Calls Try.prog 20 #[.agg #[.int .i64 o, .int .i64 d, .int .i64 n, .int .i64 m, .int .i64 a, .int .i64 c, .int .i64 i], .int .u64 pc, .agg r.arr] w fun e w' => e = .returned (.agg (efA (r.set t v) (IntKind.u64.wrap (pc + 4)) 0 0 false)) ∧ Below w.heap.size w w' := by
  have HCK := Lib.hid hck
  have HDO := Lib.hid hdo
  have HTG := Lib.hid htg
  have HFF := Lib.hid hf
  obtain ⟨nx, hnx⟩ : ∃ nx, IntKind.u64.wrap (pc + 4) = nx := ⟨_, rfl⟩
  rw [hnx]
  have hta := ta79 65
  clear hck hdo htg hf
  have HI0 : Hid (InsAt (((w.alloc (.cells #[.int .i64 o, .int .i64 d, .int .i64 n, .int .i64 m, .int .i64 a, .int .i64 c, .int .i64 i] 32)).alloc (.cells r.arr 25)).alloc (.cells z40 38)) w.heap.size (.int .i64 o) (.int .i64 d) (.int .i64 n) (.int .i64 m) (.int .i64 a) (.int .i64 c) (.int .i64 i)) := Lib.hid (((InsAt.new _ _ _ _ _ _ _ _).past _).past _)
  have HR0 : Hid (rowAt (((w.alloc (.cells #[.int .i64 o, .int .i64 d, .int .i64 n, .int .i64 m, .int .i64 a, .int .i64 c, .int .i64 i] 32)).alloc (.cells r.arr 25)).alloc (.cells z40 38)) (w.heap.size + 1) = some r.arr) := Lib.hid (by have := rowAt_past (rowAt_new (w.alloc (.cells #[.int .i64 o, .int .i64 d, .int .i64 n, .int .i64 m, .int .i64 a, .int .i64 c, .int .i64 i] 32)) r.arr 25) (.cells z40 38); simpa using this)
  have HE0 : Hid (rowAt (((w.alloc (.cells #[.int .i64 o, .int .i64 d, .int .i64 n, .int .i64 m, .int .i64 a, .int .i64 c, .int .i64 i] 32)).alloc (.cells r.arr 25)).alloc (.cells z40 38)) (w.heap.size + 2) = some z40) := Lib.hid (by have := rowAt_new ((w.alloc (.cells #[.int .i64 o, .int .i64 d, .int .i64 n, .int .i64 m, .int .i64 a, .int .i64 c, .int .i64 i] 32)).alloc (.cells r.arr 25)) z40 38; simpa using this)
  have HB0 : Hid (Below w.heap.size w (((w.alloc (.cells #[.int .i64 o, .int .i64 d, .int .i64 n, .int .i64 m, .int .i64 a, .int .i64 c, .int .i64 i] 32)).alloc (.cells r.arr 25)).alloc (.cells z40 38))) := Lib.hid ((((Below.refl _ _).alloc (Nat.le_refl _) _).alloc (by simp) _).alloc (by simp; omega) _)
  have HI1 : Hid (InsAt ((((w.alloc (.cells #[.int .i64 o, .int .i64 d, .int .i64 n, .int .i64 m, .int .i64 a, .int .i64 c, .int .i64 i] 32)).alloc (.cells r.arr 25)).alloc (.cells z40 38)).alloc (.cells z40 38)) w.heap.size (.int .i64 o) (.int .i64 d) (.int .i64 n) (.int .i64 m) (.int .i64 a) (.int .i64 c) (.int .i64 i)) := Lib.hid (HI0.out.past _)
  have HR1 : Hid (rowAt ((((w.alloc (.cells #[.int .i64 o, .int .i64 d, .int .i64 n, .int .i64 m, .int .i64 a, .int .i64 c, .int .i64 i] 32)).alloc (.cells r.arr 25)).alloc (.cells z40 38)).alloc (.cells z40 38)) (w.heap.size + 1) = some r.arr) := Lib.hid (rowAt_past HR0.out _)
  have HE1 : Hid (rowAt ((((w.alloc (.cells #[.int .i64 o, .int .i64 d, .int .i64 n, .int .i64 m, .int .i64 a, .int .i64 c, .int .i64 i] 32)).alloc (.cells r.arr 25)).alloc (.cells z40 38)).alloc (.cells z40 38)) (w.heap.size + 2) = some z40) := Lib.hid (rowAt_past HE0.out _)
  have HZ1 : Hid (rowAt ((((w.alloc (.cells #[.int .i64 o, .int .i64 d, .int .i64 n, .int .i64 m, .int .i64 a, .int .i64 c, .int .i64 i] 32)).alloc (.cells r.arr 25)).alloc (.cells z40 38)).alloc (.cells z40 38)) (w.heap.size + 3) = some z40) := Lib.hid (by have := rowAt_new (((w.alloc (.cells #[.int .i64 o, .int .i64 d, .int .i64 n, .int .i64 m, .int .i64 a, .int .i64 c, .int .i64 i] 32)).alloc (.cells r.arr 25)).alloc (.cells z40 38)) z40 38; simpa using this)
  have HB1 : Hid (Below w.heap.size w ((((w.alloc (.cells #[.int .i64 o, .int .i64 d, .int .i64 n, .int .i64 m, .int .i64 a, .int .i64 c, .int .i64 i] 32)).alloc (.cells r.arr 25)).alloc (.cells z40 38)).alloc (.cells z40 38))) := Lib.hid (HB0.out.alloc HB0.out.size _)
  go_enter Try.func20, Try.ntmps20
  go_wp2_with (first | (refine wpl_load rfl 25 _ rfl (w.heap.size + 1) 0 rfl r.arr (reg_all HR0.out) ?_) | (refine wpl_build2 rfl 38 0 1 _ _ rfl (.agg r.arr) (.int .u64 nx) rfl rfl _ (built38 r nx) ?_) | (refine wpl_store rfl 38 _ _ rfl (w.heap.size + 3) (efA r nx 0 0 false) z40 rfl rfl HZ1.out (by rw [efA_size]; exact info38) (by rw [efA_size]; rfl) (efA_one _ _ _ _ _) ?_; intro w2 hrow2 hg2; have HE2 := Lib.hid hrow2; have HI2 := Lib.hid (HI1.out.far hg2 (by omega)); have HR2 := Lib.hid (rowAt_grown HR1.out hg2 (by omega)); have HZ2 := Lib.hid (rowAt_grown HE1.out hg2 (by omega)); have HB2 := Lib.hid (grown_below HB1.out hg2 (by omega)); clear hrow2 hg2; obtain ⟨hl, i0, i1, i2, i3, i4, i5, i6⟩ := HI2.out))
  refine (HCK.out _).mono ?_
  rintro e w3 ⟨rfl, hb3⟩
  have HI3 := Lib.hid (HI2.out.below' hb3 rfl)
  have HR3 := Lib.hid (rowAt_below HR2.out hb3 rfl)
  have HE3 := Lib.hid (rowAt_below HE2.out hb3 rfl)
  have HZ3 := Lib.hid (rowAt_below HZ2.out hb3 rfl)
  have HB3 := Lib.hid (HB2.out.trans (hb3.mono HB2.out.size))
  have hq3 : w.heap.size + 3 < w3.heap.size := rowAt_lt HE3.out
  clear hb3 HI2 HR2 HE2 HZ2 HB2 HI1 HR1 HE1 HZ1 HB1 HI0 HR0 HE0 HB0 hl i0 i1 i2 i3 i4 i5 i6
  obtain ⟨hl, i0, i1, i2, i3, i4, i5, i6⟩ := HI3.out
  obtain ⟨q, hq⟩ : ∃ q, q = w3.heap.size := ⟨_, rfl⟩
  have HQ3 : Hid (rowAt (w3.alloc (.cells z44 76)) w3.heap.size = some z44) := Lib.hid (rowAt_new w3 z44 76)
  have HI4 := Lib.hid (HI3.out.past (.cells z44 76))
  have HR4 := Lib.hid (rowAt_past HR3.out (.cells z44 76))
  have HE4 := Lib.hid (rowAt_past HE3.out (.cells z44 76))
  have HZ4 := Lib.hid (rowAt_past HZ3.out (.cells z44 76))
  have HB4 := Lib.hid (HB3.out.alloc HB3.out.size (.cells z44 76))
  have HQN := Lib.hid hq
  clear hq
  go_wp2_with (first | (refine wpl_load rfl 25 _ rfl (w.heap.size + 1) 0 rfl r.arr (reg_all HR3.out) ?_) | (refine wpl_build3 rfl 76 0 1 2 _ _ _ rfl (.agg #[.int .i64 o, .int .i64 d, .int .i64 n, .int .i64 m, .int .i64 a, .int .i64 c, .int .i64 i]) (.int .u64 pc) (.agg r.arr) rfl rfl rfl _ (built76 o d n m a c i pc r) ?_) | (refine wpl_store rfl 76 _ _ rfl w3.heap.size (coA #[.int .i64 o, .int .i64 d, .int .i64 n, .int .i64 m, .int .i64 a, .int .i64 c, .int .i64 i] pc r) z44 rfl rfl HQ3.out (by rw [coA_size rfl]; exact info76) (by rw [coA_size rfl]; rfl) (coA_one _ _ _ _ _ _ _ _ _) ?_; intro w4 hrow4 hg4; have HC5 := Lib.hid hrow4; have HI5 := Lib.hid (HI4.out.far hg4 (by omega)); have HR5 := Lib.hid (rowAt_grown HR4.out hg4 (by omega)); have HE5 := Lib.hid (rowAt_grown HE4.out hg4 (by omega)); have HZ5 := Lib.hid (rowAt_grown HZ4.out hg4 (by omega)); have HB5 := Lib.hid (grown_below HB4.out hg4 (by omega)); clear hrow4 hg4 hl i0 i1 i2 i3 i4 i5 i6; obtain ⟨hl, i0, i1, i2, i3, i4, i5, i6⟩ := HI5.out) | (go_at_call 41; refine (HDO.out _).mono ?_; rintro e w' ⟨rfl, rfl⟩))
  clear hl i0 i1 i2 i3 i4 i5 i6 HI4 HR4 HE4 HZ4 HB4 HI3 HR3 HE3 HZ3 HB3 HQ3 hta
  have hR := HR5.out
  have hC := HC5.out
  have hE := HE5.out
  have hZ := HZ5.out
  have n1 : w.heap.size + 1 ≠ w.heap.size + 1 + 1 + 1 := by omega
  have n2 : w3.heap.size ≠ w.heap.size + 1 + 1 + 1 := by omega
  have n3 : w.heap.size + 1 + 1 ≠ w.heap.size + 1 + 1 + 1 := by omega
  have hl1 : ∀ w', rowAt w' (w.heap.size + 1) = some r.arr → (ldAt 25 (.pointer (some ⟨w.heap.size + 1, 0, none⟩))).run Try.prog w' = .ok (.agg r.arr) w' := fun w' h => reg_all h
  have hl2 : ∀ w', rowAt w' w3.heap.size = some (coA #[.int .i64 o, .int .i64 d, .int .i64 n, .int .i64 m, .int .i64 a, .int .i64 c, .int .i64 i] pc r) → (ldAt 76 (.pointer (some ⟨w3.heap.size, 0, none⟩))).run Try.prog w' = .ok (.agg (coA #[.int .i64 o, .int .i64 d, .int .i64 n, .int .i64 m, .int .i64 a, .int .i64 c, .int .i64 i] pc r)) w' := fun w' h => core_all rfl h
  have hst : ∀ w', rowAt w' (w.heap.size + 1 + 1 + 1) = some (efA r nx 0 0 false) → (stAt 25 (.pointer (some ⟨w.heap.size + 1 + 1 + 1, 0, none⟩)) (.agg (r.set t v).arr)).run Try.prog w' = .ok () (w'.setCells (w.heap.size + 1 + 1 + 1) 0 (r.set t v).arr.toList) := fun w' h => st_regs h
  have HEQ : Hid (efA r nx 0 0 false = efA r nx 0 0 false) := Lib.hid rfl
  generalize hCC : coA #[.int .i64 o, .int .i64 d, .int .i64 n, .int .i64 m, .int .i64 a, .int .i64 c, .int .i64 i] pc r = Cc at *
  generalize hEE : efA r nx 0 0 false = Ee at *
  have HEE := Lib.hid hEE
  clear hCC hEE HEQ
  go_region_held3 (fun w' => rowAt w' (w.heap.size + 1) = some r.arr ∧ rowAt w' w3.heap.size = some Cc) (first | exact ⟨setCells_far hRc n1 _ _, setCells_far hCc n2 _ _⟩ | exact ⟨hRc, hCc⟩ | exact ⟨hRb, hCb⟩ | exact ⟨hRa, hCa⟩ | exact ⟨hR, hC⟩) (first | (go_at_call 42; refine (HTG.out _).mono ?_; rintro e wa ⟨rfl, hba⟩; have hRa : rowAt wa (w.heap.size + 1) = some r.arr := rowAt_below hR hba rfl; have hCa : rowAt wa w3.heap.size = some Cc := rowAt_below hC hba rfl; have hEa := rowAt_below hE hba rfl; have hZa := rowAt_below hZ hba rfl; have HBa := Lib.hid (below_step HB5.out hba rfl rfl rfl rfl); clear hba) | (go_at_call 13; refine (set13 r t v _).mono ?_; rintro e wc ⟨rfl, hbc⟩; have hRc : rowAt wc (w.heap.size + 1) = some r.arr := rowAt_below hRb hbc rfl; have hCc : rowAt wc w3.heap.size = some Cc := rowAt_below hCb hbc rfl; have hEc := rowAt_below hEb hbc rfl; have hZc := rowAt_below hZb hbc rfl; have HBc := Lib.hid (below_step HBb.out hbc rfl rfl rfl rfl); clear hbc) | (go_at_call 65; refine (HFF.out _).mono ?_; rintro e wb ⟨rfl, hbb⟩; have hRb : rowAt wb (w.heap.size + 1) = some r.arr := rowAt_below hRa hbb rfl; have hCb : rowAt wb w3.heap.size = some Cc := rowAt_below hCa hbb rfl; have hEb := rowAt_below hEa hbb rfl; have hZb := rowAt_below hZa hbb rfl; have HBb := Lib.hid (below_step HBa.out hbb rfl rfl rfl rfl); clear hbb))
  have HEF : Hid (rowAt (wc.setCells (w.heap.size + 1 + 1 + 1) 0 (r.set t v).arr.toList) (w.heap.size + 3) = some (efA (r.set t v) nx 0 0 false)) := Lib.hid (st_regs_row (r := r) (by rw [HEE.out]; exact hEc))
  have HZF : Hid (rowAt (wc.setCells (w.heap.size + 1 + 1 + 1) 0 (r.set t v).arr.toList) (w.heap.size + 2) = some z40) := Lib.hid (setCells_far hZc n3 _ _)
  have HBF : Hid (Below w.heap.size w (wc.setCells (w.heap.size + 1 + 1 + 1) 0 (r.set t v).arr.toList)) := Lib.hid (grown_below HBc.out (setCells_grown _ _ _ _) (by omega))
  clear hR hC hE hZ hRa hCa hEa hZa HBa hRb hCb hEb hZb HBb hRc hCc hEc hZc HBc hl1 hl2 hst
  generalize wc.setCells (w.heap.size + 1 + 1 + 1) 0 (r.set t v).arr.toList = w8 at *
  go_wp2_with (first | (refine wpl_load rfl 38 _ rfl (w.heap.size + 3) 0 rfl (efA (r.set t v) nx 0 0 false) (ef_all HEF.out) ?_) | (refine wpl_store rfl 38 _ _ rfl (w.heap.size + 2) (efA (r.set t v) nx 0 0 false) z40 rfl rfl HZF.out (by rw [efA_size]; exact info38) (by rw [efA_size]; rfl) (efA_one _ _ _ _ _) ?_; intro w9 hrow9 hg9; have HR9 := Lib.hid hrow9; have HB9 := Lib.hid (grown_below HBF.out hg9 (by omega)); clear hrow9 hg9))
  obtain ⟨t9, ht9⟩ := rowAt_heap HR9.out
  refine bodyPost_ret (results_cell_row rfl _ _ (w.heap.size + 2) t9 (efA (r.set t v) nx 0 0 false) (0, 0) _ rfl ht9 Try.underlying38 rfl (by rw [efA_size]; exact info38)) rfl ⟨rfl, HB9.out⟩
set_option maxRecDepth 100000 in
set_option maxHeartbeats 4000000 in
theorem do_rs78 (o d n m a c i pc t v : Int) (r : Rg) (w : World) (hck : ∀ w, Calls Try.prog 17 #[.agg #[.int .i64 o, .int .i64 d, .int .i64 n, .int .i64 m, .int .i64 a, .int .i64 c, .int .i64 i]] w fun e w' => e = .returned (.int .i64 0) ∧ Below w.heap.size w w') (hdo : ∀ w, Calls Try.prog 41 #[.int .i64 o] w fun e w' => e = .returned (.iface 79 (Value.func (.func 78) #[] #[])) ∧ w' = w) (htg : ∀ w, Calls Try.prog 42 #[.agg (coA #[.int .i64 o, .int .i64 d, .int .i64 n, .int .i64 m, .int .i64 a, .int .i64 c, .int .i64 i] pc r)] w fun e w' => e = .returned (.int .i64 t) ∧ Below w.heap.size w w') (hf : ∀ w, Calls Try.prog 78 #[.agg (coA #[.int .i64 o, .int .i64 d, .int .i64 n, .int .i64 m, .int .i64 a, .int .i64 c, .int .i64 i] pc r)] w fun e w' => e = .returned (.int .u64 v) ∧ Below w.heap.size w w') :
    Calls Try.prog 20 #[.agg #[.int .i64 o, .int .i64 d, .int .i64 n, .int .i64 m, .int .i64 a, .int .i64 c, .int .i64 i], .int .u64 pc, .agg r.arr] w fun e w' => e = .returned (.agg (efA (r.set t v) (IntKind.u64.wrap (pc + 4)) 0 0 false)) ∧ Below w.heap.size w w' := by
  have HCK := Lib.hid hck
  have HDO := Lib.hid hdo
  have HTG := Lib.hid htg
  have HFF := Lib.hid hf
  obtain ⟨nx, hnx⟩ : ∃ nx, IntKind.u64.wrap (pc + 4) = nx := ⟨_, rfl⟩
  rw [hnx]
  have hta := ta79 78
  clear hck hdo htg hf
  have HI0 : Hid (InsAt (((w.alloc (.cells #[.int .i64 o, .int .i64 d, .int .i64 n, .int .i64 m, .int .i64 a, .int .i64 c, .int .i64 i] 32)).alloc (.cells r.arr 25)).alloc (.cells z40 38)) w.heap.size (.int .i64 o) (.int .i64 d) (.int .i64 n) (.int .i64 m) (.int .i64 a) (.int .i64 c) (.int .i64 i)) := Lib.hid (((InsAt.new _ _ _ _ _ _ _ _).past _).past _)
  have HR0 : Hid (rowAt (((w.alloc (.cells #[.int .i64 o, .int .i64 d, .int .i64 n, .int .i64 m, .int .i64 a, .int .i64 c, .int .i64 i] 32)).alloc (.cells r.arr 25)).alloc (.cells z40 38)) (w.heap.size + 1) = some r.arr) := Lib.hid (by have := rowAt_past (rowAt_new (w.alloc (.cells #[.int .i64 o, .int .i64 d, .int .i64 n, .int .i64 m, .int .i64 a, .int .i64 c, .int .i64 i] 32)) r.arr 25) (.cells z40 38); simpa using this)
  have HE0 : Hid (rowAt (((w.alloc (.cells #[.int .i64 o, .int .i64 d, .int .i64 n, .int .i64 m, .int .i64 a, .int .i64 c, .int .i64 i] 32)).alloc (.cells r.arr 25)).alloc (.cells z40 38)) (w.heap.size + 2) = some z40) := Lib.hid (by have := rowAt_new ((w.alloc (.cells #[.int .i64 o, .int .i64 d, .int .i64 n, .int .i64 m, .int .i64 a, .int .i64 c, .int .i64 i] 32)).alloc (.cells r.arr 25)) z40 38; simpa using this)
  have HB0 : Hid (Below w.heap.size w (((w.alloc (.cells #[.int .i64 o, .int .i64 d, .int .i64 n, .int .i64 m, .int .i64 a, .int .i64 c, .int .i64 i] 32)).alloc (.cells r.arr 25)).alloc (.cells z40 38))) := Lib.hid ((((Below.refl _ _).alloc (Nat.le_refl _) _).alloc (by simp) _).alloc (by simp; omega) _)
  have HI1 : Hid (InsAt ((((w.alloc (.cells #[.int .i64 o, .int .i64 d, .int .i64 n, .int .i64 m, .int .i64 a, .int .i64 c, .int .i64 i] 32)).alloc (.cells r.arr 25)).alloc (.cells z40 38)).alloc (.cells z40 38)) w.heap.size (.int .i64 o) (.int .i64 d) (.int .i64 n) (.int .i64 m) (.int .i64 a) (.int .i64 c) (.int .i64 i)) := Lib.hid (HI0.out.past _)
  have HR1 : Hid (rowAt ((((w.alloc (.cells #[.int .i64 o, .int .i64 d, .int .i64 n, .int .i64 m, .int .i64 a, .int .i64 c, .int .i64 i] 32)).alloc (.cells r.arr 25)).alloc (.cells z40 38)).alloc (.cells z40 38)) (w.heap.size + 1) = some r.arr) := Lib.hid (rowAt_past HR0.out _)
  have HE1 : Hid (rowAt ((((w.alloc (.cells #[.int .i64 o, .int .i64 d, .int .i64 n, .int .i64 m, .int .i64 a, .int .i64 c, .int .i64 i] 32)).alloc (.cells r.arr 25)).alloc (.cells z40 38)).alloc (.cells z40 38)) (w.heap.size + 2) = some z40) := Lib.hid (rowAt_past HE0.out _)
  have HZ1 : Hid (rowAt ((((w.alloc (.cells #[.int .i64 o, .int .i64 d, .int .i64 n, .int .i64 m, .int .i64 a, .int .i64 c, .int .i64 i] 32)).alloc (.cells r.arr 25)).alloc (.cells z40 38)).alloc (.cells z40 38)) (w.heap.size + 3) = some z40) := Lib.hid (by have := rowAt_new (((w.alloc (.cells #[.int .i64 o, .int .i64 d, .int .i64 n, .int .i64 m, .int .i64 a, .int .i64 c, .int .i64 i] 32)).alloc (.cells r.arr 25)).alloc (.cells z40 38)) z40 38; simpa using this)
  have HB1 : Hid (Below w.heap.size w ((((w.alloc (.cells #[.int .i64 o, .int .i64 d, .int .i64 n, .int .i64 m, .int .i64 a, .int .i64 c, .int .i64 i] 32)).alloc (.cells r.arr 25)).alloc (.cells z40 38)).alloc (.cells z40 38))) := Lib.hid (HB0.out.alloc HB0.out.size _)
  go_enter Try.func20, Try.ntmps20
  go_wp2_with (first | (refine wpl_load rfl 25 _ rfl (w.heap.size + 1) 0 rfl r.arr (reg_all HR0.out) ?_) | (refine wpl_build2 rfl 38 0 1 _ _ rfl (.agg r.arr) (.int .u64 nx) rfl rfl _ (built38 r nx) ?_) | (refine wpl_store rfl 38 _ _ rfl (w.heap.size + 3) (efA r nx 0 0 false) z40 rfl rfl HZ1.out (by rw [efA_size]; exact info38) (by rw [efA_size]; rfl) (efA_one _ _ _ _ _) ?_; intro w2 hrow2 hg2; have HE2 := Lib.hid hrow2; have HI2 := Lib.hid (HI1.out.far hg2 (by omega)); have HR2 := Lib.hid (rowAt_grown HR1.out hg2 (by omega)); have HZ2 := Lib.hid (rowAt_grown HE1.out hg2 (by omega)); have HB2 := Lib.hid (grown_below HB1.out hg2 (by omega)); clear hrow2 hg2; obtain ⟨hl, i0, i1, i2, i3, i4, i5, i6⟩ := HI2.out))
  refine (HCK.out _).mono ?_
  rintro e w3 ⟨rfl, hb3⟩
  have HI3 := Lib.hid (HI2.out.below' hb3 rfl)
  have HR3 := Lib.hid (rowAt_below HR2.out hb3 rfl)
  have HE3 := Lib.hid (rowAt_below HE2.out hb3 rfl)
  have HZ3 := Lib.hid (rowAt_below HZ2.out hb3 rfl)
  have HB3 := Lib.hid (HB2.out.trans (hb3.mono HB2.out.size))
  have hq3 : w.heap.size + 3 < w3.heap.size := rowAt_lt HE3.out
  clear hb3 HI2 HR2 HE2 HZ2 HB2 HI1 HR1 HE1 HZ1 HB1 HI0 HR0 HE0 HB0 hl i0 i1 i2 i3 i4 i5 i6
  obtain ⟨hl, i0, i1, i2, i3, i4, i5, i6⟩ := HI3.out
  obtain ⟨q, hq⟩ : ∃ q, q = w3.heap.size := ⟨_, rfl⟩
  have HQ3 : Hid (rowAt (w3.alloc (.cells z44 76)) w3.heap.size = some z44) := Lib.hid (rowAt_new w3 z44 76)
  have HI4 := Lib.hid (HI3.out.past (.cells z44 76))
  have HR4 := Lib.hid (rowAt_past HR3.out (.cells z44 76))
  have HE4 := Lib.hid (rowAt_past HE3.out (.cells z44 76))
  have HZ4 := Lib.hid (rowAt_past HZ3.out (.cells z44 76))
  have HB4 := Lib.hid (HB3.out.alloc HB3.out.size (.cells z44 76))
  have HQN := Lib.hid hq
  clear hq
  go_wp2_with (first | (refine wpl_load rfl 25 _ rfl (w.heap.size + 1) 0 rfl r.arr (reg_all HR3.out) ?_) | (refine wpl_build3 rfl 76 0 1 2 _ _ _ rfl (.agg #[.int .i64 o, .int .i64 d, .int .i64 n, .int .i64 m, .int .i64 a, .int .i64 c, .int .i64 i]) (.int .u64 pc) (.agg r.arr) rfl rfl rfl _ (built76 o d n m a c i pc r) ?_) | (refine wpl_store rfl 76 _ _ rfl w3.heap.size (coA #[.int .i64 o, .int .i64 d, .int .i64 n, .int .i64 m, .int .i64 a, .int .i64 c, .int .i64 i] pc r) z44 rfl rfl HQ3.out (by rw [coA_size rfl]; exact info76) (by rw [coA_size rfl]; rfl) (coA_one _ _ _ _ _ _ _ _ _) ?_; intro w4 hrow4 hg4; have HC5 := Lib.hid hrow4; have HI5 := Lib.hid (HI4.out.far hg4 (by omega)); have HR5 := Lib.hid (rowAt_grown HR4.out hg4 (by omega)); have HE5 := Lib.hid (rowAt_grown HE4.out hg4 (by omega)); have HZ5 := Lib.hid (rowAt_grown HZ4.out hg4 (by omega)); have HB5 := Lib.hid (grown_below HB4.out hg4 (by omega)); clear hrow4 hg4 hl i0 i1 i2 i3 i4 i5 i6; obtain ⟨hl, i0, i1, i2, i3, i4, i5, i6⟩ := HI5.out) | (go_at_call 41; refine (HDO.out _).mono ?_; rintro e w' ⟨rfl, rfl⟩))
  clear hl i0 i1 i2 i3 i4 i5 i6 HI4 HR4 HE4 HZ4 HB4 HI3 HR3 HE3 HZ3 HB3 HQ3 hta
  have hR := HR5.out
  have hC := HC5.out
  have hE := HE5.out
  have hZ := HZ5.out
  have n1 : w.heap.size + 1 ≠ w.heap.size + 1 + 1 + 1 := by omega
  have n2 : w3.heap.size ≠ w.heap.size + 1 + 1 + 1 := by omega
  have n3 : w.heap.size + 1 + 1 ≠ w.heap.size + 1 + 1 + 1 := by omega
  have hl1 : ∀ w', rowAt w' (w.heap.size + 1) = some r.arr → (ldAt 25 (.pointer (some ⟨w.heap.size + 1, 0, none⟩))).run Try.prog w' = .ok (.agg r.arr) w' := fun w' h => reg_all h
  have hl2 : ∀ w', rowAt w' w3.heap.size = some (coA #[.int .i64 o, .int .i64 d, .int .i64 n, .int .i64 m, .int .i64 a, .int .i64 c, .int .i64 i] pc r) → (ldAt 76 (.pointer (some ⟨w3.heap.size, 0, none⟩))).run Try.prog w' = .ok (.agg (coA #[.int .i64 o, .int .i64 d, .int .i64 n, .int .i64 m, .int .i64 a, .int .i64 c, .int .i64 i] pc r)) w' := fun w' h => core_all rfl h
  have hst : ∀ w', rowAt w' (w.heap.size + 1 + 1 + 1) = some (efA r nx 0 0 false) → (stAt 25 (.pointer (some ⟨w.heap.size + 1 + 1 + 1, 0, none⟩)) (.agg (r.set t v).arr)).run Try.prog w' = .ok () (w'.setCells (w.heap.size + 1 + 1 + 1) 0 (r.set t v).arr.toList) := fun w' h => st_regs h
  have HEQ : Hid (efA r nx 0 0 false = efA r nx 0 0 false) := Lib.hid rfl
  generalize hCC : coA #[.int .i64 o, .int .i64 d, .int .i64 n, .int .i64 m, .int .i64 a, .int .i64 c, .int .i64 i] pc r = Cc at *
  generalize hEE : efA r nx 0 0 false = Ee at *
  have HEE := Lib.hid hEE
  clear hCC hEE HEQ
  go_region_held3 (fun w' => rowAt w' (w.heap.size + 1) = some r.arr ∧ rowAt w' w3.heap.size = some Cc) (first | exact ⟨setCells_far hRc n1 _ _, setCells_far hCc n2 _ _⟩ | exact ⟨hRc, hCc⟩ | exact ⟨hRb, hCb⟩ | exact ⟨hRa, hCa⟩ | exact ⟨hR, hC⟩) (first | (go_at_call 42; refine (HTG.out _).mono ?_; rintro e wa ⟨rfl, hba⟩; have hRa : rowAt wa (w.heap.size + 1) = some r.arr := rowAt_below hR hba rfl; have hCa : rowAt wa w3.heap.size = some Cc := rowAt_below hC hba rfl; have hEa := rowAt_below hE hba rfl; have hZa := rowAt_below hZ hba rfl; have HBa := Lib.hid (below_step HB5.out hba rfl rfl rfl rfl); clear hba) | (go_at_call 13; refine (set13 r t v _).mono ?_; rintro e wc ⟨rfl, hbc⟩; have hRc : rowAt wc (w.heap.size + 1) = some r.arr := rowAt_below hRb hbc rfl; have hCc : rowAt wc w3.heap.size = some Cc := rowAt_below hCb hbc rfl; have hEc := rowAt_below hEb hbc rfl; have hZc := rowAt_below hZb hbc rfl; have HBc := Lib.hid (below_step HBb.out hbc rfl rfl rfl rfl); clear hbc) | (go_at_call 78; refine (HFF.out _).mono ?_; rintro e wb ⟨rfl, hbb⟩; have hRb : rowAt wb (w.heap.size + 1) = some r.arr := rowAt_below hRa hbb rfl; have hCb : rowAt wb w3.heap.size = some Cc := rowAt_below hCa hbb rfl; have hEb := rowAt_below hEa hbb rfl; have hZb := rowAt_below hZa hbb rfl; have HBb := Lib.hid (below_step HBa.out hbb rfl rfl rfl rfl); clear hbb))
  have HEF : Hid (rowAt (wc.setCells (w.heap.size + 1 + 1 + 1) 0 (r.set t v).arr.toList) (w.heap.size + 3) = some (efA (r.set t v) nx 0 0 false)) := Lib.hid (st_regs_row (r := r) (by rw [HEE.out]; exact hEc))
  have HZF : Hid (rowAt (wc.setCells (w.heap.size + 1 + 1 + 1) 0 (r.set t v).arr.toList) (w.heap.size + 2) = some z40) := Lib.hid (setCells_far hZc n3 _ _)
  have HBF : Hid (Below w.heap.size w (wc.setCells (w.heap.size + 1 + 1 + 1) 0 (r.set t v).arr.toList)) := Lib.hid (grown_below HBc.out (setCells_grown _ _ _ _) (by omega))
  clear hR hC hE hZ hRa hCa hEa hZa HBa hRb hCb hEb hZb HBb hRc hCc hEc hZc HBc hl1 hl2 hst
  generalize wc.setCells (w.heap.size + 1 + 1 + 1) 0 (r.set t v).arr.toList = w8 at *
  go_wp2_with (first | (refine wpl_load rfl 38 _ rfl (w.heap.size + 3) 0 rfl (efA (r.set t v) nx 0 0 false) (ef_all HEF.out) ?_) | (refine wpl_store rfl 38 _ _ rfl (w.heap.size + 2) (efA (r.set t v) nx 0 0 false) z40 rfl rfl HZF.out (by rw [efA_size]; exact info38) (by rw [efA_size]; rfl) (efA_one _ _ _ _ _) ?_; intro w9 hrow9 hg9; have HR9 := Lib.hid hrow9; have HB9 := Lib.hid (grown_below HBF.out hg9 (by omega)); clear hrow9 hg9))
  obtain ⟨t9, ht9⟩ := rowAt_heap HR9.out
  refine bodyPost_ret (results_cell_row rfl _ _ (w.heap.size + 2) t9 (efA (r.set t v) nx 0 0 false) (0, 0) _ rfl ht9 Try.underlying38 rfl (by rw [efA_size]; exact info38)) rfl ⟨rfl, HB9.out⟩
set_option maxRecDepth 100000 in
set_option maxHeartbeats 4000000 in
theorem do_rs79 (o d n m a c i pc t v : Int) (r : Rg) (w : World) (hck : ∀ w, Calls Try.prog 17 #[.agg #[.int .i64 o, .int .i64 d, .int .i64 n, .int .i64 m, .int .i64 a, .int .i64 c, .int .i64 i]] w fun e w' => e = .returned (.int .i64 0) ∧ Below w.heap.size w w') (hdo : ∀ w, Calls Try.prog 41 #[.int .i64 o] w fun e w' => e = .returned (.iface 79 (Value.func (.func 79) #[] #[])) ∧ w' = w) (htg : ∀ w, Calls Try.prog 42 #[.agg (coA #[.int .i64 o, .int .i64 d, .int .i64 n, .int .i64 m, .int .i64 a, .int .i64 c, .int .i64 i] pc r)] w fun e w' => e = .returned (.int .i64 t) ∧ Below w.heap.size w w') (hf : ∀ w, Calls Try.prog 79 #[.agg (coA #[.int .i64 o, .int .i64 d, .int .i64 n, .int .i64 m, .int .i64 a, .int .i64 c, .int .i64 i] pc r)] w fun e w' => e = .returned (.int .u64 v) ∧ Below w.heap.size w w') :
    Calls Try.prog 20 #[.agg #[.int .i64 o, .int .i64 d, .int .i64 n, .int .i64 m, .int .i64 a, .int .i64 c, .int .i64 i], .int .u64 pc, .agg r.arr] w fun e w' => e = .returned (.agg (efA (r.set t v) (IntKind.u64.wrap (pc + 4)) 0 0 false)) ∧ Below w.heap.size w w' := by
  have HCK := Lib.hid hck
  have HDO := Lib.hid hdo
  have HTG := Lib.hid htg
  have HFF := Lib.hid hf
  obtain ⟨nx, hnx⟩ : ∃ nx, IntKind.u64.wrap (pc + 4) = nx := ⟨_, rfl⟩
  rw [hnx]
  have hta := ta79 79
  clear hck hdo htg hf
  have HI0 : Hid (InsAt (((w.alloc (.cells #[.int .i64 o, .int .i64 d, .int .i64 n, .int .i64 m, .int .i64 a, .int .i64 c, .int .i64 i] 32)).alloc (.cells r.arr 25)).alloc (.cells z40 38)) w.heap.size (.int .i64 o) (.int .i64 d) (.int .i64 n) (.int .i64 m) (.int .i64 a) (.int .i64 c) (.int .i64 i)) := Lib.hid (((InsAt.new _ _ _ _ _ _ _ _).past _).past _)
  have HR0 : Hid (rowAt (((w.alloc (.cells #[.int .i64 o, .int .i64 d, .int .i64 n, .int .i64 m, .int .i64 a, .int .i64 c, .int .i64 i] 32)).alloc (.cells r.arr 25)).alloc (.cells z40 38)) (w.heap.size + 1) = some r.arr) := Lib.hid (by have := rowAt_past (rowAt_new (w.alloc (.cells #[.int .i64 o, .int .i64 d, .int .i64 n, .int .i64 m, .int .i64 a, .int .i64 c, .int .i64 i] 32)) r.arr 25) (.cells z40 38); simpa using this)
  have HE0 : Hid (rowAt (((w.alloc (.cells #[.int .i64 o, .int .i64 d, .int .i64 n, .int .i64 m, .int .i64 a, .int .i64 c, .int .i64 i] 32)).alloc (.cells r.arr 25)).alloc (.cells z40 38)) (w.heap.size + 2) = some z40) := Lib.hid (by have := rowAt_new ((w.alloc (.cells #[.int .i64 o, .int .i64 d, .int .i64 n, .int .i64 m, .int .i64 a, .int .i64 c, .int .i64 i] 32)).alloc (.cells r.arr 25)) z40 38; simpa using this)
  have HB0 : Hid (Below w.heap.size w (((w.alloc (.cells #[.int .i64 o, .int .i64 d, .int .i64 n, .int .i64 m, .int .i64 a, .int .i64 c, .int .i64 i] 32)).alloc (.cells r.arr 25)).alloc (.cells z40 38))) := Lib.hid ((((Below.refl _ _).alloc (Nat.le_refl _) _).alloc (by simp) _).alloc (by simp; omega) _)
  have HI1 : Hid (InsAt ((((w.alloc (.cells #[.int .i64 o, .int .i64 d, .int .i64 n, .int .i64 m, .int .i64 a, .int .i64 c, .int .i64 i] 32)).alloc (.cells r.arr 25)).alloc (.cells z40 38)).alloc (.cells z40 38)) w.heap.size (.int .i64 o) (.int .i64 d) (.int .i64 n) (.int .i64 m) (.int .i64 a) (.int .i64 c) (.int .i64 i)) := Lib.hid (HI0.out.past _)
  have HR1 : Hid (rowAt ((((w.alloc (.cells #[.int .i64 o, .int .i64 d, .int .i64 n, .int .i64 m, .int .i64 a, .int .i64 c, .int .i64 i] 32)).alloc (.cells r.arr 25)).alloc (.cells z40 38)).alloc (.cells z40 38)) (w.heap.size + 1) = some r.arr) := Lib.hid (rowAt_past HR0.out _)
  have HE1 : Hid (rowAt ((((w.alloc (.cells #[.int .i64 o, .int .i64 d, .int .i64 n, .int .i64 m, .int .i64 a, .int .i64 c, .int .i64 i] 32)).alloc (.cells r.arr 25)).alloc (.cells z40 38)).alloc (.cells z40 38)) (w.heap.size + 2) = some z40) := Lib.hid (rowAt_past HE0.out _)
  have HZ1 : Hid (rowAt ((((w.alloc (.cells #[.int .i64 o, .int .i64 d, .int .i64 n, .int .i64 m, .int .i64 a, .int .i64 c, .int .i64 i] 32)).alloc (.cells r.arr 25)).alloc (.cells z40 38)).alloc (.cells z40 38)) (w.heap.size + 3) = some z40) := Lib.hid (by have := rowAt_new (((w.alloc (.cells #[.int .i64 o, .int .i64 d, .int .i64 n, .int .i64 m, .int .i64 a, .int .i64 c, .int .i64 i] 32)).alloc (.cells r.arr 25)).alloc (.cells z40 38)) z40 38; simpa using this)
  have HB1 : Hid (Below w.heap.size w ((((w.alloc (.cells #[.int .i64 o, .int .i64 d, .int .i64 n, .int .i64 m, .int .i64 a, .int .i64 c, .int .i64 i] 32)).alloc (.cells r.arr 25)).alloc (.cells z40 38)).alloc (.cells z40 38))) := Lib.hid (HB0.out.alloc HB0.out.size _)
  go_enter Try.func20, Try.ntmps20
  go_wp2_with (first | (refine wpl_load rfl 25 _ rfl (w.heap.size + 1) 0 rfl r.arr (reg_all HR0.out) ?_) | (refine wpl_build2 rfl 38 0 1 _ _ rfl (.agg r.arr) (.int .u64 nx) rfl rfl _ (built38 r nx) ?_) | (refine wpl_store rfl 38 _ _ rfl (w.heap.size + 3) (efA r nx 0 0 false) z40 rfl rfl HZ1.out (by rw [efA_size]; exact info38) (by rw [efA_size]; rfl) (efA_one _ _ _ _ _) ?_; intro w2 hrow2 hg2; have HE2 := Lib.hid hrow2; have HI2 := Lib.hid (HI1.out.far hg2 (by omega)); have HR2 := Lib.hid (rowAt_grown HR1.out hg2 (by omega)); have HZ2 := Lib.hid (rowAt_grown HE1.out hg2 (by omega)); have HB2 := Lib.hid (grown_below HB1.out hg2 (by omega)); clear hrow2 hg2; obtain ⟨hl, i0, i1, i2, i3, i4, i5, i6⟩ := HI2.out))
  refine (HCK.out _).mono ?_
  rintro e w3 ⟨rfl, hb3⟩
  have HI3 := Lib.hid (HI2.out.below' hb3 rfl)
  have HR3 := Lib.hid (rowAt_below HR2.out hb3 rfl)
  have HE3 := Lib.hid (rowAt_below HE2.out hb3 rfl)
  have HZ3 := Lib.hid (rowAt_below HZ2.out hb3 rfl)
  have HB3 := Lib.hid (HB2.out.trans (hb3.mono HB2.out.size))
  have hq3 : w.heap.size + 3 < w3.heap.size := rowAt_lt HE3.out
  clear hb3 HI2 HR2 HE2 HZ2 HB2 HI1 HR1 HE1 HZ1 HB1 HI0 HR0 HE0 HB0 hl i0 i1 i2 i3 i4 i5 i6
  obtain ⟨hl, i0, i1, i2, i3, i4, i5, i6⟩ := HI3.out
  obtain ⟨q, hq⟩ : ∃ q, q = w3.heap.size := ⟨_, rfl⟩
  have HQ3 : Hid (rowAt (w3.alloc (.cells z44 76)) w3.heap.size = some z44) := Lib.hid (rowAt_new w3 z44 76)
  have HI4 := Lib.hid (HI3.out.past (.cells z44 76))
  have HR4 := Lib.hid (rowAt_past HR3.out (.cells z44 76))
  have HE4 := Lib.hid (rowAt_past HE3.out (.cells z44 76))
  have HZ4 := Lib.hid (rowAt_past HZ3.out (.cells z44 76))
  have HB4 := Lib.hid (HB3.out.alloc HB3.out.size (.cells z44 76))
  have HQN := Lib.hid hq
  clear hq
  go_wp2_with (first | (refine wpl_load rfl 25 _ rfl (w.heap.size + 1) 0 rfl r.arr (reg_all HR3.out) ?_) | (refine wpl_build3 rfl 76 0 1 2 _ _ _ rfl (.agg #[.int .i64 o, .int .i64 d, .int .i64 n, .int .i64 m, .int .i64 a, .int .i64 c, .int .i64 i]) (.int .u64 pc) (.agg r.arr) rfl rfl rfl _ (built76 o d n m a c i pc r) ?_) | (refine wpl_store rfl 76 _ _ rfl w3.heap.size (coA #[.int .i64 o, .int .i64 d, .int .i64 n, .int .i64 m, .int .i64 a, .int .i64 c, .int .i64 i] pc r) z44 rfl rfl HQ3.out (by rw [coA_size rfl]; exact info76) (by rw [coA_size rfl]; rfl) (coA_one _ _ _ _ _ _ _ _ _) ?_; intro w4 hrow4 hg4; have HC5 := Lib.hid hrow4; have HI5 := Lib.hid (HI4.out.far hg4 (by omega)); have HR5 := Lib.hid (rowAt_grown HR4.out hg4 (by omega)); have HE5 := Lib.hid (rowAt_grown HE4.out hg4 (by omega)); have HZ5 := Lib.hid (rowAt_grown HZ4.out hg4 (by omega)); have HB5 := Lib.hid (grown_below HB4.out hg4 (by omega)); clear hrow4 hg4 hl i0 i1 i2 i3 i4 i5 i6; obtain ⟨hl, i0, i1, i2, i3, i4, i5, i6⟩ := HI5.out) | (go_at_call 41; refine (HDO.out _).mono ?_; rintro e w' ⟨rfl, rfl⟩))
  clear hl i0 i1 i2 i3 i4 i5 i6 HI4 HR4 HE4 HZ4 HB4 HI3 HR3 HE3 HZ3 HB3 HQ3 hta
  have hR := HR5.out
  have hC := HC5.out
  have hE := HE5.out
  have hZ := HZ5.out
  have n1 : w.heap.size + 1 ≠ w.heap.size + 1 + 1 + 1 := by omega
  have n2 : w3.heap.size ≠ w.heap.size + 1 + 1 + 1 := by omega
  have n3 : w.heap.size + 1 + 1 ≠ w.heap.size + 1 + 1 + 1 := by omega
  have hl1 : ∀ w', rowAt w' (w.heap.size + 1) = some r.arr → (ldAt 25 (.pointer (some ⟨w.heap.size + 1, 0, none⟩))).run Try.prog w' = .ok (.agg r.arr) w' := fun w' h => reg_all h
  have hl2 : ∀ w', rowAt w' w3.heap.size = some (coA #[.int .i64 o, .int .i64 d, .int .i64 n, .int .i64 m, .int .i64 a, .int .i64 c, .int .i64 i] pc r) → (ldAt 76 (.pointer (some ⟨w3.heap.size, 0, none⟩))).run Try.prog w' = .ok (.agg (coA #[.int .i64 o, .int .i64 d, .int .i64 n, .int .i64 m, .int .i64 a, .int .i64 c, .int .i64 i] pc r)) w' := fun w' h => core_all rfl h
  have hst : ∀ w', rowAt w' (w.heap.size + 1 + 1 + 1) = some (efA r nx 0 0 false) → (stAt 25 (.pointer (some ⟨w.heap.size + 1 + 1 + 1, 0, none⟩)) (.agg (r.set t v).arr)).run Try.prog w' = .ok () (w'.setCells (w.heap.size + 1 + 1 + 1) 0 (r.set t v).arr.toList) := fun w' h => st_regs h
  have HEQ : Hid (efA r nx 0 0 false = efA r nx 0 0 false) := Lib.hid rfl
  generalize hCC : coA #[.int .i64 o, .int .i64 d, .int .i64 n, .int .i64 m, .int .i64 a, .int .i64 c, .int .i64 i] pc r = Cc at *
  generalize hEE : efA r nx 0 0 false = Ee at *
  have HEE := Lib.hid hEE
  clear hCC hEE HEQ
  go_region_held3 (fun w' => rowAt w' (w.heap.size + 1) = some r.arr ∧ rowAt w' w3.heap.size = some Cc) (first | exact ⟨setCells_far hRc n1 _ _, setCells_far hCc n2 _ _⟩ | exact ⟨hRc, hCc⟩ | exact ⟨hRb, hCb⟩ | exact ⟨hRa, hCa⟩ | exact ⟨hR, hC⟩) (first | (go_at_call 42; refine (HTG.out _).mono ?_; rintro e wa ⟨rfl, hba⟩; have hRa : rowAt wa (w.heap.size + 1) = some r.arr := rowAt_below hR hba rfl; have hCa : rowAt wa w3.heap.size = some Cc := rowAt_below hC hba rfl; have hEa := rowAt_below hE hba rfl; have hZa := rowAt_below hZ hba rfl; have HBa := Lib.hid (below_step HB5.out hba rfl rfl rfl rfl); clear hba) | (go_at_call 13; refine (set13 r t v _).mono ?_; rintro e wc ⟨rfl, hbc⟩; have hRc : rowAt wc (w.heap.size + 1) = some r.arr := rowAt_below hRb hbc rfl; have hCc : rowAt wc w3.heap.size = some Cc := rowAt_below hCb hbc rfl; have hEc := rowAt_below hEb hbc rfl; have hZc := rowAt_below hZb hbc rfl; have HBc := Lib.hid (below_step HBb.out hbc rfl rfl rfl rfl); clear hbc) | (go_at_call 79; refine (HFF.out _).mono ?_; rintro e wb ⟨rfl, hbb⟩; have hRb : rowAt wb (w.heap.size + 1) = some r.arr := rowAt_below hRa hbb rfl; have hCb : rowAt wb w3.heap.size = some Cc := rowAt_below hCa hbb rfl; have hEb := rowAt_below hEa hbb rfl; have hZb := rowAt_below hZa hbb rfl; have HBb := Lib.hid (below_step HBa.out hbb rfl rfl rfl rfl); clear hbb))
  have HEF : Hid (rowAt (wc.setCells (w.heap.size + 1 + 1 + 1) 0 (r.set t v).arr.toList) (w.heap.size + 3) = some (efA (r.set t v) nx 0 0 false)) := Lib.hid (st_regs_row (r := r) (by rw [HEE.out]; exact hEc))
  have HZF : Hid (rowAt (wc.setCells (w.heap.size + 1 + 1 + 1) 0 (r.set t v).arr.toList) (w.heap.size + 2) = some z40) := Lib.hid (setCells_far hZc n3 _ _)
  have HBF : Hid (Below w.heap.size w (wc.setCells (w.heap.size + 1 + 1 + 1) 0 (r.set t v).arr.toList)) := Lib.hid (grown_below HBc.out (setCells_grown _ _ _ _) (by omega))
  clear hR hC hE hZ hRa hCa hEa hZa HBa hRb hCb hEb hZb HBb hRc hCc hEc hZc HBc hl1 hl2 hst
  generalize wc.setCells (w.heap.size + 1 + 1 + 1) 0 (r.set t v).arr.toList = w8 at *
  go_wp2_with (first | (refine wpl_load rfl 38 _ rfl (w.heap.size + 3) 0 rfl (efA (r.set t v) nx 0 0 false) (ef_all HEF.out) ?_) | (refine wpl_store rfl 38 _ _ rfl (w.heap.size + 2) (efA (r.set t v) nx 0 0 false) z40 rfl rfl HZF.out (by rw [efA_size]; exact info38) (by rw [efA_size]; rfl) (efA_one _ _ _ _ _) ?_; intro w9 hrow9 hg9; have HR9 := Lib.hid hrow9; have HB9 := Lib.hid (grown_below HBF.out hg9 (by omega)); clear hrow9 hg9))
  obtain ⟨t9, ht9⟩ := rowAt_heap HR9.out
  refine bodyPost_ret (results_cell_row rfl _ _ (w.heap.size + 2) t9 (efA (r.set t v) nx 0 0 false) (0, 0) _ rfl ht9 Try.underlying38 rfl (by rw [efA_size]; exact info38)) rfl ⟨rfl, HB9.out⟩
set_option maxRecDepth 100000 in
set_option maxHeartbeats 4000000 in
theorem do_rs80 (o d n m a c i pc t v : Int) (r : Rg) (w : World) (hck : ∀ w, Calls Try.prog 17 #[.agg #[.int .i64 o, .int .i64 d, .int .i64 n, .int .i64 m, .int .i64 a, .int .i64 c, .int .i64 i]] w fun e w' => e = .returned (.int .i64 0) ∧ Below w.heap.size w w') (hdo : ∀ w, Calls Try.prog 41 #[.int .i64 o] w fun e w' => e = .returned (.iface 79 (Value.func (.func 80) #[] #[])) ∧ w' = w) (htg : ∀ w, Calls Try.prog 42 #[.agg (coA #[.int .i64 o, .int .i64 d, .int .i64 n, .int .i64 m, .int .i64 a, .int .i64 c, .int .i64 i] pc r)] w fun e w' => e = .returned (.int .i64 t) ∧ Below w.heap.size w w') (hf : ∀ w, Calls Try.prog 80 #[.agg (coA #[.int .i64 o, .int .i64 d, .int .i64 n, .int .i64 m, .int .i64 a, .int .i64 c, .int .i64 i] pc r)] w fun e w' => e = .returned (.int .u64 v) ∧ Below w.heap.size w w') :
    Calls Try.prog 20 #[.agg #[.int .i64 o, .int .i64 d, .int .i64 n, .int .i64 m, .int .i64 a, .int .i64 c, .int .i64 i], .int .u64 pc, .agg r.arr] w fun e w' => e = .returned (.agg (efA (r.set t v) (IntKind.u64.wrap (pc + 4)) 0 0 false)) ∧ Below w.heap.size w w' := by
  have HCK := Lib.hid hck
  have HDO := Lib.hid hdo
  have HTG := Lib.hid htg
  have HFF := Lib.hid hf
  obtain ⟨nx, hnx⟩ : ∃ nx, IntKind.u64.wrap (pc + 4) = nx := ⟨_, rfl⟩
  rw [hnx]
  have hta := ta79 80
  clear hck hdo htg hf
  have HI0 : Hid (InsAt (((w.alloc (.cells #[.int .i64 o, .int .i64 d, .int .i64 n, .int .i64 m, .int .i64 a, .int .i64 c, .int .i64 i] 32)).alloc (.cells r.arr 25)).alloc (.cells z40 38)) w.heap.size (.int .i64 o) (.int .i64 d) (.int .i64 n) (.int .i64 m) (.int .i64 a) (.int .i64 c) (.int .i64 i)) := Lib.hid (((InsAt.new _ _ _ _ _ _ _ _).past _).past _)
  have HR0 : Hid (rowAt (((w.alloc (.cells #[.int .i64 o, .int .i64 d, .int .i64 n, .int .i64 m, .int .i64 a, .int .i64 c, .int .i64 i] 32)).alloc (.cells r.arr 25)).alloc (.cells z40 38)) (w.heap.size + 1) = some r.arr) := Lib.hid (by have := rowAt_past (rowAt_new (w.alloc (.cells #[.int .i64 o, .int .i64 d, .int .i64 n, .int .i64 m, .int .i64 a, .int .i64 c, .int .i64 i] 32)) r.arr 25) (.cells z40 38); simpa using this)
  have HE0 : Hid (rowAt (((w.alloc (.cells #[.int .i64 o, .int .i64 d, .int .i64 n, .int .i64 m, .int .i64 a, .int .i64 c, .int .i64 i] 32)).alloc (.cells r.arr 25)).alloc (.cells z40 38)) (w.heap.size + 2) = some z40) := Lib.hid (by have := rowAt_new ((w.alloc (.cells #[.int .i64 o, .int .i64 d, .int .i64 n, .int .i64 m, .int .i64 a, .int .i64 c, .int .i64 i] 32)).alloc (.cells r.arr 25)) z40 38; simpa using this)
  have HB0 : Hid (Below w.heap.size w (((w.alloc (.cells #[.int .i64 o, .int .i64 d, .int .i64 n, .int .i64 m, .int .i64 a, .int .i64 c, .int .i64 i] 32)).alloc (.cells r.arr 25)).alloc (.cells z40 38))) := Lib.hid ((((Below.refl _ _).alloc (Nat.le_refl _) _).alloc (by simp) _).alloc (by simp; omega) _)
  have HI1 : Hid (InsAt ((((w.alloc (.cells #[.int .i64 o, .int .i64 d, .int .i64 n, .int .i64 m, .int .i64 a, .int .i64 c, .int .i64 i] 32)).alloc (.cells r.arr 25)).alloc (.cells z40 38)).alloc (.cells z40 38)) w.heap.size (.int .i64 o) (.int .i64 d) (.int .i64 n) (.int .i64 m) (.int .i64 a) (.int .i64 c) (.int .i64 i)) := Lib.hid (HI0.out.past _)
  have HR1 : Hid (rowAt ((((w.alloc (.cells #[.int .i64 o, .int .i64 d, .int .i64 n, .int .i64 m, .int .i64 a, .int .i64 c, .int .i64 i] 32)).alloc (.cells r.arr 25)).alloc (.cells z40 38)).alloc (.cells z40 38)) (w.heap.size + 1) = some r.arr) := Lib.hid (rowAt_past HR0.out _)
  have HE1 : Hid (rowAt ((((w.alloc (.cells #[.int .i64 o, .int .i64 d, .int .i64 n, .int .i64 m, .int .i64 a, .int .i64 c, .int .i64 i] 32)).alloc (.cells r.arr 25)).alloc (.cells z40 38)).alloc (.cells z40 38)) (w.heap.size + 2) = some z40) := Lib.hid (rowAt_past HE0.out _)
  have HZ1 : Hid (rowAt ((((w.alloc (.cells #[.int .i64 o, .int .i64 d, .int .i64 n, .int .i64 m, .int .i64 a, .int .i64 c, .int .i64 i] 32)).alloc (.cells r.arr 25)).alloc (.cells z40 38)).alloc (.cells z40 38)) (w.heap.size + 3) = some z40) := Lib.hid (by have := rowAt_new (((w.alloc (.cells #[.int .i64 o, .int .i64 d, .int .i64 n, .int .i64 m, .int .i64 a, .int .i64 c, .int .i64 i] 32)).alloc (.cells r.arr 25)).alloc (.cells z40 38)) z40 38; simpa using this)
  have HB1 : Hid (Below w.heap.size w ((((w.alloc (.cells #[.int .i64 o, .int .i64 d, .int .i64 n, .int .i64 m, .int .i64 a, .int .i64 c, .int .i64 i] 32)).alloc (.cells r.arr 25)).alloc (.cells z40 38)).alloc (.cells z40 38))) := Lib.hid (HB0.out.alloc HB0.out.size _)
  go_enter Try.func20, Try.ntmps20
  go_wp2_with (first | (refine wpl_load rfl 25 _ rfl (w.heap.size + 1) 0 rfl r.arr (reg_all HR0.out) ?_) | (refine wpl_build2 rfl 38 0 1 _ _ rfl (.agg r.arr) (.int .u64 nx) rfl rfl _ (built38 r nx) ?_) | (refine wpl_store rfl 38 _ _ rfl (w.heap.size + 3) (efA r nx 0 0 false) z40 rfl rfl HZ1.out (by rw [efA_size]; exact info38) (by rw [efA_size]; rfl) (efA_one _ _ _ _ _) ?_; intro w2 hrow2 hg2; have HE2 := Lib.hid hrow2; have HI2 := Lib.hid (HI1.out.far hg2 (by omega)); have HR2 := Lib.hid (rowAt_grown HR1.out hg2 (by omega)); have HZ2 := Lib.hid (rowAt_grown HE1.out hg2 (by omega)); have HB2 := Lib.hid (grown_below HB1.out hg2 (by omega)); clear hrow2 hg2; obtain ⟨hl, i0, i1, i2, i3, i4, i5, i6⟩ := HI2.out))
  refine (HCK.out _).mono ?_
  rintro e w3 ⟨rfl, hb3⟩
  have HI3 := Lib.hid (HI2.out.below' hb3 rfl)
  have HR3 := Lib.hid (rowAt_below HR2.out hb3 rfl)
  have HE3 := Lib.hid (rowAt_below HE2.out hb3 rfl)
  have HZ3 := Lib.hid (rowAt_below HZ2.out hb3 rfl)
  have HB3 := Lib.hid (HB2.out.trans (hb3.mono HB2.out.size))
  have hq3 : w.heap.size + 3 < w3.heap.size := rowAt_lt HE3.out
  clear hb3 HI2 HR2 HE2 HZ2 HB2 HI1 HR1 HE1 HZ1 HB1 HI0 HR0 HE0 HB0 hl i0 i1 i2 i3 i4 i5 i6
  obtain ⟨hl, i0, i1, i2, i3, i4, i5, i6⟩ := HI3.out
  obtain ⟨q, hq⟩ : ∃ q, q = w3.heap.size := ⟨_, rfl⟩
  have HQ3 : Hid (rowAt (w3.alloc (.cells z44 76)) w3.heap.size = some z44) := Lib.hid (rowAt_new w3 z44 76)
  have HI4 := Lib.hid (HI3.out.past (.cells z44 76))
  have HR4 := Lib.hid (rowAt_past HR3.out (.cells z44 76))
  have HE4 := Lib.hid (rowAt_past HE3.out (.cells z44 76))
  have HZ4 := Lib.hid (rowAt_past HZ3.out (.cells z44 76))
  have HB4 := Lib.hid (HB3.out.alloc HB3.out.size (.cells z44 76))
  have HQN := Lib.hid hq
  clear hq
  go_wp2_with (first | (refine wpl_load rfl 25 _ rfl (w.heap.size + 1) 0 rfl r.arr (reg_all HR3.out) ?_) | (refine wpl_build3 rfl 76 0 1 2 _ _ _ rfl (.agg #[.int .i64 o, .int .i64 d, .int .i64 n, .int .i64 m, .int .i64 a, .int .i64 c, .int .i64 i]) (.int .u64 pc) (.agg r.arr) rfl rfl rfl _ (built76 o d n m a c i pc r) ?_) | (refine wpl_store rfl 76 _ _ rfl w3.heap.size (coA #[.int .i64 o, .int .i64 d, .int .i64 n, .int .i64 m, .int .i64 a, .int .i64 c, .int .i64 i] pc r) z44 rfl rfl HQ3.out (by rw [coA_size rfl]; exact info76) (by rw [coA_size rfl]; rfl) (coA_one _ _ _ _ _ _ _ _ _) ?_; intro w4 hrow4 hg4; have HC5 := Lib.hid hrow4; have HI5 := Lib.hid (HI4.out.far hg4 (by omega)); have HR5 := Lib.hid (rowAt_grown HR4.out hg4 (by omega)); have HE5 := Lib.hid (rowAt_grown HE4.out hg4 (by omega)); have HZ5 := Lib.hid (rowAt_grown HZ4.out hg4 (by omega)); have HB5 := Lib.hid (grown_below HB4.out hg4 (by omega)); clear hrow4 hg4 hl i0 i1 i2 i3 i4 i5 i6; obtain ⟨hl, i0, i1, i2, i3, i4, i5, i6⟩ := HI5.out) | (go_at_call 41; refine (HDO.out _).mono ?_; rintro e w' ⟨rfl, rfl⟩))
  clear hl i0 i1 i2 i3 i4 i5 i6 HI4 HR4 HE4 HZ4 HB4 HI3 HR3 HE3 HZ3 HB3 HQ3 hta
  have hR := HR5.out
  have hC := HC5.out
  have hE := HE5.out
  have hZ := HZ5.out
  have n1 : w.heap.size + 1 ≠ w.heap.size + 1 + 1 + 1 := by omega
  have n2 : w3.heap.size ≠ w.heap.size + 1 + 1 + 1 := by omega
  have n3 : w.heap.size + 1 + 1 ≠ w.heap.size + 1 + 1 + 1 := by omega
  have hl1 : ∀ w', rowAt w' (w.heap.size + 1) = some r.arr → (ldAt 25 (.pointer (some ⟨w.heap.size + 1, 0, none⟩))).run Try.prog w' = .ok (.agg r.arr) w' := fun w' h => reg_all h
  have hl2 : ∀ w', rowAt w' w3.heap.size = some (coA #[.int .i64 o, .int .i64 d, .int .i64 n, .int .i64 m, .int .i64 a, .int .i64 c, .int .i64 i] pc r) → (ldAt 76 (.pointer (some ⟨w3.heap.size, 0, none⟩))).run Try.prog w' = .ok (.agg (coA #[.int .i64 o, .int .i64 d, .int .i64 n, .int .i64 m, .int .i64 a, .int .i64 c, .int .i64 i] pc r)) w' := fun w' h => core_all rfl h
  have hst : ∀ w', rowAt w' (w.heap.size + 1 + 1 + 1) = some (efA r nx 0 0 false) → (stAt 25 (.pointer (some ⟨w.heap.size + 1 + 1 + 1, 0, none⟩)) (.agg (r.set t v).arr)).run Try.prog w' = .ok () (w'.setCells (w.heap.size + 1 + 1 + 1) 0 (r.set t v).arr.toList) := fun w' h => st_regs h
  have HEQ : Hid (efA r nx 0 0 false = efA r nx 0 0 false) := Lib.hid rfl
  generalize hCC : coA #[.int .i64 o, .int .i64 d, .int .i64 n, .int .i64 m, .int .i64 a, .int .i64 c, .int .i64 i] pc r = Cc at *
  generalize hEE : efA r nx 0 0 false = Ee at *
  have HEE := Lib.hid hEE
  clear hCC hEE HEQ
  go_region_held3 (fun w' => rowAt w' (w.heap.size + 1) = some r.arr ∧ rowAt w' w3.heap.size = some Cc) (first | exact ⟨setCells_far hRc n1 _ _, setCells_far hCc n2 _ _⟩ | exact ⟨hRc, hCc⟩ | exact ⟨hRb, hCb⟩ | exact ⟨hRa, hCa⟩ | exact ⟨hR, hC⟩) (first | (go_at_call 42; refine (HTG.out _).mono ?_; rintro e wa ⟨rfl, hba⟩; have hRa : rowAt wa (w.heap.size + 1) = some r.arr := rowAt_below hR hba rfl; have hCa : rowAt wa w3.heap.size = some Cc := rowAt_below hC hba rfl; have hEa := rowAt_below hE hba rfl; have hZa := rowAt_below hZ hba rfl; have HBa := Lib.hid (below_step HB5.out hba rfl rfl rfl rfl); clear hba) | (go_at_call 13; refine (set13 r t v _).mono ?_; rintro e wc ⟨rfl, hbc⟩; have hRc : rowAt wc (w.heap.size + 1) = some r.arr := rowAt_below hRb hbc rfl; have hCc : rowAt wc w3.heap.size = some Cc := rowAt_below hCb hbc rfl; have hEc := rowAt_below hEb hbc rfl; have hZc := rowAt_below hZb hbc rfl; have HBc := Lib.hid (below_step HBb.out hbc rfl rfl rfl rfl); clear hbc) | (go_at_call 80; refine (HFF.out _).mono ?_; rintro e wb ⟨rfl, hbb⟩; have hRb : rowAt wb (w.heap.size + 1) = some r.arr := rowAt_below hRa hbb rfl; have hCb : rowAt wb w3.heap.size = some Cc := rowAt_below hCa hbb rfl; have hEb := rowAt_below hEa hbb rfl; have hZb := rowAt_below hZa hbb rfl; have HBb := Lib.hid (below_step HBa.out hbb rfl rfl rfl rfl); clear hbb))
  have HEF : Hid (rowAt (wc.setCells (w.heap.size + 1 + 1 + 1) 0 (r.set t v).arr.toList) (w.heap.size + 3) = some (efA (r.set t v) nx 0 0 false)) := Lib.hid (st_regs_row (r := r) (by rw [HEE.out]; exact hEc))
  have HZF : Hid (rowAt (wc.setCells (w.heap.size + 1 + 1 + 1) 0 (r.set t v).arr.toList) (w.heap.size + 2) = some z40) := Lib.hid (setCells_far hZc n3 _ _)
  have HBF : Hid (Below w.heap.size w (wc.setCells (w.heap.size + 1 + 1 + 1) 0 (r.set t v).arr.toList)) := Lib.hid (grown_below HBc.out (setCells_grown _ _ _ _) (by omega))
  clear hR hC hE hZ hRa hCa hEa hZa HBa hRb hCb hEb hZb HBb hRc hCc hEc hZc HBc hl1 hl2 hst
  generalize wc.setCells (w.heap.size + 1 + 1 + 1) 0 (r.set t v).arr.toList = w8 at *
  go_wp2_with (first | (refine wpl_load rfl 38 _ rfl (w.heap.size + 3) 0 rfl (efA (r.set t v) nx 0 0 false) (ef_all HEF.out) ?_) | (refine wpl_store rfl 38 _ _ rfl (w.heap.size + 2) (efA (r.set t v) nx 0 0 false) z40 rfl rfl HZF.out (by rw [efA_size]; exact info38) (by rw [efA_size]; rfl) (efA_one _ _ _ _ _) ?_; intro w9 hrow9 hg9; have HR9 := Lib.hid hrow9; have HB9 := Lib.hid (grown_below HBF.out hg9 (by omega)); clear hrow9 hg9))
  obtain ⟨t9, ht9⟩ := rowAt_heap HR9.out
  refine bodyPost_ret (results_cell_row rfl _ _ (w.heap.size + 2) t9 (efA (r.set t v) nx 0 0 false) (0, 0) _ rfl ht9 Try.underlying38 rfl (by rw [efA_size]; exact info38)) rfl ⟨rfl, HB9.out⟩
set_option maxRecDepth 100000 in
set_option maxHeartbeats 4000000 in
theorem do_rs81 (o d n m a c i pc t v : Int) (r : Rg) (w : World) (hck : ∀ w, Calls Try.prog 17 #[.agg #[.int .i64 o, .int .i64 d, .int .i64 n, .int .i64 m, .int .i64 a, .int .i64 c, .int .i64 i]] w fun e w' => e = .returned (.int .i64 0) ∧ Below w.heap.size w w') (hdo : ∀ w, Calls Try.prog 41 #[.int .i64 o] w fun e w' => e = .returned (.iface 79 (Value.func (.func 81) #[] #[])) ∧ w' = w) (htg : ∀ w, Calls Try.prog 42 #[.agg (coA #[.int .i64 o, .int .i64 d, .int .i64 n, .int .i64 m, .int .i64 a, .int .i64 c, .int .i64 i] pc r)] w fun e w' => e = .returned (.int .i64 t) ∧ Below w.heap.size w w') (hf : ∀ w, Calls Try.prog 81 #[.agg (coA #[.int .i64 o, .int .i64 d, .int .i64 n, .int .i64 m, .int .i64 a, .int .i64 c, .int .i64 i] pc r)] w fun e w' => e = .returned (.int .u64 v) ∧ Below w.heap.size w w') :
    Calls Try.prog 20 #[.agg #[.int .i64 o, .int .i64 d, .int .i64 n, .int .i64 m, .int .i64 a, .int .i64 c, .int .i64 i], .int .u64 pc, .agg r.arr] w fun e w' => e = .returned (.agg (efA (r.set t v) (IntKind.u64.wrap (pc + 4)) 0 0 false)) ∧ Below w.heap.size w w' := by
  have HCK := Lib.hid hck
  have HDO := Lib.hid hdo
  have HTG := Lib.hid htg
  have HFF := Lib.hid hf
  obtain ⟨nx, hnx⟩ : ∃ nx, IntKind.u64.wrap (pc + 4) = nx := ⟨_, rfl⟩
  rw [hnx]
  have hta := ta79 81
  clear hck hdo htg hf
  have HI0 : Hid (InsAt (((w.alloc (.cells #[.int .i64 o, .int .i64 d, .int .i64 n, .int .i64 m, .int .i64 a, .int .i64 c, .int .i64 i] 32)).alloc (.cells r.arr 25)).alloc (.cells z40 38)) w.heap.size (.int .i64 o) (.int .i64 d) (.int .i64 n) (.int .i64 m) (.int .i64 a) (.int .i64 c) (.int .i64 i)) := Lib.hid (((InsAt.new _ _ _ _ _ _ _ _).past _).past _)
  have HR0 : Hid (rowAt (((w.alloc (.cells #[.int .i64 o, .int .i64 d, .int .i64 n, .int .i64 m, .int .i64 a, .int .i64 c, .int .i64 i] 32)).alloc (.cells r.arr 25)).alloc (.cells z40 38)) (w.heap.size + 1) = some r.arr) := Lib.hid (by have := rowAt_past (rowAt_new (w.alloc (.cells #[.int .i64 o, .int .i64 d, .int .i64 n, .int .i64 m, .int .i64 a, .int .i64 c, .int .i64 i] 32)) r.arr 25) (.cells z40 38); simpa using this)
  have HE0 : Hid (rowAt (((w.alloc (.cells #[.int .i64 o, .int .i64 d, .int .i64 n, .int .i64 m, .int .i64 a, .int .i64 c, .int .i64 i] 32)).alloc (.cells r.arr 25)).alloc (.cells z40 38)) (w.heap.size + 2) = some z40) := Lib.hid (by have := rowAt_new ((w.alloc (.cells #[.int .i64 o, .int .i64 d, .int .i64 n, .int .i64 m, .int .i64 a, .int .i64 c, .int .i64 i] 32)).alloc (.cells r.arr 25)) z40 38; simpa using this)
  have HB0 : Hid (Below w.heap.size w (((w.alloc (.cells #[.int .i64 o, .int .i64 d, .int .i64 n, .int .i64 m, .int .i64 a, .int .i64 c, .int .i64 i] 32)).alloc (.cells r.arr 25)).alloc (.cells z40 38))) := Lib.hid ((((Below.refl _ _).alloc (Nat.le_refl _) _).alloc (by simp) _).alloc (by simp; omega) _)
  have HI1 : Hid (InsAt ((((w.alloc (.cells #[.int .i64 o, .int .i64 d, .int .i64 n, .int .i64 m, .int .i64 a, .int .i64 c, .int .i64 i] 32)).alloc (.cells r.arr 25)).alloc (.cells z40 38)).alloc (.cells z40 38)) w.heap.size (.int .i64 o) (.int .i64 d) (.int .i64 n) (.int .i64 m) (.int .i64 a) (.int .i64 c) (.int .i64 i)) := Lib.hid (HI0.out.past _)
  have HR1 : Hid (rowAt ((((w.alloc (.cells #[.int .i64 o, .int .i64 d, .int .i64 n, .int .i64 m, .int .i64 a, .int .i64 c, .int .i64 i] 32)).alloc (.cells r.arr 25)).alloc (.cells z40 38)).alloc (.cells z40 38)) (w.heap.size + 1) = some r.arr) := Lib.hid (rowAt_past HR0.out _)
  have HE1 : Hid (rowAt ((((w.alloc (.cells #[.int .i64 o, .int .i64 d, .int .i64 n, .int .i64 m, .int .i64 a, .int .i64 c, .int .i64 i] 32)).alloc (.cells r.arr 25)).alloc (.cells z40 38)).alloc (.cells z40 38)) (w.heap.size + 2) = some z40) := Lib.hid (rowAt_past HE0.out _)
  have HZ1 : Hid (rowAt ((((w.alloc (.cells #[.int .i64 o, .int .i64 d, .int .i64 n, .int .i64 m, .int .i64 a, .int .i64 c, .int .i64 i] 32)).alloc (.cells r.arr 25)).alloc (.cells z40 38)).alloc (.cells z40 38)) (w.heap.size + 3) = some z40) := Lib.hid (by have := rowAt_new (((w.alloc (.cells #[.int .i64 o, .int .i64 d, .int .i64 n, .int .i64 m, .int .i64 a, .int .i64 c, .int .i64 i] 32)).alloc (.cells r.arr 25)).alloc (.cells z40 38)) z40 38; simpa using this)
  have HB1 : Hid (Below w.heap.size w ((((w.alloc (.cells #[.int .i64 o, .int .i64 d, .int .i64 n, .int .i64 m, .int .i64 a, .int .i64 c, .int .i64 i] 32)).alloc (.cells r.arr 25)).alloc (.cells z40 38)).alloc (.cells z40 38))) := Lib.hid (HB0.out.alloc HB0.out.size _)
  go_enter Try.func20, Try.ntmps20
  go_wp2_with (first | (refine wpl_load rfl 25 _ rfl (w.heap.size + 1) 0 rfl r.arr (reg_all HR0.out) ?_) | (refine wpl_build2 rfl 38 0 1 _ _ rfl (.agg r.arr) (.int .u64 nx) rfl rfl _ (built38 r nx) ?_) | (refine wpl_store rfl 38 _ _ rfl (w.heap.size + 3) (efA r nx 0 0 false) z40 rfl rfl HZ1.out (by rw [efA_size]; exact info38) (by rw [efA_size]; rfl) (efA_one _ _ _ _ _) ?_; intro w2 hrow2 hg2; have HE2 := Lib.hid hrow2; have HI2 := Lib.hid (HI1.out.far hg2 (by omega)); have HR2 := Lib.hid (rowAt_grown HR1.out hg2 (by omega)); have HZ2 := Lib.hid (rowAt_grown HE1.out hg2 (by omega)); have HB2 := Lib.hid (grown_below HB1.out hg2 (by omega)); clear hrow2 hg2; obtain ⟨hl, i0, i1, i2, i3, i4, i5, i6⟩ := HI2.out))
  refine (HCK.out _).mono ?_
  rintro e w3 ⟨rfl, hb3⟩
  have HI3 := Lib.hid (HI2.out.below' hb3 rfl)
  have HR3 := Lib.hid (rowAt_below HR2.out hb3 rfl)
  have HE3 := Lib.hid (rowAt_below HE2.out hb3 rfl)
  have HZ3 := Lib.hid (rowAt_below HZ2.out hb3 rfl)
  have HB3 := Lib.hid (HB2.out.trans (hb3.mono HB2.out.size))
  have hq3 : w.heap.size + 3 < w3.heap.size := rowAt_lt HE3.out
  clear hb3 HI2 HR2 HE2 HZ2 HB2 HI1 HR1 HE1 HZ1 HB1 HI0 HR0 HE0 HB0 hl i0 i1 i2 i3 i4 i5 i6
  obtain ⟨hl, i0, i1, i2, i3, i4, i5, i6⟩ := HI3.out
  obtain ⟨q, hq⟩ : ∃ q, q = w3.heap.size := ⟨_, rfl⟩
  have HQ3 : Hid (rowAt (w3.alloc (.cells z44 76)) w3.heap.size = some z44) := Lib.hid (rowAt_new w3 z44 76)
  have HI4 := Lib.hid (HI3.out.past (.cells z44 76))
  have HR4 := Lib.hid (rowAt_past HR3.out (.cells z44 76))
  have HE4 := Lib.hid (rowAt_past HE3.out (.cells z44 76))
  have HZ4 := Lib.hid (rowAt_past HZ3.out (.cells z44 76))
  have HB4 := Lib.hid (HB3.out.alloc HB3.out.size (.cells z44 76))
  have HQN := Lib.hid hq
  clear hq
  go_wp2_with (first | (refine wpl_load rfl 25 _ rfl (w.heap.size + 1) 0 rfl r.arr (reg_all HR3.out) ?_) | (refine wpl_build3 rfl 76 0 1 2 _ _ _ rfl (.agg #[.int .i64 o, .int .i64 d, .int .i64 n, .int .i64 m, .int .i64 a, .int .i64 c, .int .i64 i]) (.int .u64 pc) (.agg r.arr) rfl rfl rfl _ (built76 o d n m a c i pc r) ?_) | (refine wpl_store rfl 76 _ _ rfl w3.heap.size (coA #[.int .i64 o, .int .i64 d, .int .i64 n, .int .i64 m, .int .i64 a, .int .i64 c, .int .i64 i] pc r) z44 rfl rfl HQ3.out (by rw [coA_size rfl]; exact info76) (by rw [coA_size rfl]; rfl) (coA_one _ _ _ _ _ _ _ _ _) ?_; intro w4 hrow4 hg4; have HC5 := Lib.hid hrow4; have HI5 := Lib.hid (HI4.out.far hg4 (by omega)); have HR5 := Lib.hid (rowAt_grown HR4.out hg4 (by omega)); have HE5 := Lib.hid (rowAt_grown HE4.out hg4 (by omega)); have HZ5 := Lib.hid (rowAt_grown HZ4.out hg4 (by omega)); have HB5 := Lib.hid (grown_below HB4.out hg4 (by omega)); clear hrow4 hg4 hl i0 i1 i2 i3 i4 i5 i6; obtain ⟨hl, i0, i1, i2, i3, i4, i5, i6⟩ := HI5.out) | (go_at_call 41; refine (HDO.out _).mono ?_; rintro e w' ⟨rfl, rfl⟩))
  clear hl i0 i1 i2 i3 i4 i5 i6 HI4 HR4 HE4 HZ4 HB4 HI3 HR3 HE3 HZ3 HB3 HQ3 hta
  have hR := HR5.out
  have hC := HC5.out
  have hE := HE5.out
  have hZ := HZ5.out
  have n1 : w.heap.size + 1 ≠ w.heap.size + 1 + 1 + 1 := by omega
  have n2 : w3.heap.size ≠ w.heap.size + 1 + 1 + 1 := by omega
  have n3 : w.heap.size + 1 + 1 ≠ w.heap.size + 1 + 1 + 1 := by omega
  have hl1 : ∀ w', rowAt w' (w.heap.size + 1) = some r.arr → (ldAt 25 (.pointer (some ⟨w.heap.size + 1, 0, none⟩))).run Try.prog w' = .ok (.agg r.arr) w' := fun w' h => reg_all h
  have hl2 : ∀ w', rowAt w' w3.heap.size = some (coA #[.int .i64 o, .int .i64 d, .int .i64 n, .int .i64 m, .int .i64 a, .int .i64 c, .int .i64 i] pc r) → (ldAt 76 (.pointer (some ⟨w3.heap.size, 0, none⟩))).run Try.prog w' = .ok (.agg (coA #[.int .i64 o, .int .i64 d, .int .i64 n, .int .i64 m, .int .i64 a, .int .i64 c, .int .i64 i] pc r)) w' := fun w' h => core_all rfl h
  have hst : ∀ w', rowAt w' (w.heap.size + 1 + 1 + 1) = some (efA r nx 0 0 false) → (stAt 25 (.pointer (some ⟨w.heap.size + 1 + 1 + 1, 0, none⟩)) (.agg (r.set t v).arr)).run Try.prog w' = .ok () (w'.setCells (w.heap.size + 1 + 1 + 1) 0 (r.set t v).arr.toList) := fun w' h => st_regs h
  have HEQ : Hid (efA r nx 0 0 false = efA r nx 0 0 false) := Lib.hid rfl
  generalize hCC : coA #[.int .i64 o, .int .i64 d, .int .i64 n, .int .i64 m, .int .i64 a, .int .i64 c, .int .i64 i] pc r = Cc at *
  generalize hEE : efA r nx 0 0 false = Ee at *
  have HEE := Lib.hid hEE
  clear hCC hEE HEQ
  go_region_held3 (fun w' => rowAt w' (w.heap.size + 1) = some r.arr ∧ rowAt w' w3.heap.size = some Cc) (first | exact ⟨setCells_far hRc n1 _ _, setCells_far hCc n2 _ _⟩ | exact ⟨hRc, hCc⟩ | exact ⟨hRb, hCb⟩ | exact ⟨hRa, hCa⟩ | exact ⟨hR, hC⟩) (first | (go_at_call 42; refine (HTG.out _).mono ?_; rintro e wa ⟨rfl, hba⟩; have hRa : rowAt wa (w.heap.size + 1) = some r.arr := rowAt_below hR hba rfl; have hCa : rowAt wa w3.heap.size = some Cc := rowAt_below hC hba rfl; have hEa := rowAt_below hE hba rfl; have hZa := rowAt_below hZ hba rfl; have HBa := Lib.hid (below_step HB5.out hba rfl rfl rfl rfl); clear hba) | (go_at_call 13; refine (set13 r t v _).mono ?_; rintro e wc ⟨rfl, hbc⟩; have hRc : rowAt wc (w.heap.size + 1) = some r.arr := rowAt_below hRb hbc rfl; have hCc : rowAt wc w3.heap.size = some Cc := rowAt_below hCb hbc rfl; have hEc := rowAt_below hEb hbc rfl; have hZc := rowAt_below hZb hbc rfl; have HBc := Lib.hid (below_step HBb.out hbc rfl rfl rfl rfl); clear hbc) | (go_at_call 81; refine (HFF.out _).mono ?_; rintro e wb ⟨rfl, hbb⟩; have hRb : rowAt wb (w.heap.size + 1) = some r.arr := rowAt_below hRa hbb rfl; have hCb : rowAt wb w3.heap.size = some Cc := rowAt_below hCa hbb rfl; have hEb := rowAt_below hEa hbb rfl; have hZb := rowAt_below hZa hbb rfl; have HBb := Lib.hid (below_step HBa.out hbb rfl rfl rfl rfl); clear hbb))
  have HEF : Hid (rowAt (wc.setCells (w.heap.size + 1 + 1 + 1) 0 (r.set t v).arr.toList) (w.heap.size + 3) = some (efA (r.set t v) nx 0 0 false)) := Lib.hid (st_regs_row (r := r) (by rw [HEE.out]; exact hEc))
  have HZF : Hid (rowAt (wc.setCells (w.heap.size + 1 + 1 + 1) 0 (r.set t v).arr.toList) (w.heap.size + 2) = some z40) := Lib.hid (setCells_far hZc n3 _ _)
  have HBF : Hid (Below w.heap.size w (wc.setCells (w.heap.size + 1 + 1 + 1) 0 (r.set t v).arr.toList)) := Lib.hid (grown_below HBc.out (setCells_grown _ _ _ _) (by omega))
  clear hR hC hE hZ hRa hCa hEa hZa HBa hRb hCb hEb hZb HBb hRc hCc hEc hZc HBc hl1 hl2 hst
  generalize wc.setCells (w.heap.size + 1 + 1 + 1) 0 (r.set t v).arr.toList = w8 at *
  go_wp2_with (first | (refine wpl_load rfl 38 _ rfl (w.heap.size + 3) 0 rfl (efA (r.set t v) nx 0 0 false) (ef_all HEF.out) ?_) | (refine wpl_store rfl 38 _ _ rfl (w.heap.size + 2) (efA (r.set t v) nx 0 0 false) z40 rfl rfl HZF.out (by rw [efA_size]; exact info38) (by rw [efA_size]; rfl) (efA_one _ _ _ _ _) ?_; intro w9 hrow9 hg9; have HR9 := Lib.hid hrow9; have HB9 := Lib.hid (grown_below HBF.out hg9 (by omega)); clear hrow9 hg9))
  obtain ⟨t9, ht9⟩ := rowAt_heap HR9.out
  refine bodyPost_ret (results_cell_row rfl _ _ (w.heap.size + 2) t9 (efA (r.set t v) nx 0 0 false) (0, 0) _ rfl ht9 Try.underlying38 rfl (by rw [efA_size]; exact info38)) rfl ⟨rfl, HB9.out⟩
end Go.Proofs.Ytpjfjdncdiemlaa
