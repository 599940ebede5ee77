import Derived.Test.YtpjfjdncdiemlaaRows
import Derived.WalkKit
import Derived.ProofKit
import Derived.OpenShut
import Derived.Deep.QuietTactic
import Derived.BigQuiet
import Derived.Outline
import Derived.WalkSmall
import Derived.WalkLawsBesides
import Derived.WalkSpells
import Derived.BigGuardPart
import Derived.RegionTactic
import Derived.Deep.RegionHeld3
import Derived.Lib.Hide
import Derived.Deep.MidRow
import Derived.Below
import Derived.Deep.RegionWith
import Derived.Test.YtpjfjdncdiemlaaSfF
import Derived.Test.YtpjfjdncdiemlaaSmC
import Derived.Test.YtpjfjdncdiemlaaSxK
import Derived.Deep.OwnRows
import Derived.Deep.AppendLies
import Derived.Laws.BitsAllLaws
import Derived.Laws.BitsLemmas
namespace Go.Proofs.Ytpjfjdncdiemlaa
open Go.ChangeShapes Go.WideShapes Go.ChangeAt Go.RowKit
set_option linter.unusedVariables false
attribute [local go_sem ↓] ld76 ld25 ld38 st25
attribute [local go_sem] rowAt_drew rowAt_drewN
theorem grown_set (w : World) (a : Addr) (u : Value) : w.grownBy (w.setCell a u) (some a.block) :=
  ⟨rfl, rfl, rfl, by simp, fun k _ hk => heap_setCell_other w a k u (fun e => hk (by rw [e]))⟩
theorem wpl_st25 {ops : Array Oper} {rest : List Oper} {o : Oper} {a : Act} {w : World} {Q : Exit → Act → World → Prop} (hgd : o.guard = none) (x y : Operand) (ho : o.op = .store 25 x y)
    (b : Nat) (r r' : Rg) (nx ad da : Int) (to : Bool) (hx : a.eval x = .pointer (some ⟨b, 0, none⟩)) (hy : a.eval y = .agg r'.arr) (hr : rowAt w b = some (efA r nx ad da to))
    (h : ∀ w', rowAt w' b = some (efA r' nx ad da to) → w.grownBy w' (some b) → wpList Try.prog ops Q rest (a.put o.dst undef) w') : wpList Try.prog ops Q (o :: rest) a w :=
  wpList_plain hgd fun _ hK => by
    have hs : (Instr.storeAt 25 (.pointer (some ⟨b, 0, none⟩)) (.agg r'.arr)).run Try.prog w = .ok () (w.setCells b 0 r'.arr.toList) := st_regs hr
    unfold Oper.wp execOp
    simp only [ho, hx, hy, Sem.run_bind, hs, Result.andThen_ok, Sem.run_pure]
    exact hK _ _ (h _ (st_regs_row hr) (setCells_grown _ _ _ _))
set_option maxRecDepth 100000 in
set_option maxHeartbeats 4000000 in
theorem do_w20 (d n m a c i pc v : Int) (r : Rg) (w : World) (hck : ∀ w, Calls Try.prog 17 #[.agg #[.int .i64 20, .int .i64 d, .int .i64 n, .int .i64 m, .int .i64 a, .int .i64 c, .int .i64 i]] w fun e w' => e = .returned (.int .i64 0) ∧ Below w.heap.size w w') (hdo : ∀ w, Calls Try.prog 41 #[.int .i64 20] w fun e w' => e = .returned (.iface 82 (Value.func (.func 60) #[] #[])) ∧ w' = w) (hf : ∀ w, Calls Try.prog 60 #[.agg (coA #[.int .i64 20, .int .i64 d, .int .i64 n, .int .i64 m, .int .i64 a, .int .i64 c, .int .i64 i] pc r)] w fun e w' => e = .returned (.int .u64 v) ∧ Below w.heap.size w w') :
    Calls Try.prog 20 #[.agg #[.int .i64 20, .int .i64 d, .int .i64 n, .int .i64 m, .int .i64 a, .int .i64 c, .int .i64 i], .int .u64 pc, .agg r.arr] w fun e w' => e = .returned (.agg (efA r v 0 0 false)) ∧ Below w.heap.size w w' := by
  have HCK := Lib.hid hck
  have HDO := Lib.hid hdo
  have HFF := Lib.hid hf
  obtain ⟨nx, hnx⟩ : ∃ nx, IntKind.u64.wrap (pc + 4) = nx := ⟨_, rfl⟩
  have t1 := ta82_79 60
  have t2 := ta82_80 60
  have t3 := ta82_82 60
  clear hck hdo hf
  have HI0 : Hid (InsAt (((w.alloc (.cells #[.int .i64 20, .int .i64 d, .int .i64 n, .int .i64 m, .int .i64 a, .int .i64 c, .int .i64 i] 32)).alloc (.cells r.arr 25)).alloc (.cells z40 38)) w.heap.size (.int .i64 20) (.int .i64 d) (.int .i64 n) (.int .i64 m) (.int .i64 a) (.int .i64 c) (.int .i64 i)) := Lib.hid (((InsAt.new _ _ _ _ _ _ _ _).past _).past _)
  have HR0 : Hid (rowAt (((w.alloc (.cells #[.int .i64 20, .int .i64 d, .int .i64 n, .int .i64 m, .int .i64 a, .int .i64 c, .int .i64 i] 32)).alloc (.cells r.arr 25)).alloc (.cells z40 38)) (w.heap.size + 1) = some r.arr) := Lib.hid (by have := rowAt_past (rowAt_new (w.alloc (.cells #[.int .i64 20, .int .i64 d, .int .i64 n, .int .i64 m, .int .i64 a, .int .i64 c, .int .i64 i] 32)) r.arr 25) (.cells z40 38); simpa using this)
  have HE0 : Hid (rowAt (((w.alloc (.cells #[.int .i64 20, .int .i64 d, .int .i64 n, .int .i64 m, .int .i64 a, .int .i64 c, .int .i64 i] 32)).alloc (.cells r.arr 25)).alloc (.cells z40 38)) (w.heap.size + 2) = some z40) := Lib.hid (by have := rowAt_new ((w.alloc (.cells #[.int .i64 20, .int .i64 d, .int .i64 n, .int .i64 m, .int .i64 a, .int .i64 c, .int .i64 i] 32)).alloc (.cells r.arr 25)) z40 38; simpa using this)
  have HB0 : Hid (Below w.heap.size w (((w.alloc (.cells #[.int .i64 20, .int .i64 d, .int .i64 n, .int .i64 m, .int .i64 a, .int .i64 c, .int .i64 i] 32)).alloc (.cells r.arr 25)).alloc (.cells z40 38))) := Lib.hid ((((Below.refl _ _).alloc (Nat.le_refl _) _).alloc (by simp) _).alloc (by simp; omega) _)
  have HI1 : Hid (InsAt ((((w.alloc (.cells #[.int .i64 20, .int .i64 d, .int .i64 n, .int .i64 m, .int .i64 a, .int .i64 c, .int .i64 i] 32)).alloc (.cells r.arr 25)).alloc (.cells z40 38)).alloc (.cells z40 38)) w.heap.size (.int .i64 20) (.int .i64 d) (.int .i64 n) (.int .i64 m) (.int .i64 a) (.int .i64 c) (.int .i64 i)) := Lib.hid (HI0.out.past _)
  have HR1 : Hid (rowAt ((((w.alloc (.cells #[.int .i64 20, .int .i64 d, .int .i64 n, .int .i64 m, .int .i64 a, .int .i64 c, .int .i64 i] 32)).alloc (.cells r.arr 25)).alloc (.cells z40 38)).alloc (.cells z40 38)) (w.heap.size + 1) = some r.arr) := Lib.hid (rowAt_past HR0.out _)
  have HE1 : Hid (rowAt ((((w.alloc (.cells #[.int .i64 20, .int .i64 d, .int .i64 n, .int .i64 m, .int .i64 a, .int .i64 c, .int .i64 i] 32)).alloc (.cells r.arr 25)).alloc (.cells z40 38)).alloc (.cells z40 38)) (w.heap.size + 2) = some z40) := Lib.hid (rowAt_past HE0.out _)
  have HZ1 : Hid (rowAt ((((w.alloc (.cells #[.int .i64 20, .int .i64 d, .int .i64 n, .int .i64 m, .int .i64 a, .int .i64 c, .int .i64 i] 32)).alloc (.cells r.arr 25)).alloc (.cells z40 38)).alloc (.cells z40 38)) (w.heap.size + 3) = some z40) := Lib.hid (by have := rowAt_new (((w.alloc (.cells #[.int .i64 20, .int .i64 d, .int .i64 n, .int .i64 m, .int .i64 a, .int .i64 c, .int .i64 i] 32)).alloc (.cells r.arr 25)).alloc (.cells z40 38)) z40 38; simpa using this)
  have HB1 : Hid (Below w.heap.size w ((((w.alloc (.cells #[.int .i64 20, .int .i64 d, .int .i64 n, .int .i64 m, .int .i64 a, .int .i64 c, .int .i64 i] 32)).alloc (.cells r.arr 25)).alloc (.cells z40 38)).alloc (.cells z40 38))) := Lib.hid (HB0.out.alloc HB0.out.size _)
  go_enter Try.func20, Try.ntmps20
  go_wp2_with (first | (refine wpl_load rfl 25 _ rfl (w.heap.size + 1) 0 rfl r.arr (reg_all HR0.out) ?_) | (refine wpl_build2 rfl 38 0 1 _ _ rfl (.agg r.arr) (.int .u64 nx) rfl rfl _ (built38 r nx) ?_) | (refine wpl_store rfl 38 _ _ rfl (w.heap.size + 3) (efA r nx 0 0 false) z40 rfl rfl HZ1.out (by rw [efA_size]; exact info38) (by rw [efA_size]; rfl) (efA_one _ _ _ _ _) ?_; intro w2 hrow2 hg2; have HE2 := Lib.hid hrow2; have HI2 := Lib.hid (HI1.out.far hg2 (by omega)); have HR2 := Lib.hid (rowAt_grown HR1.out hg2 (by omega)); have HZ2 := Lib.hid (rowAt_grown HE1.out hg2 (by omega)); have HB2 := Lib.hid (grown_below HB1.out hg2 (by omega)); clear hrow2 hg2; obtain ⟨hl, i0, i1, i2, i3, i4, i5, i6⟩ := HI2.out))
  refine (HCK.out _).mono ?_
  rintro e w3 ⟨rfl, hb3⟩
  have HI3 := Lib.hid (HI2.out.below' hb3 rfl)
  have HR3 := Lib.hid (rowAt_below HR2.out hb3 rfl)
  have HE3 := Lib.hid (rowAt_below HE2.out hb3 rfl)
  have HZ3 := Lib.hid (rowAt_below HZ2.out hb3 rfl)
  have HB3 := Lib.hid (HB2.out.trans (hb3.mono HB2.out.size))
  have hq3 : w.heap.size + 3 < w3.heap.size := rowAt_lt HE3.out
  clear hb3 HI2 HR2 HE2 HZ2 HB2 HI1 HR1 HE1 HZ1 HB1 HI0 HR0 HE0 HB0 hl i0 i1 i2 i3 i4 i5 i6
  obtain ⟨hl, i0, i1, i2, i3, i4, i5, i6⟩ := HI3.out
  obtain ⟨q, hq⟩ : ∃ q, q = w3.heap.size := ⟨_, rfl⟩
  have HQ3 : Hid (rowAt (w3.alloc (.cells z44 76)) w3.heap.size = some z44) := Lib.hid (rowAt_new w3 z44 76)
  have HI4 := Lib.hid (HI3.out.past (.cells z44 76))
  have HR4 := Lib.hid (rowAt_past HR3.out (.cells z44 76))
  have HE4 := Lib.hid (rowAt_past HE3.out (.cells z44 76))
  have HZ4 := Lib.hid (rowAt_past HZ3.out (.cells z44 76))
  have HB4 := Lib.hid (HB3.out.alloc HB3.out.size (.cells z44 76))
  have HQN := Lib.hid hq
  clear hq
  go_wp2_with (first | (refine wpl_load rfl 25 _ rfl (w.heap.size + 1) 0 rfl r.arr (reg_all HR3.out) ?_) | (refine wpl_build3 rfl 76 0 1 2 _ _ _ rfl (.agg #[.int .i64 20, .int .i64 d, .int .i64 n, .int .i64 m, .int .i64 a, .int .i64 c, .int .i64 i]) (.int .u64 pc) (.agg r.arr) rfl rfl rfl _ (built76 20 d n m a c i pc r) ?_) | (refine wpl_store rfl 76 _ _ rfl w3.heap.size (coA #[.int .i64 20, .int .i64 d, .int .i64 n, .int .i64 m, .int .i64 a, .int .i64 c, .int .i64 i] pc r) z44 rfl rfl HQ3.out (by rw [coA_size rfl]; exact info76) (by rw [coA_size rfl]; rfl) (coA_one _ _ _ _ _ _ _ _ _) ?_; intro w4 hrow4 hg4; have HC5 := Lib.hid hrow4; have HI5 := Lib.hid (HI4.out.far hg4 (by omega)); have HR5 := Lib.hid (rowAt_grown HR4.out hg4 (by omega)); have HE5 := Lib.hid (rowAt_grown HE4.out hg4 (by omega)); have HZ5 := Lib.hid (rowAt_grown HZ4.out hg4 (by omega)); have HB5 := Lib.hid (grown_below HB4.out hg4 (by omega)); clear hrow4 hg4 hl i0 i1 i2 i3 i4 i5 i6; obtain ⟨hl, i0, i1, i2, i3, i4, i5, i6⟩ := HI5.out) | (go_at_call 41; refine (HDO.out _).mono ?_; rintro e w' ⟨rfl, rfl⟩) | (refine wpl_load rfl 76 _ rfl w3.heap.size 0 rfl (coA #[.int .i64 20, .int .i64 d, .int .i64 n, .int .i64 m, .int .i64 a, .int .i64 c, .int .i64 i] pc r) (core_all rfl HC5.out) ?_))
  clear hl i0 i1 i2 i3 i4 i5 i6 HI4 HR4 HE4 HZ4 HB4 HI3 HR3 HE3 HZ3 HB3 HQ3 t1 t2 t3
  refine (HFF.out _).mono ?_
  rintro e wa ⟨rfl, hba⟩
  have HIa := Lib.hid (HI5.out.below' hba rfl)
  have HRa := Lib.hid (rowAt_below HR5.out hba rfl)
  have HEa := Lib.hid (rowAt_below HE5.out hba rfl)
  have HZa := Lib.hid (rowAt_below HZ5.out hba rfl)
  have HBa := Lib.hid (below_step HB5.out hba rfl rfl rfl rfl)
  clear hba
  have c36 := (rowAt_cell HEa.out 36).trans (efA_36 _ _ _ _ _)
  have f36 := rowAt_frz HEa.out 36
  have HEF : Hid (rowAt (wa.setCell ⟨w.heap.size + 3, 36, none⟩ (.int .u64 v)) (w.heap.size + 3) = some (efA r v 0 0 false)) := Lib.hid (by rw [← efA_next r nx 0 0 v false]; exact rowAt_set HEa.out _ _)
  have HRF : Hid (rowAt (wa.setCell ⟨w.heap.size + 3, 36, none⟩ (.int .u64 v)) (w.heap.size + 1) = some r.arr) := Lib.hid (rowAt_set_far HRa.out (by omega) _ _)
  have HZF : Hid (rowAt (wa.setCell ⟨w.heap.size + 3, 36, none⟩ (.int .u64 v)) (w.heap.size + 2) = some z40) := Lib.hid (rowAt_set_far HZa.out (by omega) _ _)
  have HIF : Hid (InsAt (wa.setCell ⟨w.heap.size + 3, 36, none⟩ (.int .u64 v)) w.heap.size (.int .i64 20) (.int .i64 d) (.int .i64 n) (.int .i64 m) (.int .i64 a) (.int .i64 c) (.int .i64 i)) := Lib.hid (HIa.out.far (grown_set _ _ _) (by show w.heap.size ≠ w.heap.size + 3; omega))
  have HBF : Hid (Below w.heap.size w (wa.setCell ⟨w.heap.size + 3, 36, none⟩ (.int .u64 v))) := Lib.hid (HBa.out.setCell (p := ⟨w.heap.size + 3, 36, none⟩) (by show w.heap.size ≤ w.heap.size + 3; omega) _)
  obtain ⟨hl, i0, i1, i2, i3, i4, i5, i6⟩ := HIF.out
  clear HI5 HR5 HE5 HZ5 HB5 HC5 HIa HRa HEa HZa HBa
  go_wp2_with (first | (refine wpl_load rfl 38 _ rfl (w.heap.size + 3) 0 rfl (efA r v 0 0 false) (ef_all HEF.out) ?_) | (refine wpl_store rfl 38 _ _ rfl (w.heap.size + 2) (efA r v 0 0 false) z40 rfl rfl HZF.out (by rw [efA_size]; exact info38) (by rw [efA_size]; rfl) (efA_one _ _ _ _ _) ?_; intro w9 hrow9 hg9; have HR9 := Lib.hid hrow9; have HB9 := Lib.hid (grown_below HBF.out hg9 (by omega)); clear hrow9 hg9))
  obtain ⟨t9, ht9⟩ := rowAt_heap HR9.out
  refine bodyPost_ret (results_cell_row rfl _ _ (w.heap.size + 2) t9 (efA r v 0 0 false) (0, 0) _ rfl ht9 Try.underlying38 rfl (by rw [efA_size]; exact info38)) rfl ⟨rfl, HB9.out⟩
set_option maxRecDepth 100000 in
set_option maxHeartbeats 4000000 in
theorem do_w21 (d n m a c i pc v : Int) (r : Rg) (w : World) (hck : ∀ w, Calls Try.prog 17 #[.agg #[.int .i64 21, .int .i64 d, .int .i64 n, .int .i64 m, .int .i64 a, .int .i64 c, .int .i64 i]] w fun e w' => e = .returned (.int .i64 0) ∧ Below w.heap.size w w') (hdo : ∀ w, Calls Try.prog 41 #[.int .i64 21] w fun e w' => e = .returned (.iface 82 (Value.func (.func 61) #[] #[])) ∧ w' = w) (hf : ∀ w, Calls Try.prog 61 #[.agg (coA #[.int .i64 21, .int .i64 d, .int .i64 n, .int .i64 m, .int .i64 a, .int .i64 c, .int .i64 i] pc r)] w fun e w' => e = .returned (.int .u64 v) ∧ Below w.heap.size w w') :
    Calls Try.prog 20 #[.agg #[.int .i64 21, .int .i64 d, .int .i64 n, .int .i64 m, .int .i64 a, .int .i64 c, .int .i64 i], .int .u64 pc, .agg r.arr] w fun e w' => e = .returned (.agg (efA r v 0 0 false)) ∧ Below w.heap.size w w' := by
  have HCK := Lib.hid hck
  have HDO := Lib.hid hdo
  have HFF := Lib.hid hf
  obtain ⟨nx, hnx⟩ : ∃ nx, IntKind.u64.wrap (pc + 4) = nx := ⟨_, rfl⟩
  have t1 := ta82_79 61
  have t2 := ta82_80 61
  have t3 := ta82_82 61
  clear hck hdo hf
  have HI0 : Hid (InsAt (((w.alloc (.cells #[.int .i64 21, .int .i64 d, .int .i64 n, .int .i64 m, .int .i64 a, .int .i64 c, .int .i64 i] 32)).alloc (.cells r.arr 25)).alloc (.cells z40 38)) w.heap.size (.int .i64 21) (.int .i64 d) (.int .i64 n) (.int .i64 m) (.int .i64 a) (.int .i64 c) (.int .i64 i)) := Lib.hid (((InsAt.new _ _ _ _ _ _ _ _).past _).past _)
  have HR0 : Hid (rowAt (((w.alloc (.cells #[.int .i64 21, .int .i64 d, .int .i64 n, .int .i64 m, .int .i64 a, .int .i64 c, .int .i64 i] 32)).alloc (.cells r.arr 25)).alloc (.cells z40 38)) (w.heap.size + 1) = some r.arr) := Lib.hid (by have := rowAt_past (rowAt_new (w.alloc (.cells #[.int .i64 21, .int .i64 d, .int .i64 n, .int .i64 m, .int .i64 a, .int .i64 c, .int .i64 i] 32)) r.arr 25) (.cells z40 38); simpa using this)
  have HE0 : Hid (rowAt (((w.alloc (.cells #[.int .i64 21, .int .i64 d, .int .i64 n, .int .i64 m, .int .i64 a, .int .i64 c, .int .i64 i] 32)).alloc (.cells r.arr 25)).alloc (.cells z40 38)) (w.heap.size + 2) = some z40) := Lib.hid (by have := rowAt_new ((w.alloc (.cells #[.int .i64 21, .int .i64 d, .int .i64 n, .int .i64 m, .int .i64 a, .int .i64 c, .int .i64 i] 32)).alloc (.cells r.arr 25)) z40 38; simpa using this)
  have HB0 : Hid (Below w.heap.size w (((w.alloc (.cells #[.int .i64 21, .int .i64 d, .int .i64 n, .int .i64 m, .int .i64 a, .int .i64 c, .int .i64 i] 32)).alloc (.cells r.arr 25)).alloc (.cells z40 38))) := Lib.hid ((((Below.refl _ _).alloc (Nat.le_refl _) _).alloc (by simp) _).alloc (by simp; omega) _)
  have HI1 : Hid (InsAt ((((w.alloc (.cells #[.int .i64 21, .int .i64 d, .int .i64 n, .int .i64 m, .int .i64 a, .int .i64 c, .int .i64 i] 32)).alloc (.cells r.arr 25)).alloc (.cells z40 38)).alloc (.cells z40 38)) w.heap.size (.int .i64 21) (.int .i64 d) (.int .i64 n) (.int .i64 m) (.int .i64 a) (.int .i64 c) (.int .i64 i)) := Lib.hid (HI0.out.past _)
  have HR1 : Hid (rowAt ((((w.alloc (.cells #[.int .i64 21, .int .i64 d, .int .i64 n, .int .i64 m, .int .i64 a, .int .i64 c, .int .i64 i] 32)).alloc (.cells r.arr 25)).alloc (.cells z40 38)).alloc (.cells z40 38)) (w.heap.size + 1) = some r.arr) := Lib.hid (rowAt_past HR0.out _)
  have HE1 : Hid (rowAt ((((w.alloc (.cells #[.int .i64 21, .int .i64 d, .int .i64 n, .int .i64 m, .int .i64 a, .int .i64 c, .int .i64 i] 32)).alloc (.cells r.arr 25)).alloc (.cells z40 38)).alloc (.cells z40 38)) (w.heap.size + 2) = some z40) := Lib.hid (rowAt_past HE0.out _)
  have HZ1 : Hid (rowAt ((((w.alloc (.cells #[.int .i64 21, .int .i64 d, .int .i64 n, .int .i64 m, .int .i64 a, .int .i64 c, .int .i64 i] 32)).alloc (.cells r.arr 25)).alloc (.cells z40 38)).alloc (.cells z40 38)) (w.heap.size + 3) = some z40) := Lib.hid (by have := rowAt_new (((w.alloc (.cells #[.int .i64 21, .int .i64 d, .int .i64 n, .int .i64 m, .int .i64 a, .int .i64 c, .int .i64 i] 32)).alloc (.cells r.arr 25)).alloc (.cells z40 38)) z40 38; simpa using this)
  have HB1 : Hid (Below w.heap.size w ((((w.alloc (.cells #[.int .i64 21, .int .i64 d, .int .i64 n, .int .i64 m, .int .i64 a, .int .i64 c, .int .i64 i] 32)).alloc (.cells r.arr 25)).alloc (.cells z40 38)).alloc (.cells z40 38))) := Lib.hid (HB0.out.alloc HB0.out.size _)
  go_enter Try.func20, Try.ntmps20
  go_wp2_with (first | (refine wpl_load rfl 25 _ rfl (w.heap.size + 1) 0 rfl r.arr (reg_all HR0.out) ?_) | (refine wpl_build2 rfl 38 0 1 _ _ rfl (.agg r.arr) (.int .u64 nx) rfl rfl _ (built38 r nx) ?_) | (refine wpl_store rfl 38 _ _ rfl (w.heap.size + 3) (efA r nx 0 0 false) z40 rfl rfl HZ1.out (by rw [efA_size]; exact info38) (by rw [efA_size]; rfl) (efA_one _ _ _ _ _) ?_; intro w2 hrow2 hg2; have HE2 := Lib.hid hrow2; have HI2 := Lib.hid (HI1.out.far hg2 (by omega)); have HR2 := Lib.hid (rowAt_grown HR1.out hg2 (by omega)); have HZ2 := Lib.hid (rowAt_grown HE1.out hg2 (by omega)); have HB2 := Lib.hid (grown_below HB1.out hg2 (by omega)); clear hrow2 hg2; obtain ⟨hl, i0, i1, i2, i3, i4, i5, i6⟩ := HI2.out))
  refine (HCK.out _).mono ?_
  rintro e w3 ⟨rfl, hb3⟩
  have HI3 := Lib.hid (HI2.out.below' hb3 rfl)
  have HR3 := Lib.hid (rowAt_below HR2.out hb3 rfl)
  have HE3 := Lib.hid (rowAt_below HE2.out hb3 rfl)
  have HZ3 := Lib.hid (rowAt_below HZ2.out hb3 rfl)
  have HB3 := Lib.hid (HB2.out.trans (hb3.mono HB2.out.size))
  have hq3 : w.heap.size + 3 < w3.heap.size := rowAt_lt HE3.out
  clear hb3 HI2 HR2 HE2 HZ2 HB2 HI1 HR1 HE1 HZ1 HB1 HI0 HR0 HE0 HB0 hl i0 i1 i2 i3 i4 i5 i6
  obtain ⟨hl, i0, i1, i2, i3, i4, i5, i6⟩ := HI3.out
  obtain ⟨q, hq⟩ : ∃ q, q = w3.heap.size := ⟨_, rfl⟩
  have HQ3 : Hid (rowAt (w3.alloc (.cells z44 76)) w3.heap.size = some z44) := Lib.hid (rowAt_new w3 z44 76)
  have HI4 := Lib.hid (HI3.out.past (.cells z44 76))
  have HR4 := Lib.hid (rowAt_past HR3.out (.cells z44 76))
  have HE4 := Lib.hid (rowAt_past HE3.out (.cells z44 76))
  have HZ4 := Lib.hid (rowAt_past HZ3.out (.cells z44 76))
  have HB4 := Lib.hid (HB3.out.alloc HB3.out.size (.cells z44 76))
  have HQN := Lib.hid hq
  clear hq
  go_wp2_with (first | (refine wpl_load rfl 25 _ rfl (w.heap.size + 1) 0 rfl r.arr (reg_all HR3.out) ?_) | (refine wpl_build3 rfl 76 0 1 2 _ _ _ rfl (.agg #[.int .i64 21, .int .i64 d, .int .i64 n, .int .i64 m, .int .i64 a, .int .i64 c, .int .i64 i]) (.int .u64 pc) (.agg r.arr) rfl rfl rfl _ (built76 21 d n m a c i pc r) ?_) | (refine wpl_store rfl 76 _ _ rfl w3.heap.size (coA #[.int .i64 21, .int .i64 d, .int .i64 n, .int .i64 m, .int .i64 a, .int .i64 c, .int .i64 i] pc r) z44 rfl rfl HQ3.out (by rw [coA_size rfl]; exact info76) (by rw [coA_size rfl]; rfl) (coA_one _ _ _ _ _ _ _ _ _) ?_; intro w4 hrow4 hg4; have HC5 := Lib.hid hrow4; have HI5 := Lib.hid (HI4.out.far hg4 (by omega)); have HR5 := Lib.hid (rowAt_grown HR4.out hg4 (by omega)); have HE5 := Lib.hid (rowAt_grown HE4.out hg4 (by omega)); have HZ5 := Lib.hid (rowAt_grown HZ4.out hg4 (by omega)); have HB5 := Lib.hid (grown_below HB4.out hg4 (by omega)); clear hrow4 hg4 hl i0 i1 i2 i3 i4 i5 i6; obtain ⟨hl, i0, i1, i2, i3, i4, i5, i6⟩ := HI5.out) | (go_at_call 41; refine (HDO.out _).mono ?_; rintro e w' ⟨rfl, rfl⟩) | (refine wpl_load rfl 76 _ rfl w3.heap.size 0 rfl (coA #[.int .i64 21, .int .i64 d, .int .i64 n, .int .i64 m, .int .i64 a, .int .i64 c, .int .i64 i] pc r) (core_all rfl HC5.out) ?_))
  clear hl i0 i1 i2 i3 i4 i5 i6 HI4 HR4 HE4 HZ4 HB4 HI3 HR3 HE3 HZ3 HB3 HQ3 t1 t2 t3
  refine (HFF.out _).mono ?_
  rintro e wa ⟨rfl, hba⟩
  have HIa := Lib.hid (HI5.out.below' hba rfl)
  have HRa := Lib.hid (rowAt_below HR5.out hba rfl)
  have HEa := Lib.hid (rowAt_below HE5.out hba rfl)
  have HZa := Lib.hid (rowAt_below HZ5.out hba rfl)
  have HBa := Lib.hid (below_step HB5.out hba rfl rfl rfl rfl)
  clear hba
  have c36 := (rowAt_cell HEa.out 36).trans (efA_36 _ _ _ _ _)
  have f36 := rowAt_frz HEa.out 36
  have HEF : Hid (rowAt (wa.setCell ⟨w.heap.size + 3, 36, none⟩ (.int .u64 v)) (w.heap.size + 3) = some (efA r v 0 0 false)) := Lib.hid (by rw [← efA_next r nx 0 0 v false]; exact rowAt_set HEa.out _ _)
  have HRF : Hid (rowAt (wa.setCell ⟨w.heap.size + 3, 36, none⟩ (.int .u64 v)) (w.heap.size + 1) = some r.arr) := Lib.hid (rowAt_set_far HRa.out (by omega) _ _)
  have HZF : Hid (rowAt (wa.setCell ⟨w.heap.size + 3, 36, none⟩ (.int .u64 v)) (w.heap.size + 2) = some z40) := Lib.hid (rowAt_set_far HZa.out (by omega) _ _)
  have HIF : Hid (InsAt (wa.setCell ⟨w.heap.size + 3, 36, none⟩ (.int .u64 v)) w.heap.size (.int .i64 21) (.int .i64 d) (.int .i64 n) (.int .i64 m) (.int .i64 a) (.int .i64 c) (.int .i64 i)) := Lib.hid (HIa.out.far (grown_set _ _ _) (by show w.heap.size ≠ w.heap.size + 3; omega))
  have HBF : Hid (Below w.heap.size w (wa.setCell ⟨w.heap.size + 3, 36, none⟩ (.int .u64 v))) := Lib.hid (HBa.out.setCell (p := ⟨w.heap.size + 3, 36, none⟩) (by show w.heap.size ≤ w.heap.size + 3; omega) _)
  obtain ⟨hl, i0, i1, i2, i3, i4, i5, i6⟩ := HIF.out
  clear HI5 HR5 HE5 HZ5 HB5 HC5 HIa HRa HEa HZa HBa
  go_wp2_with (first | (refine wpl_load rfl 38 _ rfl (w.heap.size + 3) 0 rfl (efA r v 0 0 false) (ef_all HEF.out) ?_) | (refine wpl_store rfl 38 _ _ rfl (w.heap.size + 2) (efA r v 0 0 false) z40 rfl rfl HZF.out (by rw [efA_size]; exact info38) (by rw [efA_size]; rfl) (efA_one _ _ _ _ _) ?_; intro w9 hrow9 hg9; have HR9 := Lib.hid hrow9; have HB9 := Lib.hid (grown_below HBF.out hg9 (by omega)); clear hrow9 hg9))
  obtain ⟨t9, ht9⟩ := rowAt_heap HR9.out
  refine bodyPost_ret (results_cell_row rfl _ _ (w.heap.size + 2) t9 (efA r v 0 0 false) (0, 0) _ rfl ht9 Try.underlying38 rfl (by rw [efA_size]; exact info38)) rfl ⟨rfl, HB9.out⟩
set_option maxRecDepth 100000 in
set_option maxHeartbeats 4000000 in
theorem do_w22 (d n m a c i pc v : Int) (r : Rg) (w : World) (hck : ∀ w, Calls Try.prog 17 #[.agg #[.int .i64 22, .int .i64 d, .int .i64 n, .int .i64 m, .int .i64 a, .int .i64 c, .int .i64 i]] w fun e w' => e = .returned (.int .i64 0) ∧ Below w.heap.size w w') (hdo : ∀ w, Calls Try.prog 41 #[.int .i64 22] w fun e w' => e = .returned (.iface 82 (Value.func (.func 62) #[] #[])) ∧ w' = w) (hf : ∀ w, Calls Try.prog 62 #[.agg (coA #[.int .i64 22, .int .i64 d, .int .i64 n, .int .i64 m, .int .i64 a, .int .i64 c, .int .i64 i] pc r)] w fun e w' => e = .returned (.int .u64 v) ∧ Below w.heap.size w w') :
    Calls Try.prog 20 #[.agg #[.int .i64 22, .int .i64 d, .int .i64 n, .int .i64 m, .int .i64 a, .int .i64 c, .int .i64 i], .int .u64 pc, .agg r.arr] w fun e w' => e = .returned (.agg (efA r v 0 0 false)) ∧ Below w.heap.size w w' := by
  have HCK := Lib.hid hck
  have HDO := Lib.hid hdo
  have HFF := Lib.hid hf
  obtain ⟨nx, hnx⟩ : ∃ nx, IntKind.u64.wrap (pc + 4) = nx := ⟨_, rfl⟩
  have t1 := ta82_79 62
  have t2 := ta82_80 62
  have t3 := ta82_82 62
  clear hck hdo hf
  have HI0 : Hid (InsAt (((w.alloc (.cells #[.int .i64 22, .int .i64 d, .int .i64 n, .int .i64 m, .int .i64 a, .int .i64 c, .int .i64 i] 32)).alloc (.cells r.arr 25)).alloc (.cells z40 38)) w.heap.size (.int .i64 22) (.int .i64 d) (.int .i64 n) (.int .i64 m) (.int .i64 a) (.int .i64 c) (.int .i64 i)) := Lib.hid (((InsAt.new _ _ _ _ _ _ _ _).past _).past _)
  have HR0 : Hid (rowAt (((w.alloc (.cells #[.int .i64 22, .int .i64 d, .int .i64 n, .int .i64 m, .int .i64 a, .int .i64 c, .int .i64 i] 32)).alloc (.cells r.arr 25)).alloc (.cells z40 38)) (w.heap.size + 1) = some r.arr) := Lib.hid (by have := rowAt_past (rowAt_new (w.alloc (.cells #[.int .i64 22, .int .i64 d, .int .i64 n, .int .i64 m, .int .i64 a, .int .i64 c, .int .i64 i] 32)) r.arr 25) (.cells z40 38); simpa using this)
  have HE0 : Hid (rowAt (((w.alloc (.cells #[.int .i64 22, .int .i64 d, .int .i64 n, .int .i64 m, .int .i64 a, .int .i64 c, .int .i64 i] 32)).alloc (.cells r.arr 25)).alloc (.cells z40 38)) (w.heap.size + 2) = some z40) := Lib.hid (by have := rowAt_new ((w.alloc (.cells #[.int .i64 22, .int .i64 d, .int .i64 n, .int .i64 m, .int .i64 a, .int .i64 c, .int .i64 i] 32)).alloc (.cells r.arr 25)) z40 38; simpa using this)
  have HB0 : Hid (Below w.heap.size w (((w.alloc (.cells #[.int .i64 22, .int .i64 d, .int .i64 n, .int .i64 m, .int .i64 a, .int .i64 c, .int .i64 i] 32)).alloc (.cells r.arr 25)).alloc (.cells z40 38))) := Lib.hid ((((Below.refl _ _).alloc (Nat.le_refl _) _).alloc (by simp) _).alloc (by simp; omega) _)
  have HI1 : Hid (InsAt ((((w.alloc (.cells #[.int .i64 22, .int .i64 d, .int .i64 n, .int .i64 m, .int .i64 a, .int .i64 c, .int .i64 i] 32)).alloc (.cells r.arr 25)).alloc (.cells z40 38)).alloc (.cells z40 38)) w.heap.size (.int .i64 22) (.int .i64 d) (.int .i64 n) (.int .i64 m) (.int .i64 a) (.int .i64 c) (.int .i64 i)) := Lib.hid (HI0.out.past _)
  have HR1 : Hid (rowAt ((((w.alloc (.cells #[.int .i64 22, .int .i64 d, .int .i64 n, .int .i64 m, .int .i64 a, .int .i64 c, .int .i64 i] 32)).alloc (.cells r.arr 25)).alloc (.cells z40 38)).alloc (.cells z40 38)) (w.heap.size + 1) = some r.arr) := Lib.hid (rowAt_past HR0.out _)
  have HE1 : Hid (rowAt ((((w.alloc (.cells #[.int .i64 22, .int .i64 d, .int .i64 n, .int .i64 m, .int .i64 a, .int .i64 c, .int .i64 i] 32)).alloc (.cells r.arr 25)).alloc (.cells z40 38)).alloc (.cells z40 38)) (w.heap.size + 2) = some z40) := Lib.hid (rowAt_past HE0.out _)
  have HZ1 : Hid (rowAt ((((w.alloc (.cells #[.int .i64 22, .int .i64 d, .int .i64 n, .int .i64 m, .int .i64 a, .int .i64 c, .int .i64 i] 32)).alloc (.cells r.arr 25)).alloc (.cells z40 38)).alloc (.cells z40 38)) (w.heap.size + 3) = some z40) := Lib.hid (by have := rowAt_new (((w.alloc (.cells #[.int .i64 22, .int .i64 d, .int .i64 n, .int .i64 m, .int .i64 a, .int .i64 c, .int .i64 i] 32)).alloc (.cells r.arr 25)).alloc (.cells z40 38)) z40 38; simpa using this)
  have HB1 : Hid (Below w.heap.size w ((((w.alloc (.cells #[.int .i64 22, .int .i64 d, .int .i64 n, .int .i64 m, .int .i64 a, .int .i64 c, .int .i64 i] 32)).alloc (.cells r.arr 25)).alloc (.cells z40 38)).alloc (.cells z40 38))) := Lib.hid (HB0.out.alloc HB0.out.size _)
  go_enter Try.func20, Try.ntmps20
  go_wp2_with (first | (refine wpl_load rfl 25 _ rfl (w.heap.size + 1) 0 rfl r.arr (reg_all HR0.out) ?_) | (refine wpl_build2 rfl 38 0 1 _ _ rfl (.agg r.arr) (.int .u64 nx) rfl rfl _ (built38 r nx) ?_) | (refine wpl_store rfl 38 _ _ rfl (w.heap.size + 3) (efA r nx 0 0 false) z40 rfl rfl HZ1.out (by rw [efA_size]; exact info38) (by rw [efA_size]; rfl) (efA_one _ _ _ _ _) ?_; intro w2 hrow2 hg2; have HE2 := Lib.hid hrow2; have HI2 := Lib.hid (HI1.out.far hg2 (by omega)); have HR2 := Lib.hid (rowAt_grown HR1.out hg2 (by omega)); have HZ2 := Lib.hid (rowAt_grown HE1.out hg2 (by omega)); have HB2 := Lib.hid (grown_below HB1.out hg2 (by omega)); clear hrow2 hg2; obtain ⟨hl, i0, i1, i2, i3, i4, i5, i6⟩ := HI2.out))
  refine (HCK.out _).mono ?_
  rintro e w3 ⟨rfl, hb3⟩
  have HI3 := Lib.hid (HI2.out.below' hb3 rfl)
  have HR3 := Lib.hid (rowAt_below HR2.out hb3 rfl)
  have HE3 := Lib.hid (rowAt_below HE2.out hb3 rfl)
  have HZ3 := Lib.hid (rowAt_below HZ2.out hb3 rfl)
  have HB3 := Lib.hid (HB2.out.trans (hb3.mono HB2.out.size))
  have hq3 : w.heap.size + 3 < w3.heap.size := rowAt_lt HE3.out
  clear hb3 HI2 HR2 HE2 HZ2 HB2 HI1 HR1 HE1 HZ1 HB1 HI0 HR0 HE0 HB0 hl i0 i1 i2 i3 i4 i5 i6
  obtain ⟨hl, i0, i1, i2, i3, i4, i5, i6⟩ := HI3.out
  obtain ⟨q, hq⟩ : ∃ q, q = w3.heap.size := ⟨_, rfl⟩
  have HQ3 : Hid (rowAt (w3.alloc (.cells z44 76)) w3.heap.size = some z44) := Lib.hid (rowAt_new w3 z44 76)
  have HI4 := Lib.hid (HI3.out.past (.cells z44 76))
  have HR4 := Lib.hid (rowAt_past HR3.out (.cells z44 76))
  have HE4 := Lib.hid (rowAt_past HE3.out (.cells z44 76))
  have HZ4 := Lib.hid (rowAt_past HZ3.out (.cells z44 76))
  have HB4 := Lib.hid (HB3.out.alloc HB3.out.size (.cells z44 76))
  have HQN := Lib.hid hq
  clear hq
  go_wp2_with (first | (refine wpl_load rfl 25 _ rfl (w.heap.size + 1) 0 rfl r.arr (reg_all HR3.out) ?_) | (refine wpl_build3 rfl 76 0 1 2 _ _ _ rfl (.agg #[.int .i64 22, .int .i64 d, .int .i64 n, .int .i64 m, .int .i64 a, .int .i64 c, .int .i64 i]) (.int .u64 pc) (.agg r.arr) rfl rfl rfl _ (built76 22 d n m a c i pc r) ?_) | (refine wpl_store rfl 76 _ _ rfl w3.heap.size (coA #[.int .i64 22, .int .i64 d, .int .i64 n, .int .i64 m, .int .i64 a, .int .i64 c, .int .i64 i] pc r) z44 rfl rfl HQ3.out (by rw [coA_size rfl]; exact info76) (by rw [coA_size rfl]; rfl) (coA_one _ _ _ _ _ _ _ _ _) ?_; intro w4 hrow4 hg4; have HC5 := Lib.hid hrow4; have HI5 := Lib.hid (HI4.out.far hg4 (by omega)); have HR5 := Lib.hid (rowAt_grown HR4.out hg4 (by omega)); have HE5 := Lib.hid (rowAt_grown HE4.out hg4 (by omega)); have HZ5 := Lib.hid (rowAt_grown HZ4.out hg4 (by omega)); have HB5 := Lib.hid (grown_below HB4.out hg4 (by omega)); clear hrow4 hg4 hl i0 i1 i2 i3 i4 i5 i6; obtain ⟨hl, i0, i1, i2, i3, i4, i5, i6⟩ := HI5.out) | (go_at_call 41; refine (HDO.out _).mono ?_; rintro e w' ⟨rfl, rfl⟩) | (refine wpl_load rfl 76 _ rfl w3.heap.size 0 rfl (coA #[.int .i64 22, .int .i64 d, .int .i64 n, .int .i64 m, .int .i64 a, .int .i64 c, .int .i64 i] pc r) (core_all rfl HC5.out) ?_))
  clear hl i0 i1 i2 i3 i4 i5 i6 HI4 HR4 HE4 HZ4 HB4 HI3 HR3 HE3 HZ3 HB3 HQ3 t1 t2 t3
  refine (HFF.out _).mono ?_
  rintro e wa ⟨rfl, hba⟩
  have HIa := Lib.hid (HI5.out.below' hba rfl)
  have HRa := Lib.hid (rowAt_below HR5.out hba rfl)
  have HEa := Lib.hid (rowAt_below HE5.out hba rfl)
  have HZa := Lib.hid (rowAt_below HZ5.out hba rfl)
  have HBa := Lib.hid (below_step HB5.out hba rfl rfl rfl rfl)
  clear hba
  have c36 := (rowAt_cell HEa.out 36).trans (efA_36 _ _ _ _ _)
  have f36 := rowAt_frz HEa.out 36
  have HEF : Hid (rowAt (wa.setCell ⟨w.heap.size + 3, 36, none⟩ (.int .u64 v)) (w.heap.size + 3) = some (efA r v 0 0 false)) := Lib.hid (by rw [← efA_next r nx 0 0 v false]; exact rowAt_set HEa.out _ _)
  have HRF : Hid (rowAt (wa.setCell ⟨w.heap.size + 3, 36, none⟩ (.int .u64 v)) (w.heap.size + 1) = some r.arr) := Lib.hid (rowAt_set_far HRa.out (by omega) _ _)
  have HZF : Hid (rowAt (wa.setCell ⟨w.heap.size + 3, 36, none⟩ (.int .u64 v)) (w.heap.size + 2) = some z40) := Lib.hid (rowAt_set_far HZa.out (by omega) _ _)
  have HIF : Hid (InsAt (wa.setCell ⟨w.heap.size + 3, 36, none⟩ (.int .u64 v)) w.heap.size (.int .i64 22) (.int .i64 d) (.int .i64 n) (.int .i64 m) (.int .i64 a) (.int .i64 c) (.int .i64 i)) := Lib.hid (HIa.out.far (grown_set _ _ _) (by show w.heap.size ≠ w.heap.size + 3; omega))
  have HBF : Hid (Below w.heap.size w (wa.setCell ⟨w.heap.size + 3, 36, none⟩ (.int .u64 v))) := Lib.hid (HBa.out.setCell (p := ⟨w.heap.size + 3, 36, none⟩) (by show w.heap.size ≤ w.heap.size + 3; omega) _)
  obtain ⟨hl, i0, i1, i2, i3, i4, i5, i6⟩ := HIF.out
  clear HI5 HR5 HE5 HZ5 HB5 HC5 HIa HRa HEa HZa HBa
  go_wp2_with (first | (refine wpl_load rfl 38 _ rfl (w.heap.size + 3) 0 rfl (efA r v 0 0 false) (ef_all HEF.out) ?_) | (refine wpl_store rfl 38 _ _ rfl (w.heap.size + 2) (efA r v 0 0 false) z40 rfl rfl HZF.out (by rw [efA_size]; exact info38) (by rw [efA_size]; rfl) (efA_one _ _ _ _ _) ?_; intro w9 hrow9 hg9; have HR9 := Lib.hid hrow9; have HB9 := Lib.hid (grown_below HBF.out hg9 (by omega)); clear hrow9 hg9))
  obtain ⟨t9, ht9⟩ := rowAt_heap HR9.out
  refine bodyPost_ret (results_cell_row rfl _ _ (w.heap.size + 2) t9 (efA r v 0 0 false) (0, 0) _ rfl ht9 Try.underlying38 rfl (by rw [efA_size]; exact info38)) rfl ⟨rfl, HB9.out⟩
set_option maxRecDepth 100000 in
set_option maxHeartbeats 4000000 in
theorem do_w23 (d n m a c i pc v : Int) (r : Rg) (w : World) (hck : ∀ w, Calls Try.prog 17 #[.agg #[.int .i64 23, .int .i64 d, .int .i64 n, .int .i64 m, .int .i64 a, .int .i64 c, .int .i64 i]] w fun e w' => e = .returned (.int .i64 0) ∧ Below w.heap.size w w') (hdo : ∀ w, Calls Try.prog 41 #[.int .i64 23] w fun e w' => e = .returned (.iface 82 (Value.func (.func 63) #[] #[])) ∧ w' = w) (hf : ∀ w, Calls Try.prog 63 #[.agg (coA #[.int .i64 23, .int .i64 d, .int .i64 n, .int .i64 m, .int .i64 a, .int .i64 c, .int .i64 i] pc r)] w fun e w' => e = .returned (.int .u64 v) ∧ Below w.heap.size w w') :
    Calls Try.prog 20 #[.agg #[.int .i64 23, .int .i64 d, .int .i64 n, .int .i64 m, .int .i64 a, .int .i64 c, .int .i64 i], .int .u64 pc, .agg r.arr] w fun e w' => e = .returned (.agg (efA r v 0 0 false)) ∧ Below w.heap.size w w' := by
  have HCK := Lib.hid hck
  have HDO := Lib.hid hdo
  have HFF := Lib.hid hf
  obtain ⟨nx, hnx⟩ : ∃ nx, IntKind.u64.wrap (pc + 4) = nx := ⟨_, rfl⟩
  have t1 := ta82_79 63
  have t2 := ta82_80 63
  have t3 := ta82_82 63
  clear hck hdo hf
  have HI0 : Hid (InsAt (((w.alloc (.cells #[.int .i64 23, .int .i64 d, .int .i64 n, .int .i64 m, .int .i64 a, .int .i64 c, .int .i64 i] 32)).alloc (.cells r.arr 25)).alloc (.cells z40 38)) w.heap.size (.int .i64 23) (.int .i64 d) (.int .i64 n) (.int .i64 m) (.int .i64 a) (.int .i64 c) (.int .i64 i)) := Lib.hid (((InsAt.new _ _ _ _ _ _ _ _).past _).past _)
  have HR0 : Hid (rowAt (((w.alloc (.cells #[.int .i64 23, .int .i64 d, .int .i64 n, .int .i64 m, .int .i64 a, .int .i64 c, .int .i64 i] 32)).alloc (.cells r.arr 25)).alloc (.cells z40 38)) (w.heap.size + 1) = some r.arr) := Lib.hid (by have := rowAt_past (rowAt_new (w.alloc (.cells #[.int .i64 23, .int .i64 d, .int .i64 n, .int .i64 m, .int .i64 a, .int .i64 c, .int .i64 i] 32)) r.arr 25) (.cells z40 38); simpa using this)
  have HE0 : Hid (rowAt (((w.alloc (.cells #[.int .i64 23, .int .i64 d, .int .i64 n, .int .i64 m, .int .i64 a, .int .i64 c, .int .i64 i] 32)).alloc (.cells r.arr 25)).alloc (.cells z40 38)) (w.heap.size + 2) = some z40) := Lib.hid (by have := rowAt_new ((w.alloc (.cells #[.int .i64 23, .int .i64 d, .int .i64 n, .int .i64 m, .int .i64 a, .int .i64 c, .int .i64 i] 32)).alloc (.cells r.arr 25)) z40 38; simpa using this)
  have HB0 : Hid (Below w.heap.size w (((w.alloc (.cells #[.int .i64 23, .int .i64 d, .int .i64 n, .int .i64 m, .int .i64 a, .int .i64 c, .int .i64 i] 32)).alloc (.cells r.arr 25)).alloc (.cells z40 38))) := Lib.hid ((((Below.refl _ _).alloc (Nat.le_refl _) _).alloc (by simp) _).alloc (by simp; omega) _)
  have HI1 : Hid (InsAt ((((w.alloc (.cells #[.int .i64 23, .int .i64 d, .int .i64 n, .int .i64 m, .int .i64 a, .int .i64 c, .int .i64 i] 32)).alloc (.cells r.arr 25)).alloc (.cells z40 38)).alloc (.cells z40 38)) w.heap.size (.int .i64 23) (.int .i64 d) (.int .i64 n) (.int .i64 m) (.int .i64 a) (.int .i64 c) (.int .i64 i)) := Lib.hid (HI0.out.past _)
  have HR1 : Hid (rowAt ((((w.alloc (.cells #[.int .i64 23, .int .i64 d, .int .i64 n, .int .i64 m, .int .i64 a, .int .i64 c, .int .i64 i] 32)).alloc (.cells r.arr 25)).alloc (.cells z40 38)).alloc (.cells z40 38)) (w.heap.size + 1) = some r.arr) := Lib.hid (rowAt_past HR0.out _)
  have HE1 : Hid (rowAt ((((w.alloc (.cells #[.int .i64 23, .int .i64 d, .int .i64 n, .int .i64 m, .int .i64 a, .int .i64 c, .int .i64 i] 32)).alloc (.cells r.arr 25)).alloc (.cells z40 38)).alloc (.cells z40 38)) (w.heap.size + 2) = some z40) := Lib.hid (rowAt_past HE0.out _)
  have HZ1 : Hid (rowAt ((((w.alloc (.cells #[.int .i64 23, .int .i64 d, .int .i64 n, .int .i64 m, .int .i64 a, .int .i64 c, .int .i64 i] 32)).alloc (.cells r.arr 25)).alloc (.cells z40 38)).alloc (.cells z40 38)) (w.heap.size + 3) = some z40) := Lib.hid (by have := rowAt_new (((w.alloc (.cells #[.int .i64 23, .int .i64 d, .int .i64 n, .int .i64 m, .int .i64 a, .int .i64 c, .int .i64 i] 32)).alloc (.cells r.arr 25)).alloc (.cells z40 38)) z40 38; simpa using this)
  have HB1 : Hid (Below w.heap.size w ((((w.alloc (.cells #[.int .i64 23, .int .i64 d, .int .i64 n, .int .i64 m, .int .i64 a, .int .i64 c, .int .i64 i] 32)).alloc (.cells r.arr 25)).alloc (.cells z40 38)).alloc (.cells z40 38))) := Lib.hid (HB0.out.alloc HB0.out.size _)
  go_enter Try.func20, Try.ntmps20
  go_wp2_with (first | (refine wpl_load rfl 25 _ rfl (w.heap.size + 1) 0 rfl r.arr (reg_all HR0.out) ?_) | (refine wpl_build2 rfl 38 0 1 _ _ rfl (.agg r.arr) (.int .u64 nx) rfl rfl _ (built38 r nx) ?_) | (refine wpl_store rfl 38 _ _ rfl (w.heap.size + 3) (efA r nx 0 0 false) z40 rfl rfl HZ1.out (by rw [efA_size]; exact info38) (by rw [efA_size]; rfl) (efA_one _ _ _ _ _) ?_; intro w2 hrow2 hg2; have HE2 := Lib.hid hrow2; have HI2 := Lib.hid (HI1.out.far hg2 (by omega)); have HR2 := Lib.hid (rowAt_grown HR1.out hg2 (by omega)); have HZ2 := Lib.hid (rowAt_grown HE1.out hg2 (by omega)); have HB2 := Lib.hid (grown_below HB1.out hg2 (by omega)); clear hrow2 hg2; obtain ⟨hl, i0, i1, i2, i3, i4, i5, i6⟩ := HI2.out))
  refine (HCK.out _).mono ?_
  rintro e w3 ⟨rfl, hb3⟩
  have HI3 := Lib.hid (HI2.out.below' hb3 rfl)
  have HR3 := Lib.hid (rowAt_below HR2.out hb3 rfl)
  have HE3 := Lib.hid (rowAt_below HE2.out hb3 rfl)
  have HZ3 := Lib.hid (rowAt_below HZ2.out hb3 rfl)
  have HB3 := Lib.hid (HB2.out.trans (hb3.mono HB2.out.size))
  have hq3 : w.heap.size + 3 < w3.heap.size := rowAt_lt HE3.out
  clear hb3 HI2 HR2 HE2 HZ2 HB2 HI1 HR1 HE1 HZ1 HB1 HI0 HR0 HE0 HB0 hl i0 i1 i2 i3 i4 i5 i6
  obtain ⟨hl, i0, i1, i2, i3, i4, i5, i6⟩ := HI3.out
  obtain ⟨q, hq⟩ : ∃ q, q = w3.heap.size := ⟨_, rfl⟩
  have HQ3 : Hid (rowAt (w3.alloc (.cells z44 76)) w3.heap.size = some z44) := Lib.hid (rowAt_new w3 z44 76)
  have HI4 := Lib.hid (HI3.out.past (.cells z44 76))
  have HR4 := Lib.hid (rowAt_past HR3.out (.cells z44 76))
  have HE4 := Lib.hid (rowAt_past HE3.out (.cells z44 76))
  have HZ4 := Lib.hid (rowAt_past HZ3.out (.cells z44 76))
  have HB4 := Lib.hid (HB3.out.alloc HB3.out.size (.cells z44 76))
  have HQN := Lib.hid hq
  clear hq
  go_wp2_with (first | (refine wpl_load rfl 25 _ rfl (w.heap.size + 1) 0 rfl r.arr (reg_all HR3.out) ?_) | (refine wpl_build3 rfl 76 0 1 2 _ _ _ rfl (.agg #[.int .i64 23, .int .i64 d, .int .i64 n, .int .i64 m, .int .i64 a, .int .i64 c, .int .i64 i]) (.int .u64 pc) (.agg r.arr) rfl rfl rfl _ (built76 23 d n m a c i pc r) ?_) | (refine wpl_store rfl 76 _ _ rfl w3.heap.size (coA #[.int .i64 23, .int .i64 d, .int .i64 n, .int .i64 m, .int .i64 a, .int .i64 c, .int .i64 i] pc r) z44 rfl rfl HQ3.out (by rw [coA_size rfl]; exact info76) (by rw [coA_size rfl]; rfl) (coA_one _ _ _ _ _ _ _ _ _) ?_; intro w4 hrow4 hg4; have HC5 := Lib.hid hrow4; have HI5 := Lib.hid (HI4.out.far hg4 (by omega)); have HR5 := Lib.hid (rowAt_grown HR4.out hg4 (by omega)); have HE5 := Lib.hid (rowAt_grown HE4.out hg4 (by omega)); have HZ5 := Lib.hid (rowAt_grown HZ4.out hg4 (by omega)); have HB5 := Lib.hid (grown_below HB4.out hg4 (by omega)); clear hrow4 hg4 hl i0 i1 i2 i3 i4 i5 i6; obtain ⟨hl, i0, i1, i2, i3, i4, i5, i6⟩ := HI5.out) | (go_at_call 41; refine (HDO.out _).mono ?_; rintro e w' ⟨rfl, rfl⟩) | (refine wpl_load rfl 76 _ rfl w3.heap.size 0 rfl (coA #[.int .i64 23, .int .i64 d, .int .i64 n, .int .i64 m, .int .i64 a, .int .i64 c, .int .i64 i] pc r) (core_all rfl HC5.out) ?_))
  clear hl i0 i1 i2 i3 i4 i5 i6 HI4 HR4 HE4 HZ4 HB4 HI3 HR3 HE3 HZ3 HB3 HQ3 t1 t2 t3
  refine (HFF.out _).mono ?_
  rintro e wa ⟨rfl, hba⟩
  have HIa := Lib.hid (HI5.out.below' hba rfl)
  have HRa := Lib.hid (rowAt_below HR5.out hba rfl)
  have HEa := Lib.hid (rowAt_below HE5.out hba rfl)
  have HZa := Lib.hid (rowAt_below HZ5.out hba rfl)
  have HBa := Lib.hid (below_step HB5.out hba rfl rfl rfl rfl)
  clear hba
  have c36 := (rowAt_cell HEa.out 36).trans (efA_36 _ _ _ _ _)
  have f36 := rowAt_frz HEa.out 36
  have HEF : Hid (rowAt (wa.setCell ⟨w.heap.size + 3, 36, none⟩ (.int .u64 v)) (w.heap.size + 3) = some (efA r v 0 0 false)) := Lib.hid (by rw [← efA_next r nx 0 0 v false]; exact rowAt_set HEa.out _ _)
  have HRF : Hid (rowAt (wa.setCell ⟨w.heap.size + 3, 36, none⟩ (.int .u64 v)) (w.heap.size + 1) = some r.arr) := Lib.hid (rowAt_set_far HRa.out (by omega) _ _)
  have HZF : Hid (rowAt (wa.setCell ⟨w.heap.size + 3, 36, none⟩ (.int .u64 v)) (w.heap.size + 2) = some z40) := Lib.hid (rowAt_set_far HZa.out (by omega) _ _)
  have HIF : Hid (InsAt (wa.setCell ⟨w.heap.size + 3, 36, none⟩ (.int .u64 v)) w.heap.size (.int .i64 23) (.int .i64 d) (.int .i64 n) (.int .i64 m) (.int .i64 a) (.int .i64 c) (.int .i64 i)) := Lib.hid (HIa.out.far (grown_set _ _ _) (by show w.heap.size ≠ w.heap.size + 3; omega))
  have HBF : Hid (Below w.heap.size w (wa.setCell ⟨w.heap.size + 3, 36, none⟩ (.int .u64 v))) := Lib.hid (HBa.out.setCell (p := ⟨w.heap.size + 3, 36, none⟩) (by show w.heap.size ≤ w.heap.size + 3; omega) _)
  obtain ⟨hl, i0, i1, i2, i3, i4, i5, i6⟩ := HIF.out
  clear HI5 HR5 HE5 HZ5 HB5 HC5 HIa HRa HEa HZa HBa
  go_wp2_with (first | (refine wpl_load rfl 38 _ rfl (w.heap.size + 3) 0 rfl (efA r v 0 0 false) (ef_all HEF.out) ?_) | (refine wpl_store rfl 38 _ _ rfl (w.heap.size + 2) (efA r v 0 0 false) z40 rfl rfl HZF.out (by rw [efA_size]; exact info38) (by rw [efA_size]; rfl) (efA_one _ _ _ _ _) ?_; intro w9 hrow9 hg9; have HR9 := Lib.hid hrow9; have HB9 := Lib.hid (grown_below HBF.out hg9 (by omega)); clear hrow9 hg9))
  obtain ⟨t9, ht9⟩ := rowAt_heap HR9.out
  refine bodyPost_ret (results_cell_row rfl _ _ (w.heap.size + 2) t9 (efA r v 0 0 false) (0, 0) _ rfl ht9 Try.underlying38 rfl (by rw [efA_size]; exact info38)) rfl ⟨rfl, HB9.out⟩
set_option maxRecDepth 100000 in
set_option maxHeartbeats 4000000 in
theorem do_w25 (d n m a c i pc v : Int) (r : Rg) (w : World) (hck : ∀ w, Calls Try.prog 17 #[.agg #[.int .i64 25, .int .i64 d, .int .i64 n, .int .i64 m, .int .i64 a, .int .i64 c, .int .i64 i]] w fun e w' => e = .returned (.int .i64 0) ∧ Below w.heap.size w w') (hdo : ∀ w, Calls Try.prog 41 #[.int .i64 25] w fun e w' => e = .returned (.iface 82 (Value.func (.func 64) #[] #[])) ∧ w' = w) (hf : ∀ w, Calls Try.prog 64 #[.agg (coA #[.int .i64 25, .int .i64 d, .int .i64 n, .int .i64 m, .int .i64 a, .int .i64 c, .int .i64 i] pc r)] w fun e w' => e = .returned (.int .u64 v) ∧ Below w.heap.size w w') :
    Calls Try.prog 20 #[.agg #[.int .i64 25, .int .i64 d, .int .i64 n, .int .i64 m, .int .i64 a, .int .i64 c, .int .i64 i], .int .u64 pc, .agg r.arr] w fun e w' => e = .returned (.agg (efA r v 0 0 false)) ∧ Below w.heap.size w w' := by
  have HCK := Lib.hid hck
  have HDO := Lib.hid hdo
  have HFF := Lib.hid hf
  obtain ⟨nx, hnx⟩ : ∃ nx, IntKind.u64.wrap (pc + 4) = nx := ⟨_, rfl⟩
  have t1 := ta82_79 64
  have t2 := ta82_80 64
  have t3 := ta82_82 64
  clear hck hdo hf
  have HI0 : Hid (InsAt (((w.alloc (.cells #[.int .i64 25, .int .i64 d, .int .i64 n, .int .i64 m, .int .i64 a, .int .i64 c, .int .i64 i] 32)).alloc (.cells r.arr 25)).alloc (.cells z40 38)) w.heap.size (.int .i64 25) (.int .i64 d) (.int .i64 n) (.int .i64 m) (.int .i64 a) (.int .i64 c) (.int .i64 i)) := Lib.hid (((InsAt.new _ _ _ _ _ _ _ _).past _).past _)
  have HR0 : Hid (rowAt (((w.alloc (.cells #[.int .i64 25, .int .i64 d, .int .i64 n, .int .i64 m, .int .i64 a, .int .i64 c, .int .i64 i] 32)).alloc (.cells r.arr 25)).alloc (.cells z40 38)) (w.heap.size + 1) = some r.arr) := Lib.hid (by have := rowAt_past (rowAt_new (w.alloc (.cells #[.int .i64 25, .int .i64 d, .int .i64 n, .int .i64 m, .int .i64 a, .int .i64 c, .int .i64 i] 32)) r.arr 25) (.cells z40 38); simpa using this)
  have HE0 : Hid (rowAt (((w.alloc (.cells #[.int .i64 25, .int .i64 d, .int .i64 n, .int .i64 m, .int .i64 a, .int .i64 c, .int .i64 i] 32)).alloc (.cells r.arr 25)).alloc (.cells z40 38)) (w.heap.size + 2) = some z40) := Lib.hid (by have := rowAt_new ((w.alloc (.cells #[.int .i64 25, .int .i64 d, .int .i64 n, .int .i64 m, .int .i64 a, .int .i64 c, .int .i64 i] 32)).alloc (.cells r.arr 25)) z40 38; simpa using this)
  have HB0 : Hid (Below w.heap.size w (((w.alloc (.cells #[.int .i64 25, .int .i64 d, .int .i64 n, .int .i64 m, .int .i64 a, .int .i64 c, .int .i64 i] 32)).alloc (.cells r.arr 25)).alloc (.cells z40 38))) := Lib.hid ((((Below.refl _ _).alloc (Nat.le_refl _) _).alloc (by simp) _).alloc (by simp; omega) _)
  have HI1 : Hid (InsAt ((((w.alloc (.cells #[.int .i64 25, .int .i64 d, .int .i64 n, .int .i64 m, .int .i64 a, .int .i64 c, .int .i64 i] 32)).alloc (.cells r.arr 25)).alloc (.cells z40 38)).alloc (.cells z40 38)) w.heap.size (.int .i64 25) (.int .i64 d) (.int .i64 n) (.int .i64 m) (.int .i64 a) (.int .i64 c) (.int .i64 i)) := Lib.hid (HI0.out.past _)
  have HR1 : Hid (rowAt ((((w.alloc (.cells #[.int .i64 25, .int .i64 d, .int .i64 n, .int .i64 m, .int .i64 a, .int .i64 c, .int .i64 i] 32)).alloc (.cells r.arr 25)).alloc (.cells z40 38)).alloc (.cells z40 38)) (w.heap.size + 1) = some r.arr) := Lib.hid (rowAt_past HR0.out _)
  have HE1 : Hid (rowAt ((((w.alloc (.cells #[.int .i64 25, .int .i64 d, .int .i64 n, .int .i64 m, .int .i64 a, .int .i64 c, .int .i64 i] 32)).alloc (.cells r.arr 25)).alloc (.cells z40 38)).alloc (.cells z40 38)) (w.heap.size + 2) = some z40) := Lib.hid (rowAt_past HE0.out _)
  have HZ1 : Hid (rowAt ((((w.alloc (.cells #[.int .i64 25, .int .i64 d, .int .i64 n, .int .i64 m, .int .i64 a, .int .i64 c, .int .i64 i] 32)).alloc (.cells r.arr 25)).alloc (.cells z40 38)).alloc (.cells z40 38)) (w.heap.size + 3) = some z40) := Lib.hid (by have := rowAt_new (((w.alloc (.cells #[.int .i64 25, .int .i64 d, .int .i64 n, .int .i64 m, .int .i64 a, .int .i64 c, .int .i64 i] 32)).alloc (.cells r.arr 25)).alloc (.cells z40 38)) z40 38; simpa using this)
  have HB1 : Hid (Below w.heap.size w ((((w.alloc (.cells #[.int .i64 25, .int .i64 d, .int .i64 n, .int .i64 m, .int .i64 a, .int .i64 c, .int .i64 i] 32)).alloc (.cells r.arr 25)).alloc (.cells z40 38)).alloc (.cells z40 38))) := Lib.hid (HB0.out.alloc HB0.out.size _)
  go_enter Try.func20, Try.ntmps20
  go_wp2_with (first | (refine wpl_load rfl 25 _ rfl (w.heap.size + 1) 0 rfl r.arr (reg_all HR0.out) ?_) | (refine wpl_build2 rfl 38 0 1 _ _ rfl (.agg r.arr) (.int .u64 nx) rfl rfl _ (built38 r nx) ?_) | (refine wpl_store rfl 38 _ _ rfl (w.heap.size + 3) (efA r nx 0 0 false) z40 rfl rfl HZ1.out (by rw [efA_size]; exact info38) (by rw [efA_size]; rfl) (efA_one _ _ _ _ _) ?_; intro w2 hrow2 hg2; have HE2 := Lib.hid hrow2; have HI2 := Lib.hid (HI1.out.far hg2 (by omega)); have HR2 := Lib.hid (rowAt_grown HR1.out hg2 (by omega)); have HZ2 := Lib.hid (rowAt_grown HE1.out hg2 (by omega)); have HB2 := Lib.hid (grown_below HB1.out hg2 (by omega)); clear hrow2 hg2; obtain ⟨hl, i0, i1, i2, i3, i4, i5, i6⟩ := HI2.out))
  refine (HCK.out _).mono ?_
  rintro e w3 ⟨rfl, hb3⟩
  have HI3 := Lib.hid (HI2.out.below' hb3 rfl)
  have HR3 := Lib.hid (rowAt_below HR2.out hb3 rfl)
  have HE3 := Lib.hid (rowAt_below HE2.out hb3 rfl)
  have HZ3 := Lib.hid (rowAt_below HZ2.out hb3 rfl)
  have HB3 := Lib.hid (HB2.out.trans (hb3.mono HB2.out.size))
  have hq3 : w.heap.size + 3 < w3.heap.size := rowAt_lt HE3.out
  clear hb3 HI2 HR2 HE2 HZ2 HB2 HI1 HR1 HE1 HZ1 HB1 HI0 HR0 HE0 HB0 hl i0 i1 i2 i3 i4 i5 i6
  obtain ⟨hl, i0, i1, i2, i3, i4, i5, i6⟩ := HI3.out
  obtain ⟨q, hq⟩ : ∃ q, q = w3.heap.size := ⟨_, rfl⟩
  have HQ3 : Hid (rowAt (w3.alloc (.cells z44 76)) w3.heap.size = some z44) := Lib.hid (rowAt_new w3 z44 76)
  have HI4 := Lib.hid (HI3.out.past (.cells z44 76))
  have HR4 := Lib.hid (rowAt_past HR3.out (.cells z44 76))
  have HE4 := Lib.hid (rowAt_past HE3.out (.cells z44 76))
  have HZ4 := Lib.hid (rowAt_past HZ3.out (.cells z44 76))
  have HB4 := Lib.hid (HB3.out.alloc HB3.out.size (.cells z44 76))
  have HQN := Lib.hid hq
  clear hq
  go_wp2_with (first | (refine wpl_load rfl 25 _ rfl (w.heap.size + 1) 0 rfl r.arr (reg_all HR3.out) ?_) | (refine wpl_build3 rfl 76 0 1 2 _ _ _ rfl (.agg #[.int .i64 25, .int .i64 d, .int .i64 n, .int .i64 m, .int .i64 a, .int .i64 c, .int .i64 i]) (.int .u64 pc) (.agg r.arr) rfl rfl rfl _ (built76 25 d n m a c i pc r) ?_) | (refine wpl_store rfl 76 _ _ rfl w3.heap.size (coA #[.int .i64 25, .int .i64 d, .int .i64 n, .int .i64 m, .int .i64 a, .int .i64 c, .int .i64 i] pc r) z44 rfl rfl HQ3.out (by rw [coA_size rfl]; exact info76) (by rw [coA_size rfl]; rfl) (coA_one _ _ _ _ _ _ _ _ _) ?_; intro w4 hrow4 hg4; have HC5 := Lib.hid hrow4; have HI5 := Lib.hid (HI4.out.far hg4 (by omega)); have HR5 := Lib.hid (rowAt_grown HR4.out hg4 (by omega)); have HE5 := Lib.hid (rowAt_grown HE4.out hg4 (by omega)); have HZ5 := Lib.hid (rowAt_grown HZ4.out hg4 (by omega)); have HB5 := Lib.hid (grown_below HB4.out hg4 (by omega)); clear hrow4 hg4 hl i0 i1 i2 i3 i4 i5 i6; obtain ⟨hl, i0, i1, i2, i3, i4, i5, i6⟩ := HI5.out) | (go_at_call 41; refine (HDO.out _).mono ?_; rintro e w' ⟨rfl, rfl⟩) | (refine wpl_load rfl 76 _ rfl w3.heap.size 0 rfl (coA #[.int .i64 25, .int .i64 d, .int .i64 n, .int .i64 m, .int .i64 a, .int .i64 c, .int .i64 i] pc r) (core_all rfl HC5.out) ?_))
  clear hl i0 i1 i2 i3 i4 i5 i6 HI4 HR4 HE4 HZ4 HB4 HI3 HR3 HE3 HZ3 HB3 HQ3 t1 t2 t3
  refine (HFF.out _).mono ?_
  rintro e wa ⟨rfl, hba⟩
  have HIa := Lib.hid (HI5.out.below' hba rfl)
  have HRa := Lib.hid (rowAt_below HR5.out hba rfl)
  have HEa := Lib.hid (rowAt_below HE5.out hba rfl)
  have HZa := Lib.hid (rowAt_below HZ5.out hba rfl)
  have HBa := Lib.hid (below_step HB5.out hba rfl rfl rfl rfl)
  clear hba
  have c36 := (rowAt_cell HEa.out 36).trans (efA_36 _ _ _ _ _)
  have f36 := rowAt_frz HEa.out 36
  have HEF : Hid (rowAt (wa.setCell ⟨w.heap.size + 3, 36, none⟩ (.int .u64 v)) (w.heap.size + 3) = some (efA r v 0 0 false)) := Lib.hid (by rw [← efA_next r nx 0 0 v false]; exact rowAt_set HEa.out _ _)
  have HRF : Hid (rowAt (wa.setCell ⟨w.heap.size + 3, 36, none⟩ (.int .u64 v)) (w.heap.size + 1) = some r.arr) := Lib.hid (rowAt_set_far HRa.out (by omega) _ _)
  have HZF : Hid (rowAt (wa.setCell ⟨w.heap.size + 3, 36, none⟩ (.int .u64 v)) (w.heap.size + 2) = some z40) := Lib.hid (rowAt_set_far HZa.out (by omega) _ _)
  have HIF : Hid (InsAt (wa.setCell ⟨w.heap.size + 3, 36, none⟩ (.int .u64 v)) w.heap.size (.int .i64 25) (.int .i64 d) (.int .i64 n) (.int .i64 m) (.int .i64 a) (.int .i64 c) (.int .i64 i)) := Lib.hid (HIa.out.far (grown_set _ _ _) (by show w.heap.size ≠ w.heap.size + 3; omega))
  have HBF : Hid (Below w.heap.size w (wa.setCell ⟨w.heap.size + 3, 36, none⟩ (.int .u64 v))) := Lib.hid (HBa.out.setCell (p := ⟨w.heap.size + 3, 36, none⟩) (by show w.heap.size ≤ w.heap.size + 3; omega) _)
  obtain ⟨hl, i0, i1, i2, i3, i4, i5, i6⟩ := HIF.out
  clear HI5 HR5 HE5 HZ5 HB5 HC5 HIa HRa HEa HZa HBa
  go_wp2_with (first | (refine wpl_load rfl 38 _ rfl (w.heap.size + 3) 0 rfl (efA r v 0 0 false) (ef_all HEF.out) ?_) | (refine wpl_store rfl 38 _ _ rfl (w.heap.size + 2) (efA r v 0 0 false) z40 rfl rfl HZF.out (by rw [efA_size]; exact info38) (by rw [efA_size]; rfl) (efA_one _ _ _ _ _) ?_; intro w9 hrow9 hg9; have HR9 := Lib.hid hrow9; have HB9 := Lib.hid (grown_below HBF.out hg9 (by omega)); clear hrow9 hg9))
  obtain ⟨t9, ht9⟩ := rowAt_heap HR9.out
  refine bodyPost_ret (results_cell_row rfl _ _ (w.heap.size + 2) t9 (efA r v 0 0 false) (0, 0) _ rfl ht9 Try.underlying38 rfl (by rw [efA_size]; exact info38)) rfl ⟨rfl, HB9.out⟩
set_option maxRecDepth 100000 in
set_option maxHeartbeats 4000000 in
theorem do_w27 (d n m a c i pc v : Int) (r : Rg) (w : World) (hck : ∀ w, Calls Try.prog 17 #[.agg #[.int .i64 27, .int .i64 d, .int .i64 n, .int .i64 m, .int .i64 a, .int .i64 c, .int .i64 i]] w fun e w' => e = .returned (.int .i64 0) ∧ Below w.heap.size w w') (hdo : ∀ w, Calls Try.prog 41 #[.int .i64 27] w fun e w' => e = .returned (.iface 82 (Value.func (.func 64) #[] #[])) ∧ w' = w) (hf : ∀ w, Calls Try.prog 64 #[.agg (coA #[.int .i64 27, .int .i64 d, .int .i64 n, .int .i64 m, .int .i64 a, .int .i64 c, .int .i64 i] pc r)] w fun e w' => e = .returned (.int .u64 v) ∧ Below w.heap.size w w') :
    Calls Try.prog 20 #[.agg #[.int .i64 27, .int .i64 d, .int .i64 n, .int .i64 m, .int .i64 a, .int .i64 c, .int .i64 i], .int .u64 pc, .agg r.arr] w fun e w' => e = .returned (.agg (efA r v 0 0 false)) ∧ Below w.heap.size w w' := by
  have HCK := Lib.hid hck
  have HDO := Lib.hid hdo
  have HFF := Lib.hid hf
  obtain ⟨nx, hnx⟩ : ∃ nx, IntKind.u64.wrap (pc + 4) = nx := ⟨_, rfl⟩
  have t1 := ta82_79 64
  have t2 := ta82_80 64
  have t3 := ta82_82 64
  clear hck hdo hf
  have HI0 : Hid (InsAt (((w.alloc (.cells #[.int .i64 27, .int .i64 d, .int .i64 n, .int .i64 m, .int .i64 a, .int .i64 c, .int .i64 i] 32)).alloc (.cells r.arr 25)).alloc (.cells z40 38)) w.heap.size (.int .i64 27) (.int .i64 d) (.int .i64 n) (.int .i64 m) (.int .i64 a) (.int .i64 c) (.int .i64 i)) := Lib.hid (((InsAt.new _ _ _ _ _ _ _ _).past _).past _)
  have HR0 : Hid (rowAt (((w.alloc (.cells #[.int .i64 27, .int .i64 d, .int .i64 n, .int .i64 m, .int .i64 a, .int .i64 c, .int .i64 i] 32)).alloc (.cells r.arr 25)).alloc (.cells z40 38)) (w.heap.size + 1) = some r.arr) := Lib.hid (by have := rowAt_past (rowAt_new (w.alloc (.cells #[.int .i64 27, .int .i64 d, .int .i64 n, .int .i64 m, .int .i64 a, .int .i64 c, .int .i64 i] 32)) r.arr 25) (.cells z40 38); simpa using this)
  have HE0 : Hid (rowAt (((w.alloc (.cells #[.int .i64 27, .int .i64 d, .int .i64 n, .int .i64 m, .int .i64 a, .int .i64 c, .int .i64 i] 32)).alloc (.cells r.arr 25)).alloc (.cells z40 38)) (w.heap.size + 2) = some z40) := Lib.hid (by have := rowAt_new ((w.alloc (.cells #[.int .i64 27, .int .i64 d, .int .i64 n, .int .i64 m, .int .i64 a, .int .i64 c, .int .i64 i] 32)).alloc (.cells r.arr 25)) z40 38; simpa using this)
  have HB0 : Hid (Below w.heap.size w (((w.alloc (.cells #[.int .i64 27, .int .i64 d, .int .i64 n, .int .i64 m, .int .i64 a, .int .i64 c, .int .i64 i] 32)).alloc (.cells r.arr 25)).alloc (.cells z40 38))) := Lib.hid ((((Below.refl _ _).alloc (Nat.le_refl _) _).alloc (by simp) _).alloc (by simp; omega) _)
  have HI1 : Hid (InsAt ((((w.alloc (.cells #[.int .i64 27, .int .i64 d, .int .i64 n, .int .i64 m, .int .i64 a, .int .i64 c, .int .i64 i] 32)).alloc (.cells r.arr 25)).alloc (.cells z40 38)).alloc (.cells z40 38)) w.heap.size (.int .i64 27) (.int .i64 d) (.int .i64 n) (.int .i64 m) (.int .i64 a) (.int .i64 c) (.int .i64 i)) := Lib.hid (HI0.out.past _)
  have HR1 : Hid (rowAt ((((w.alloc (.cells #[.int .i64 27, .int .i64 d, .int .i64 n, .int .i64 m, .int .i64 a, .int .i64 c, .int .i64 i] 32)).alloc (.cells r.arr 25)).alloc (.cells z40 38)).alloc (.cells z40 38)) (w.heap.size + 1) = some r.arr) := Lib.hid (rowAt_past HR0.out _)
  have HE1 : Hid (rowAt ((((w.alloc (.cells #[.int .i64 27, .int .i64 d, .int .i64 n, .int .i64 m, .int .i64 a, .int .i64 c, .int .i64 i] 32)).alloc (.cells r.arr 25)).alloc (.cells z40 38)).alloc (.cells z40 38)) (w.heap.size + 2) = some z40) := Lib.hid (rowAt_past HE0.out _)
  have HZ1 : Hid (rowAt ((((w.alloc (.cells #[.int .i64 27, .int .i64 d, .int .i64 n, .int .i64 m, .int .i64 a, .int .i64 c, .int .i64 i] 32)).alloc (.cells r.arr 25)).alloc (.cells z40 38)).alloc (.cells z40 38)) (w.heap.size + 3) = some z40) := Lib.hid (by have := rowAt_new (((w.alloc (.cells #[.int .i64 27, .int .i64 d, .int .i64 n, .int .i64 m, .int .i64 a, .int .i64 c, .int .i64 i] 32)).alloc (.cells r.arr 25)).alloc (.cells z40 38)) z40 38; simpa using this)
  have HB1 : Hid (Below w.heap.size w ((((w.alloc (.cells #[.int .i64 27, .int .i64 d, .int .i64 n, .int .i64 m, .int .i64 a, .int .i64 c, .int .i64 i] 32)).alloc (.cells r.arr 25)).alloc (.cells z40 38)).alloc (.cells z40 38))) := Lib.hid (HB0.out.alloc HB0.out.size _)
  go_enter Try.func20, Try.ntmps20
  go_wp2_with (first | (refine wpl_load rfl 25 _ rfl (w.heap.size + 1) 0 rfl r.arr (reg_all HR0.out) ?_) | (refine wpl_build2 rfl 38 0 1 _ _ rfl (.agg r.arr) (.int .u64 nx) rfl rfl _ (built38 r nx) ?_) | (refine wpl_store rfl 38 _ _ rfl (w.heap.size + 3) (efA r nx 0 0 false) z40 rfl rfl HZ1.out (by rw [efA_size]; exact info38) (by rw [efA_size]; rfl) (efA_one _ _ _ _ _) ?_; intro w2 hrow2 hg2; have HE2 := Lib.hid hrow2; have HI2 := Lib.hid (HI1.out.far hg2 (by omega)); have HR2 := Lib.hid (rowAt_grown HR1.out hg2 (by omega)); have HZ2 := Lib.hid (rowAt_grown HE1.out hg2 (by omega)); have HB2 := Lib.hid (grown_below HB1.out hg2 (by omega)); clear hrow2 hg2; obtain ⟨hl, i0, i1, i2, i3, i4, i5, i6⟩ := HI2.out))
  refine (HCK.out _).mono ?_
  rintro e w3 ⟨rfl, hb3⟩
  have HI3 := Lib.hid (HI2.out.below' hb3 rfl)
  have HR3 := Lib.hid (rowAt_below HR2.out hb3 rfl)
  have HE3 := Lib.hid (rowAt_below HE2.out hb3 rfl)
  have HZ3 := Lib.hid (rowAt_below HZ2.out hb3 rfl)
  have HB3 := Lib.hid (HB2.out.trans (hb3.mono HB2.out.size))
  have hq3 : w.heap.size + 3 < w3.heap.size := rowAt_lt HE3.out
  clear hb3 HI2 HR2 HE2 HZ2 HB2 HI1 HR1 HE1 HZ1 HB1 HI0 HR0 HE0 HB0 hl i0 i1 i2 i3 i4 i5 i6
  obtain ⟨hl, i0, i1, i2, i3, i4, i5, i6⟩ := HI3.out
  obtain ⟨q, hq⟩ : ∃ q, q = w3.heap.size := ⟨_, rfl⟩
  have HQ3 : Hid (rowAt (w3.alloc (.cells z44 76)) w3.heap.size = some z44) := Lib.hid (rowAt_new w3 z44 76)
  have HI4 := Lib.hid (HI3.out.past (.cells z44 76))
  have HR4 := Lib.hid (rowAt_past HR3.out (.cells z44 76))
  have HE4 := Lib.hid (rowAt_past HE3.out (.cells z44 76))
  have HZ4 := Lib.hid (rowAt_past HZ3.out (.cells z44 76))
  have HB4 := Lib.hid (HB3.out.alloc HB3.out.size (.cells z44 76))
  have HQN := Lib.hid hq
  clear hq
  go_wp2_with (first | (refine wpl_load rfl 25 _ rfl (w.heap.size + 1) 0 rfl r.arr (reg_all HR3.out) ?_) | (refine wpl_build3 rfl 76 0 1 2 _ _ _ rfl (.agg #[.int .i64 27, .int .i64 d, .int .i64 n, .int .i64 m, .int .i64 a, .int .i64 c, .int .i64 i]) (.int .u64 pc) (.agg r.arr) rfl rfl rfl _ (built76 27 d n m a c i pc r) ?_) | (refine wpl_store rfl 76 _ _ rfl w3.heap.size (coA #[.int .i64 27, .int .i64 d, .int .i64 n, .int .i64 m, .int .i64 a, .int .i64 c, .int .i64 i] pc r) z44 rfl rfl HQ3.out (by rw [coA_size rfl]; exact info76) (by rw [coA_size rfl]; rfl) (coA_one _ _ _ _ _ _ _ _ _) ?_; intro w4 hrow4 hg4; have HC5 := Lib.hid hrow4; have HI5 := Lib.hid (HI4.out.far hg4 (by omega)); have HR5 := Lib.hid (rowAt_grown HR4.out hg4 (by omega)); have HE5 := Lib.hid (rowAt_grown HE4.out hg4 (by omega)); have HZ5 := Lib.hid (rowAt_grown HZ4.out hg4 (by omega)); have HB5 := Lib.hid (grown_below HB4.out hg4 (by omega)); clear hrow4 hg4 hl i0 i1 i2 i3 i4 i5 i6; obtain ⟨hl, i0, i1, i2, i3, i4, i5, i6⟩ := HI5.out) | (go_at_call 41; refine (HDO.out _).mono ?_; rintro e w' ⟨rfl, rfl⟩) | (refine wpl_load rfl 76 _ rfl w3.heap.size 0 rfl (coA #[.int .i64 27, .int .i64 d, .int .i64 n, .int .i64 m, .int .i64 a, .int .i64 c, .int .i64 i] pc r) (core_all rfl HC5.out) ?_))
  clear hl i0 i1 i2 i3 i4 i5 i6 HI4 HR4 HE4 HZ4 HB4 HI3 HR3 HE3 HZ3 HB3 HQ3 t1 t2 t3
  refine (HFF.out _).mono ?_
  rintro e wa ⟨rfl, hba⟩
  have HIa := Lib.hid (HI5.out.below' hba rfl)
  have HRa := Lib.hid (rowAt_below HR5.out hba rfl)
  have HEa := Lib.hid (rowAt_below HE5.out hba rfl)
  have HZa := Lib.hid (rowAt_below HZ5.out hba rfl)
  have HBa := Lib.hid (below_step HB5.out hba rfl rfl rfl rfl)
  clear hba
  have c36 := (rowAt_cell HEa.out 36).trans (efA_36 _ _ _ _ _)
  have f36 := rowAt_frz HEa.out 36
  have HEF : Hid (rowAt (wa.setCell ⟨w.heap.size + 3, 36, none⟩ (.int .u64 v)) (w.heap.size + 3) = some (efA r v 0 0 false)) := Lib.hid (by rw [← efA_next r nx 0 0 v false]; exact rowAt_set HEa.out _ _)
  have HRF : Hid (rowAt (wa.setCell ⟨w.heap.size + 3, 36, none⟩ (.int .u64 v)) (w.heap.size + 1) = some r.arr) := Lib.hid (rowAt_set_far HRa.out (by omega) _ _)
  have HZF : Hid (rowAt (wa.setCell ⟨w.heap.size + 3, 36, none⟩ (.int .u64 v)) (w.heap.size + 2) = some z40) := Lib.hid (rowAt_set_far HZa.out (by omega) _ _)
  have HIF : Hid (InsAt (wa.setCell ⟨w.heap.size + 3, 36, none⟩ (.int .u64 v)) w.heap.size (.int .i64 27) (.int .i64 d) (.int .i64 n) (.int .i64 m) (.int .i64 a) (.int .i64 c) (.int .i64 i)) := Lib.hid (HIa.out.far (grown_set _ _ _) (by show w.heap.size ≠ w.heap.size + 3; omega))
  have HBF : Hid (Below w.heap.size w (wa.setCell ⟨w.heap.size + 3, 36, none⟩ (.int .u64 v))) := Lib.hid (HBa.out.setCell (p := ⟨w.heap.size + 3, 36, none⟩) (by show w.heap.size ≤ w.heap.size + 3; omega) _)
  obtain ⟨hl, i0, i1, i2, i3, i4, i5, i6⟩ := HIF.out
  clear HI5 HR5 HE5 HZ5 HB5 HC5 HIa HRa HEa HZa HBa
  go_wp2_with (first | (refine wpl_load rfl 38 _ rfl (w.heap.size + 3) 0 rfl (efA r v 0 0 false) (ef_all HEF.out) ?_) | (refine wpl_store rfl 38 _ _ rfl (w.heap.size + 2) (efA r v 0 0 false) z40 rfl rfl HZF.out (by rw [efA_size]; exact info38) (by rw [efA_size]; rfl) (efA_one _ _ _ _ _) ?_; intro w9 hrow9 hg9; have HR9 := Lib.hid hrow9; have HB9 := Lib.hid (grown_below HBF.out hg9 (by omega)); clear hrow9 hg9))
  obtain ⟨t9, ht9⟩ := rowAt_heap HR9.out
  refine bodyPost_ret (results_cell_row rfl _ _ (w.heap.size + 2) t9 (efA r v 0 0 false) (0, 0) _ rfl ht9 Try.underlying38 rfl (by rw [efA_size]; exact info38)) rfl ⟨rfl, HB9.out⟩
set_option maxRecDepth 100000 in
set_option maxHeartbeats 4000000 in
theorem do_w24 (d n m a c i pc v : Int) (r : Rg) (w : World) (hck : ∀ w, Calls Try.prog 17 #[.agg #[.int .i64 24, .int .i64 d, .int .i64 n, .int .i64 m, .int .i64 a, .int .i64 c, .int .i64 i]] w fun e w' => e = .returned (.int .i64 0) ∧ Below w.heap.size w w') (hdo : ∀ w, Calls Try.prog 41 #[.int .i64 24] w fun e w' => e = .returned (.iface 82 (Value.func (.func 60) #[] #[])) ∧ w' = w) (hf : ∀ w, Calls Try.prog 60 #[.agg (coA #[.int .i64 24, .int .i64 d, .int .i64 n, .int .i64 m, .int .i64 a, .int .i64 c, .int .i64 i] pc r)] w fun e w' => e = .returned (.int .u64 v) ∧ Below w.heap.size w w') :
    Calls Try.prog 20 #[.agg #[.int .i64 24, .int .i64 d, .int .i64 n, .int .i64 m, .int .i64 a, .int .i64 c, .int .i64 i], .int .u64 pc, .agg r.arr] w fun e w' => e = .returned (.agg (efA (r.set 30 (IntKind.u64.wrap (pc + 4))) v 0 0 false)) ∧ Below w.heap.size w w' := by
  have HCK := Lib.hid hck
  have HDO := Lib.hid hdo
  have HFF := Lib.hid hf
  obtain ⟨nx, hnx⟩ : ∃ nx, IntKind.u64.wrap (pc + 4) = nx := ⟨_, rfl⟩
  rw [hnx]
  have t1 := ta82_79 60
  have t2 := ta82_80 60
  have t3 := ta82_82 60
  clear hck hdo hf
  have HI0 : Hid (InsAt (((w.alloc (.cells #[.int .i64 24, .int .i64 d, .int .i64 n, .int .i64 m, .int .i64 a, .int .i64 c, .int .i64 i] 32)).alloc (.cells r.arr 25)).alloc (.cells z40 38)) w.heap.size (.int .i64 24) (.int .i64 d) (.int .i64 n) (.int .i64 m) (.int .i64 a) (.int .i64 c) (.int .i64 i)) := Lib.hid (((InsAt.new _ _ _ _ _ _ _ _).past _).past _)
  have HR0 : Hid (rowAt (((w.alloc (.cells #[.int .i64 24, .int .i64 d, .int .i64 n, .int .i64 m, .int .i64 a, .int .i64 c, .int .i64 i] 32)).alloc (.cells r.arr 25)).alloc (.cells z40 38)) (w.heap.size + 1) = some r.arr) := Lib.hid (by have := rowAt_past (rowAt_new (w.alloc (.cells #[.int .i64 24, .int .i64 d, .int .i64 n, .int .i64 m, .int .i64 a, .int .i64 c, .int .i64 i] 32)) r.arr 25) (.cells z40 38); simpa using this)
  have HE0 : Hid (rowAt (((w.alloc (.cells #[.int .i64 24, .int .i64 d, .int .i64 n, .int .i64 m, .int .i64 a, .int .i64 c, .int .i64 i] 32)).alloc (.cells r.arr 25)).alloc (.cells z40 38)) (w.heap.size + 2) = some z40) := Lib.hid (by have := rowAt_new ((w.alloc (.cells #[.int .i64 24, .int .i64 d, .int .i64 n, .int .i64 m, .int .i64 a, .int .i64 c, .int .i64 i] 32)).alloc (.cells r.arr 25)) z40 38; simpa using this)
  have HB0 : Hid (Below w.heap.size w (((w.alloc (.cells #[.int .i64 24, .int .i64 d, .int .i64 n, .int .i64 m, .int .i64 a, .int .i64 c, .int .i64 i] 32)).alloc (.cells r.arr 25)).alloc (.cells z40 38))) := Lib.hid ((((Below.refl _ _).alloc (Nat.le_refl _) _).alloc (by simp) _).alloc (by simp; omega) _)
  have HI1 : Hid (InsAt ((((w.alloc (.cells #[.int .i64 24, .int .i64 d, .int .i64 n, .int .i64 m, .int .i64 a, .int .i64 c, .int .i64 i] 32)).alloc (.cells r.arr 25)).alloc (.cells z40 38)).alloc (.cells z40 38)) w.heap.size (.int .i64 24) (.int .i64 d) (.int .i64 n) (.int .i64 m) (.int .i64 a) (.int .i64 c) (.int .i64 i)) := Lib.hid (HI0.out.past _)
  have HR1 : Hid (rowAt ((((w.alloc (.cells #[.int .i64 24, .int .i64 d, .int .i64 n, .int .i64 m, .int .i64 a, .int .i64 c, .int .i64 i] 32)).alloc (.cells r.arr 25)).alloc (.cells z40 38)).alloc (.cells z40 38)) (w.heap.size + 1) = some r.arr) := Lib.hid (rowAt_past HR0.out _)
  have HE1 : Hid (rowAt ((((w.alloc (.cells #[.int .i64 24, .int .i64 d, .int .i64 n, .int .i64 m, .int .i64 a, .int .i64 c, .int .i64 i] 32)).alloc (.cells r.arr 25)).alloc (.cells z40 38)).alloc (.cells z40 38)) (w.heap.size + 2) = some z40) := Lib.hid (rowAt_past HE0.out _)
  have HZ1 : Hid (rowAt ((((w.alloc (.cells #[.int .i64 24, .int .i64 d, .int .i64 n, .int .i64 m, .int .i64 a, .int .i64 c, .int .i64 i] 32)).alloc (.cells r.arr 25)).alloc (.cells z40 38)).alloc (.cells z40 38)) (w.heap.size + 3) = some z40) := Lib.hid (by have := rowAt_new (((w.alloc (.cells #[.int .i64 24, .int .i64 d, .int .i64 n, .int .i64 m, .int .i64 a, .int .i64 c, .int .i64 i] 32)).alloc (.cells r.arr 25)).alloc (.cells z40 38)) z40 38; simpa using this)
  have HB1 : Hid (Below w.heap.size w ((((w.alloc (.cells #[.int .i64 24, .int .i64 d, .int .i64 n, .int .i64 m, .int .i64 a, .int .i64 c, .int .i64 i] 32)).alloc (.cells r.arr 25)).alloc (.cells z40 38)).alloc (.cells z40 38))) := Lib.hid (HB0.out.alloc HB0.out.size _)
  go_enter Try.func20, Try.ntmps20
  go_wp2_with (first | (refine wpl_load rfl 25 _ rfl (w.heap.size + 1) 0 rfl r.arr (reg_all HR0.out) ?_) | (refine wpl_build2 rfl 38 0 1 _ _ rfl (.agg r.arr) (.int .u64 nx) rfl rfl _ (built38 r nx) ?_) | (refine wpl_store rfl 38 _ _ rfl (w.heap.size + 3) (efA r nx 0 0 false) z40 rfl rfl HZ1.out (by rw [efA_size]; exact info38) (by rw [efA_size]; rfl) (efA_one _ _ _ _ _) ?_; intro w2 hrow2 hg2; have HE2 := Lib.hid hrow2; have HI2 := Lib.hid (HI1.out.far hg2 (by omega)); have HR2 := Lib.hid (rowAt_grown HR1.out hg2 (by omega)); have HZ2 := Lib.hid (rowAt_grown HE1.out hg2 (by omega)); have HB2 := Lib.hid (grown_below HB1.out hg2 (by omega)); clear hrow2 hg2; obtain ⟨hl, i0, i1, i2, i3, i4, i5, i6⟩ := HI2.out))
  refine (HCK.out _).mono ?_
  rintro e w3 ⟨rfl, hb3⟩
  have HI3 := Lib.hid (HI2.out.below' hb3 rfl)
  have HR3 := Lib.hid (rowAt_below HR2.out hb3 rfl)
  have HE3 := Lib.hid (rowAt_below HE2.out hb3 rfl)
  have HZ3 := Lib.hid (rowAt_below HZ2.out hb3 rfl)
  have HB3 := Lib.hid (HB2.out.trans (hb3.mono HB2.out.size))
  have hq3 : w.heap.size + 3 < w3.heap.size := rowAt_lt HE3.out
  clear hb3 HI2 HR2 HE2 HZ2 HB2 HI1 HR1 HE1 HZ1 HB1 HI0 HR0 HE0 HB0 hl i0 i1 i2 i3 i4 i5 i6
  obtain ⟨hl, i0, i1, i2, i3, i4, i5, i6⟩ := HI3.out
  obtain ⟨q, hq⟩ : ∃ q, q = w3.heap.size := ⟨_, rfl⟩
  have HQ3 : Hid (rowAt (w3.alloc (.cells z44 76)) w3.heap.size = some z44) := Lib.hid (rowAt_new w3 z44 76)
  have HI4 := Lib.hid (HI3.out.past (.cells z44 76))
  have HR4 := Lib.hid (rowAt_past HR3.out (.cells z44 76))
  have HE4 := Lib.hid (rowAt_past HE3.out (.cells z44 76))
  have HZ4 := Lib.hid (rowAt_past HZ3.out (.cells z44 76))
  have HB4 := Lib.hid (HB3.out.alloc HB3.out.size (.cells z44 76))
  have HQN := Lib.hid hq
  clear hq
  go_wp2_with (first | (refine wpl_load rfl 25 _ rfl (w.heap.size + 1) 0 rfl r.arr (reg_all HR3.out) ?_) | (refine wpl_build3 rfl 76 0 1 2 _ _ _ rfl (.agg #[.int .i64 24, .int .i64 d, .int .i64 n, .int .i64 m, .int .i64 a, .int .i64 c, .int .i64 i]) (.int .u64 pc) (.agg r.arr) rfl rfl rfl _ (built76 24 d n m a c i pc r) ?_) | (refine wpl_store rfl 76 _ _ rfl w3.heap.size (coA #[.int .i64 24, .int .i64 d, .int .i64 n, .int .i64 m, .int .i64 a, .int .i64 c, .int .i64 i] pc r) z44 rfl rfl HQ3.out (by rw [coA_size rfl]; exact info76) (by rw [coA_size rfl]; rfl) (coA_one _ _ _ _ _ _ _ _ _) ?_; intro w4 hrow4 hg4; have HC5 := Lib.hid hrow4; have HI5 := Lib.hid (HI4.out.far hg4 (by omega)); have HR5 := Lib.hid (rowAt_grown HR4.out hg4 (by omega)); have HE5 := Lib.hid (rowAt_grown HE4.out hg4 (by omega)); have HZ5 := Lib.hid (rowAt_grown HZ4.out hg4 (by omega)); have HB5 := Lib.hid (grown_below HB4.out hg4 (by omega)); clear hrow4 hg4 hl i0 i1 i2 i3 i4 i5 i6; obtain ⟨hl, i0, i1, i2, i3, i4, i5, i6⟩ := HI5.out) | (go_at_call 41; refine (HDO.out _).mono ?_; rintro e w' ⟨rfl, rfl⟩) | (refine wpl_load rfl 76 _ rfl w3.heap.size 0 rfl (coA #[.int .i64 24, .int .i64 d, .int .i64 n, .int .i64 m, .int .i64 a, .int .i64 c, .int .i64 i] pc r) (core_all rfl HC5.out) ?_))
  clear hl i0 i1 i2 i3 i4 i5 i6 HI4 HR4 HE4 HZ4 HB4 HI3 HR3 HE3 HZ3 HB3 HQ3 t1 t2 t3
  refine (HFF.out _).mono ?_
  rintro e wa ⟨rfl, hba⟩
  have HIa := Lib.hid (HI5.out.below' hba rfl)
  have HRa := Lib.hid (rowAt_below HR5.out hba rfl)
  have HEa := Lib.hid (rowAt_below HE5.out hba rfl)
  have HZa := Lib.hid (rowAt_below HZ5.out hba rfl)
  have HBa := Lib.hid (below_step HB5.out hba rfl rfl rfl rfl)
  clear hba
  have c36 := (rowAt_cell HEa.out 36).trans (efA_36 _ _ _ _ _)
  have f36 := rowAt_frz HEa.out 36
  have HEF : Hid (rowAt (wa.setCell ⟨w.heap.size + 3, 36, none⟩ (.int .u64 v)) (w.heap.size + 3) = some (efA r v 0 0 false)) := Lib.hid (by rw [← efA_next r nx 0 0 v false]; exact rowAt_set HEa.out _ _)
  have HRF : Hid (rowAt (wa.setCell ⟨w.heap.size + 3, 36, none⟩ (.int .u64 v)) (w.heap.size + 1) = some r.arr) := Lib.hid (rowAt_set_far HRa.out (by omega) _ _)
  have HZF : Hid (rowAt (wa.setCell ⟨w.heap.size + 3, 36, none⟩ (.int .u64 v)) (w.heap.size + 2) = some z40) := Lib.hid (rowAt_set_far HZa.out (by omega) _ _)
  have HIF : Hid (InsAt (wa.setCell ⟨w.heap.size + 3, 36, none⟩ (.int .u64 v)) w.heap.size (.int .i64 24) (.int .i64 d) (.int .i64 n) (.int .i64 m) (.int .i64 a) (.int .i64 c) (.int .i64 i)) := Lib.hid (HIa.out.far (grown_set _ _ _) (by show w.heap.size ≠ w.heap.size + 3; omega))
  have HBF : Hid (Below w.heap.size w (wa.setCell ⟨w.heap.size + 3, 36, none⟩ (.int .u64 v))) := Lib.hid (HBa.out.setCell (p := ⟨w.heap.size + 3, 36, none⟩) (by show w.heap.size ≤ w.heap.size + 3; omega) _)
  obtain ⟨hl, i0, i1, i2, i3, i4, i5, i6⟩ := HIF.out
  clear HI5 HR5 HE5 HZ5 HB5 HC5 HIa HRa HEa HZa HBa
  have hl25 : (ldAt 25 (.pointer (some ⟨w.heap.size + 1, 0, none⟩))).run Try.prog (wa.setCell ⟨w.heap.size + 1 + 1 + 1, 36, none⟩ (.int .u64 v)) = .ok (.agg r.arr) (wa.setCell ⟨w.heap.size + 1 + 1 + 1, 36, none⟩ (.int .u64 v)) := reg_all HRF.out
  go_wp2_with fail
  clear hl25
  refine (set13 r 30 nx _).mono ?_
  rintro e wc ⟨rfl, hbc⟩
  have HEc := Lib.hid (rowAt_below HEF.out hbc rfl)
  have HZc := Lib.hid (rowAt_below HZF.out hbc rfl)
  have HBc := Lib.hid (below_step HBF.out hbc rfl rfl rfl rfl)
  clear hbc HEF HRF HZF HIF HBF hl i0 i1 i2 i3 i4 i5 i6 c36 f36
  go_wp2_with (first | (refine wpl_st25 rfl _ _ rfl (w.heap.size + 3) r (r.set 30 nx) v 0 0 false rfl rfl HEc.out ?_; intro w8 hrow8 hg8; have HEF := Lib.hid hrow8; have HZF := Lib.hid (rowAt_grown HZc.out hg8 (by omega)); have HBF := Lib.hid (grown_below HBc.out hg8 (by omega)); clear hrow8 hg8) | (refine wpl_load rfl 38 _ rfl (w.heap.size + 3) 0 rfl (efA (r.set 30 nx) v 0 0 false) (ef_all HEF.out) ?_) | (refine wpl_store rfl 38 _ _ rfl (w.heap.size + 2) (efA (r.set 30 nx) v 0 0 false) z40 rfl rfl HZF.out (by rw [efA_size]; exact info38) (by rw [efA_size]; rfl) (efA_one _ _ _ _ _) ?_; intro w9 hrow9 hg9; have HR9 := Lib.hid hrow9; have HB9 := Lib.hid (grown_below HBF.out hg9 (by omega)); clear hrow9 hg9))
  obtain ⟨t9, ht9⟩ := rowAt_heap HR9.out
  refine bodyPost_ret (results_cell_row rfl _ _ (w.heap.size + 2) t9 (efA (r.set 30 nx) v 0 0 false) (0, 0) _ rfl ht9 Try.underlying38 rfl (by rw [efA_size]; exact info38)) rfl ⟨rfl, HB9.out⟩
set_option maxRecDepth 100000 in
set_option maxHeartbeats 4000000 in
theorem do_w26 (d n m a c i pc v : Int) (r : Rg) (w : World) (hck : ∀ w, Calls Try.prog 17 #[.agg #[.int .i64 26, .int .i64 d, .int .i64 n, .int .i64 m, .int .i64 a, .int .i64 c, .int .i64 i]] w fun e w' => e = .returned (.int .i64 0) ∧ Below w.heap.size w w') (hdo : ∀ w, Calls Try.prog 41 #[.int .i64 26] w fun e w' => e = .returned (.iface 82 (Value.func (.func 64) #[] #[])) ∧ w' = w) (hf : ∀ w, Calls Try.prog 64 #[.agg (coA #[.int .i64 26, .int .i64 d, .int .i64 n, .int .i64 m, .int .i64 a, .int .i64 c, .int .i64 i] pc r)] w fun e w' => e = .returned (.int .u64 v) ∧ Below w.heap.size w w') :
    Calls Try.prog 20 #[.agg #[.int .i64 26, .int .i64 d, .int .i64 n, .int .i64 m, .int .i64 a, .int .i64 c, .int .i64 i], .int .u64 pc, .agg r.arr] w fun e w' => e = .returned (.agg (efA (r.set 30 (IntKind.u64.wrap (pc + 4))) v 0 0 false)) ∧ Below w.heap.size w w' := by
  have HCK := Lib.hid hck
  have HDO := Lib.hid hdo
  have HFF := Lib.hid hf
  obtain ⟨nx, hnx⟩ : ∃ nx, IntKind.u64.wrap (pc + 4) = nx := ⟨_, rfl⟩
  rw [hnx]
  have t1 := ta82_79 64
  have t2 := ta82_80 64
  have t3 := ta82_82 64
  clear hck hdo hf
  have HI0 : Hid (InsAt (((w.alloc (.cells #[.int .i64 26, .int .i64 d, .int .i64 n, .int .i64 m, .int .i64 a, .int .i64 c, .int .i64 i] 32)).alloc (.cells r.arr 25)).alloc (.cells z40 38)) w.heap.size (.int .i64 26) (.int .i64 d) (.int .i64 n) (.int .i64 m) (.int .i64 a) (.int .i64 c) (.int .i64 i)) := Lib.hid (((InsAt.new _ _ _ _ _ _ _ _).past _).past _)
  have HR0 : Hid (rowAt (((w.alloc (.cells #[.int .i64 26, .int .i64 d, .int .i64 n, .int .i64 m, .int .i64 a, .int .i64 c, .int .i64 i] 32)).alloc (.cells r.arr 25)).alloc (.cells z40 38)) (w.heap.size + 1) = some r.arr) := Lib.hid (by have := rowAt_past (rowAt_new (w.alloc (.cells #[.int .i64 26, .int .i64 d, .int .i64 n, .int .i64 m, .int .i64 a, .int .i64 c, .int .i64 i] 32)) r.arr 25) (.cells z40 38); simpa using this)
  have HE0 : Hid (rowAt (((w.alloc (.cells #[.int .i64 26, .int .i64 d, .int .i64 n, .int .i64 m, .int .i64 a, .int .i64 c, .int .i64 i] 32)).alloc (.cells r.arr 25)).alloc (.cells z40 38)) (w.heap.size + 2) = some z40) := Lib.hid (by have := rowAt_new ((w.alloc (.cells #[.int .i64 26, .int .i64 d, .int .i64 n, .int .i64 m, .int .i64 a, .int .i64 c, .int .i64 i] 32)).alloc (.cells r.arr 25)) z40 38; simpa using this)
  have HB0 : Hid (Below w.heap.size w (((w.alloc (.cells #[.int .i64 26, .int .i64 d, .int .i64 n, .int .i64 m, .int .i64 a, .int .i64 c, .int .i64 i] 32)).alloc (.cells r.arr 25)).alloc (.cells z40 38))) := Lib.hid ((((Below.refl _ _).alloc (Nat.le_refl _) _).alloc (by simp) _).alloc (by simp; omega) _)
  have HI1 : Hid (InsAt ((((w.alloc (.cells #[.int .i64 26, .int .i64 d, .int .i64 n, .int .i64 m, .int .i64 a, .int .i64 c, .int .i64 i] 32)).alloc (.cells r.arr 25)).alloc (.cells z40 38)).alloc (.cells z40 38)) w.heap.size (.int .i64 26) (.int .i64 d) (.int .i64 n) (.int .i64 m) (.int .i64 a) (.int .i64 c) (.int .i64 i)) := Lib.hid (HI0.out.past _)
  have HR1 : Hid (rowAt ((((w.alloc (.cells #[.int .i64 26, .int .i64 d, .int .i64 n, .int .i64 m, .int .i64 a, .int .i64 c, .int .i64 i] 32)).alloc (.cells r.arr 25)).alloc (.cells z40 38)).alloc (.cells z40 38)) (w.heap.size + 1) = some r.arr) := Lib.hid (rowAt_past HR0.out _)
  have HE1 : Hid (rowAt ((((w.alloc (.cells #[.int .i64 26, .int .i64 d, .int .i64 n, .int .i64 m, .int .i64 a, .int .i64 c, .int .i64 i] 32)).alloc (.cells r.arr 25)).alloc (.cells z40 38)).alloc (.cells z40 38)) (w.heap.size + 2) = some z40) := Lib.hid (rowAt_past HE0.out _)
  have HZ1 : Hid (rowAt ((((w.alloc (.cells #[.int .i64 26, .int .i64 d, .int .i64 n, .int .i64 m, .int .i64 a, .int .i64 c, .int .i64 i] 32)).alloc (.cells r.arr 25)).alloc (.cells z40 38)).alloc (.cells z40 38)) (w.heap.size + 3) = some z40) := Lib.hid (by have := rowAt_new (((w.alloc (.cells #[.int .i64 26, .int .i64 d, .int .i64 n, .int .i64 m, .int .i64 a, .int .i64 c, .int .i64 i] 32)).alloc (.cells r.arr 25)).alloc (.cells z40 38)) z40 38; simpa using this)
  have HB1 : Hid (Below w.heap.size w ((((w.alloc (.cells #[.int .i64 26, .int .i64 d, .int .i64 n, .int .i64 m, .int .i64 a, .int .i64 c, .int .i64 i] 32)).alloc (.cells r.arr 25)).alloc (.cells z40 38)).alloc (.cells z40 38))) := Lib.hid (HB0.out.alloc HB0.out.size _)
  go_enter Try.func20, Try.ntmps20
  go_wp2_with (first | (refine wpl_load rfl 25 _ rfl (w.heap.size + 1) 0 rfl r.arr (reg_all HR0.out) ?_) | (refine wpl_build2 rfl 38 0 1 _ _ rfl (.agg r.arr) (.int .u64 nx) rfl rfl _ (built38 r nx) ?_) | (refine wpl_store rfl 38 _ _ rfl (w.heap.size + 3) (efA r nx 0 0 false) z40 rfl rfl HZ1.out (by rw [efA_size]; exact info38) (by rw [efA_size]; rfl) (efA_one _ _ _ _ _) ?_; intro w2 hrow2 hg2; have HE2 := Lib.hid hrow2; have HI2 := Lib.hid (HI1.out.far hg2 (by omega)); have HR2 := Lib.hid (rowAt_grown HR1.out hg2 (by omega)); have HZ2 := Lib.hid (rowAt_grown HE1.out hg2 (by omega)); have HB2 := Lib.hid (grown_below HB1.out hg2 (by omega)); clear hrow2 hg2; obtain ⟨hl, i0, i1, i2, i3, i4, i5, i6⟩ := HI2.out))
  refine (HCK.out _).mono ?_
  rintro e w3 ⟨rfl, hb3⟩
  have HI3 := Lib.hid (HI2.out.below' hb3 rfl)
  have HR3 := Lib.hid (rowAt_below HR2.out hb3 rfl)
  have HE3 := Lib.hid (rowAt_below HE2.out hb3 rfl)
  have HZ3 := Lib.hid (rowAt_below HZ2.out hb3 rfl)
  have HB3 := Lib.hid (HB2.out.trans (hb3.mono HB2.out.size))
  have hq3 : w.heap.size + 3 < w3.heap.size := rowAt_lt HE3.out
  clear hb3 HI2 HR2 HE2 HZ2 HB2 HI1 HR1 HE1 HZ1 HB1 HI0 HR0 HE0 HB0 hl i0 i1 i2 i3 i4 i5 i6
  obtain ⟨hl, i0, i1, i2, i3, i4, i5, i6⟩ := HI3.out
  obtain ⟨q, hq⟩ : ∃ q, q = w3.heap.size := ⟨_, rfl⟩
  have HQ3 : Hid (rowAt (w3.alloc (.cells z44 76)) w3.heap.size = some z44) := Lib.hid (rowAt_new w3 z44 76)
  have HI4 := Lib.hid (HI3.out.past (.cells z44 76))
  have HR4 := Lib.hid (rowAt_past HR3.out (.cells z44 76))
  have HE4 := Lib.hid (rowAt_past HE3.out (.cells z44 76))
  have HZ4 := Lib.hid (rowAt_past HZ3.out (.cells z44 76))
  have HB4 := Lib.hid (HB3.out.alloc HB3.out.size (.cells z44 76))
  have HQN := Lib.hid hq
  clear hq
  go_wp2_with (first | (refine wpl_load rfl 25 _ rfl (w.heap.size + 1) 0 rfl r.arr (reg_all HR3.out) ?_) | (refine wpl_build3 rfl 76 0 1 2 _ _ _ rfl (.agg #[.int .i64 26, .int .i64 d, .int .i64 n, .int .i64 m, .int .i64 a, .int .i64 c, .int .i64 i]) (.int .u64 pc) (.agg r.arr) rfl rfl rfl _ (built76 26 d n m a c i pc r) ?_) | (refine wpl_store rfl 76 _ _ rfl w3.heap.size (coA #[.int .i64 26, .int .i64 d, .int .i64 n, .int .i64 m, .int .i64 a, .int .i64 c, .int .i64 i] pc r) z44 rfl rfl HQ3.out (by rw [coA_size rfl]; exact info76) (by rw [coA_size rfl]; rfl) (coA_one _ _ _ _ _ _ _ _ _) ?_; intro w4 hrow4 hg4; have HC5 := Lib.hid hrow4; have HI5 := Lib.hid (HI4.out.far hg4 (by omega)); have HR5 := Lib.hid (rowAt_grown HR4.out hg4 (by omega)); have HE5 := Lib.hid (rowAt_grown HE4.out hg4 (by omega)); have HZ5 := Lib.hid (rowAt_grown HZ4.out hg4 (by omega)); have HB5 := Lib.hid (grown_below HB4.out hg4 (by omega)); clear hrow4 hg4 hl i0 i1 i2 i3 i4 i5 i6; obtain ⟨hl, i0, i1, i2, i3, i4, i5, i6⟩ := HI5.out) | (go_at_call 41; refine (HDO.out _).mono ?_; rintro e w' ⟨rfl, rfl⟩) | (refine wpl_load rfl 76 _ rfl w3.heap.size 0 rfl (coA #[.int .i64 26, .int .i64 d, .int .i64 n, .int .i64 m, .int .i64 a, .int .i64 c, .int .i64 i] pc r) (core_all rfl HC5.out) ?_))
  clear hl i0 i1 i2 i3 i4 i5 i6 HI4 HR4 HE4 HZ4 HB4 HI3 HR3 HE3 HZ3 HB3 HQ3 t1 t2 t3
  refine (HFF.out _).mono ?_
  rintro e wa ⟨rfl, hba⟩
  have HIa := Lib.hid (HI5.out.below' hba rfl)
  have HRa := Lib.hid (rowAt_below HR5.out hba rfl)
  have HEa := Lib.hid (rowAt_below HE5.out hba rfl)
  have HZa := Lib.hid (rowAt_below HZ5.out hba rfl)
  have HBa := Lib.hid (below_step HB5.out hba rfl rfl rfl rfl)
  clear hba
  have c36 := (rowAt_cell HEa.out 36).trans (efA_36 _ _ _ _ _)
  have f36 := rowAt_frz HEa.out 36
  have HEF : Hid (rowAt (wa.setCell ⟨w.heap.size + 3, 36, none⟩ (.int .u64 v)) (w.heap.size + 3) = some (efA r v 0 0 false)) := Lib.hid (by rw [← efA_next r nx 0 0 v false]; exact rowAt_set HEa.out _ _)
  have HRF : Hid (rowAt (wa.setCell ⟨w.heap.size + 3, 36, none⟩ (.int .u64 v)) (w.heap.size + 1) = some r.arr) := Lib.hid (rowAt_set_far HRa.out (by omega) _ _)
  have HZF : Hid (rowAt (wa.setCell ⟨w.heap.size + 3, 36, none⟩ (.int .u64 v)) (w.heap.size + 2) = some z40) := Lib.hid (rowAt_set_far HZa.out (by omega) _ _)
  have HIF : Hid (InsAt (wa.setCell ⟨w.heap.size + 3, 36, none⟩ (.int .u64 v)) w.heap.size (.int .i64 26) (.int .i64 d) (.int .i64 n) (.int .i64 m) (.int .i64 a) (.int .i64 c) (.int .i64 i)) := Lib.hid (HIa.out.far (grown_set _ _ _) (by show w.heap.size ≠ w.heap.size + 3; omega))
  have HBF : Hid (Below w.heap.size w (wa.setCell ⟨w.heap.size + 3, 36, none⟩ (.int .u64 v))) := Lib.hid (HBa.out.setCell (p := ⟨w.heap.size + 3, 36, none⟩) (by show w.heap.size ≤ w.heap.size + 3; omega) _)
  obtain ⟨hl, i0, i1, i2, i3, i4, i5, i6⟩ := HIF.out
  clear HI5 HR5 HE5 HZ5 HB5 HC5 HIa HRa HEa HZa HBa
  have hl25 : (ldAt 25 (.pointer (some ⟨w.heap.size + 1, 0, none⟩))).run Try.prog (wa.setCell ⟨w.heap.size + 1 + 1 + 1, 36, none⟩ (.int .u64 v)) = .ok (.agg r.arr) (wa.setCell ⟨w.heap.size + 1 + 1 + 1, 36, none⟩ (.int .u64 v)) := reg_all HRF.out
  go_wp2_with fail
  clear hl25
  refine (set13 r 30 nx _).mono ?_
  rintro e wc ⟨rfl, hbc⟩
  have HEc := Lib.hid (rowAt_below HEF.out hbc rfl)
  have HZc := Lib.hid (rowAt_below HZF.out hbc rfl)
  have HBc := Lib.hid (below_step HBF.out hbc rfl rfl rfl rfl)
  clear hbc HEF HRF HZF HIF HBF hl i0 i1 i2 i3 i4 i5 i6 c36 f36
  go_wp2_with (first | (refine wpl_st25 rfl _ _ rfl (w.heap.size + 3) r (r.set 30 nx) v 0 0 false rfl rfl HEc.out ?_; intro w8 hrow8 hg8; have HEF := Lib.hid hrow8; have HZF := Lib.hid (rowAt_grown HZc.out hg8 (by omega)); have HBF := Lib.hid (grown_below HBc.out hg8 (by omega)); clear hrow8 hg8) | (refine wpl_load rfl 38 _ rfl (w.heap.size + 3) 0 rfl (efA (r.set 30 nx) v 0 0 false) (ef_all HEF.out) ?_) | (refine wpl_store rfl 38 _ _ rfl (w.heap.size + 2) (efA (r.set 30 nx) v 0 0 false) z40 rfl rfl HZF.out (by rw [efA_size]; exact info38) (by rw [efA_size]; rfl) (efA_one _ _ _ _ _) ?_; intro w9 hrow9 hg9; have HR9 := Lib.hid hrow9; have HB9 := Lib.hid (grown_below HBF.out hg9 (by omega)); clear hrow9 hg9))
  obtain ⟨t9, ht9⟩ := rowAt_heap HR9.out
  refine bodyPost_ret (results_cell_row rfl _ _ (w.heap.size + 2) t9 (efA (r.set 30 nx) v 0 0 false) (0, 0) _ rfl ht9 Try.underlying38 rfl (by rw [efA_size]; exact info38)) rfl ⟨rfl, HB9.out⟩
end Go.Proofs.Ytpjfjdncdiemlaa
