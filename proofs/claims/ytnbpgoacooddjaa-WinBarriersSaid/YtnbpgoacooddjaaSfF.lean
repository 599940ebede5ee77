import Derived.Test.YtnbpgoacooddjaaRows
import Derived.WalkKit
import Derived.ProofKit
import Derived.OpenShut
import Derived.Deep.QuietTactic
import Derived.BigQuiet
import Derived.Outline
import Derived.WalkSmall
import Derived.WalkLawsBesides
import Derived.WalkSpells
import Derived.BigGuardPart
import Derived.RegionTactic
import Derived.Deep.RegionHeld3
import Derived.Lib.Hide
import Derived.Deep.MidRow
import Derived.Below
import Derived.Deep.RegionWith
import Derived.Test.YtnbpgoacooddjaaSfD
import Derived.Test.YtnbpgoacooddjaaSmC
import Derived.Test.YtnbpgoacooddjaaSxK
import Derived.Deep.OwnRows
import Derived.Deep.AppendLies
import Derived.Laws.BitsAllLaws
import Derived.Laws.BitsLemmas
namespace Go.Proofs.Ytnbpgoacooddjaa
open Go.ChangeShapes Go.WideShapes Go.ChangeAt Go.RowKit
set_option linter.unusedVariables false
attribute [local go_sem ↓] ld76 ld25 ld38 st25
attribute [local go_sem] rowAt_drew rowAt_drewN
theorem efA_next (r : Rg) (nx ad da v : Int) (to : Bool) : (efA r nx ad da to).setIfInBounds 36 (.int .u64 v) = efA r v ad da to := by kernel_rfl
theorem efA_place (r : Rg) (nx ad da : Int) : (((efA r nx 0 0 false).setIfInBounds 39 (.bool true)).setIfInBounds 37 (.int .u64 ad)).setIfInBounds 38 (.int .u64 da) = efA r nx ad da true := by kernel_rfl
theorem efA_36 (r : Rg) (nx ad da : Int) (to : Bool) : (efA r nx ad da to)[36]? = some (.int .u64 nx) := by kernel_rfl
theorem efA_37 (r : Rg) (nx ad da : Int) (to : Bool) : (efA r nx ad da to)[37]? = some (.int .u64 ad) := by kernel_rfl
theorem efA_38 (r : Rg) (nx ad da : Int) (to : Bool) : (efA r nx ad da to)[38]? = some (.int .u64 da) := by kernel_rfl
theorem efA_39 (r : Rg) (nx ad da : Int) (to : Bool) : (efA r nx ad da to)[39]? = some (.bool to) := by kernel_rfl
set_option maxRecDepth 100000 in
set_option maxHeartbeats 4000000 in
theorem do_nil (o d n m a c i pc : Int) (r : Rg) (w : World) (hck : ∀ w, Calls Try.prog 31 #[.agg #[.int .i64 o, .int .i64 d, .int .i64 n, .int .i64 m, .int .i64 a, .int .i64 c, .int .i64 i]] w fun e w' => e = .returned (.int .i64 0) ∧ Below w.heap.size w w') (hdo : ∀ w, Calls Try.prog 192 #[.int .i64 o] w fun e w' => e = .returned (.nilIface) ∧ w' = w)  :
    Calls Try.prog 163 #[.agg #[.int .i64 o, .int .i64 d, .int .i64 n, .int .i64 m, .int .i64 a, .int .i64 c, .int .i64 i], .int .u64 pc, .agg r.arr] w fun e w' => e = .returned (.agg (efA r (IntKind.u64.wrap (pc + 4)) 0 0 false)) ∧ Below w.heap.size w w' := by
  have HCK := Lib.hid hck
  have HDO := Lib.hid hdo
  obtain ⟨nx, hnx⟩ : ∃ nx, IntKind.u64.wrap (pc + 4) = nx := ⟨_, rfl⟩
  rw [hnx]
  have t1 := tan_79
  have t2 := tan_80
  have t3 := tan_82
  have t4 := tan_83
  clear hck hdo
  have HI0 : Hid (InsAt (((w.alloc (.cells #[.int .i64 o, .int .i64 d, .int .i64 n, .int .i64 m, .int .i64 a, .int .i64 c, .int .i64 i] 29)).alloc (.cells r.arr 26)).alloc (.cells z40 232)) w.heap.size (.int .i64 o) (.int .i64 d) (.int .i64 n) (.int .i64 m) (.int .i64 a) (.int .i64 c) (.int .i64 i)) := Lib.hid (((InsAt.new _ _ _ _ _ _ _ _).past _).past _)
  have HR0 : Hid (rowAt (((w.alloc (.cells #[.int .i64 o, .int .i64 d, .int .i64 n, .int .i64 m, .int .i64 a, .int .i64 c, .int .i64 i] 29)).alloc (.cells r.arr 26)).alloc (.cells z40 232)) (w.heap.size + 1) = some r.arr) := Lib.hid (by have := rowAt_past (rowAt_new (w.alloc (.cells #[.int .i64 o, .int .i64 d, .int .i64 n, .int .i64 m, .int .i64 a, .int .i64 c, .int .i64 i] 29)) r.arr 26) (.cells z40 232); simpa using this)
  have HE0 : Hid (rowAt (((w.alloc (.cells #[.int .i64 o, .int .i64 d, .int .i64 n, .int .i64 m, .int .i64 a, .int .i64 c, .int .i64 i] 29)).alloc (.cells r.arr 26)).alloc (.cells z40 232)) (w.heap.size + 2) = some z40) := Lib.hid (by have := rowAt_new ((w.alloc (.cells #[.int .i64 o, .int .i64 d, .int .i64 n, .int .i64 m, .int .i64 a, .int .i64 c, .int .i64 i] 29)).alloc (.cells r.arr 26)) z40 232; simpa using this)
  have HB0 : Hid (Below w.heap.size w (((w.alloc (.cells #[.int .i64 o, .int .i64 d, .int .i64 n, .int .i64 m, .int .i64 a, .int .i64 c, .int .i64 i] 29)).alloc (.cells r.arr 26)).alloc (.cells z40 232))) := Lib.hid ((((Below.refl _ _).alloc (Nat.le_refl _) _).alloc (by simp) _).alloc (by simp; omega) _)
  have HI1 : Hid (InsAt ((((w.alloc (.cells #[.int .i64 o, .int .i64 d, .int .i64 n, .int .i64 m, .int .i64 a, .int .i64 c, .int .i64 i] 29)).alloc (.cells r.arr 26)).alloc (.cells z40 232)).alloc (.cells z40 232)) w.heap.size (.int .i64 o) (.int .i64 d) (.int .i64 n) (.int .i64 m) (.int .i64 a) (.int .i64 c) (.int .i64 i)) := Lib.hid (HI0.out.past _)
  have HR1 : Hid (rowAt ((((w.alloc (.cells #[.int .i64 o, .int .i64 d, .int .i64 n, .int .i64 m, .int .i64 a, .int .i64 c, .int .i64 i] 29)).alloc (.cells r.arr 26)).alloc (.cells z40 232)).alloc (.cells z40 232)) (w.heap.size + 1) = some r.arr) := Lib.hid (rowAt_past HR0.out _)
  have HE1 : Hid (rowAt ((((w.alloc (.cells #[.int .i64 o, .int .i64 d, .int .i64 n, .int .i64 m, .int .i64 a, .int .i64 c, .int .i64 i] 29)).alloc (.cells r.arr 26)).alloc (.cells z40 232)).alloc (.cells z40 232)) (w.heap.size + 2) = some z40) := Lib.hid (rowAt_past HE0.out _)
  have HZ1 : Hid (rowAt ((((w.alloc (.cells #[.int .i64 o, .int .i64 d, .int .i64 n, .int .i64 m, .int .i64 a, .int .i64 c, .int .i64 i] 29)).alloc (.cells r.arr 26)).alloc (.cells z40 232)).alloc (.cells z40 232)) (w.heap.size + 3) = some z40) := Lib.hid (by have := rowAt_new (((w.alloc (.cells #[.int .i64 o, .int .i64 d, .int .i64 n, .int .i64 m, .int .i64 a, .int .i64 c, .int .i64 i] 29)).alloc (.cells r.arr 26)).alloc (.cells z40 232)) z40 232; simpa using this)
  have HB1 : Hid (Below w.heap.size w ((((w.alloc (.cells #[.int .i64 o, .int .i64 d, .int .i64 n, .int .i64 m, .int .i64 a, .int .i64 c, .int .i64 i] 29)).alloc (.cells r.arr 26)).alloc (.cells z40 232)).alloc (.cells z40 232))) := Lib.hid (HB0.out.alloc HB0.out.size _)
  go_enter Try.func163, Try.ntmps163
  go_wp2_with (first | (refine wpl_load rfl 26 _ rfl (w.heap.size + 1) 0 rfl r.arr (reg_all HR0.out) ?_) | (refine wpl_build2 rfl 232 0 1 _ _ rfl (.agg r.arr) (.int .u64 nx) rfl rfl _ (built38 r nx) ?_) | (refine wpl_store rfl 232 _ _ rfl (w.heap.size + 3) (efA r nx 0 0 false) z40 rfl rfl HZ1.out (by rw [efA_size]; exact info38) (by rw [efA_size]; rfl) (efA_one _ _ _ _ _) ?_; intro w2 hrow2 hg2; have HE2 := Lib.hid hrow2; have HI2 := Lib.hid (HI1.out.far hg2 (by omega)); have HR2 := Lib.hid (rowAt_grown HR1.out hg2 (by omega)); have HZ2 := Lib.hid (rowAt_grown HE1.out hg2 (by omega)); have HB2 := Lib.hid (grown_below HB1.out hg2 (by omega)); clear hrow2 hg2; obtain ⟨hl, i0, i1, i2, i3, i4, i5, i6⟩ := HI2.out))
  refine (HCK.out _).mono ?_
  rintro e w3 ⟨rfl, hb3⟩
  have HI3 := Lib.hid (HI2.out.below' hb3 rfl)
  have HR3 := Lib.hid (rowAt_below HR2.out hb3 rfl)
  have HE3 := Lib.hid (rowAt_below HE2.out hb3 rfl)
  have HZ3 := Lib.hid (rowAt_below HZ2.out hb3 rfl)
  have HB3 := Lib.hid (HB2.out.trans (hb3.mono HB2.out.size))
  have hq3 : w.heap.size + 3 < w3.heap.size := rowAt_lt HE3.out
  clear hb3 HI2 HR2 HE2 HZ2 HB2 HI1 HR1 HE1 HZ1 HB1 HI0 HR0 HE0 HB0 hl i0 i1 i2 i3 i4 i5 i6
  obtain ⟨hl, i0, i1, i2, i3, i4, i5, i6⟩ := HI3.out
  obtain ⟨q, hq⟩ : ∃ q, q = w3.heap.size := ⟨_, rfl⟩
  have HQ3 : Hid (rowAt (w3.alloc (.cells z44 257)) w3.heap.size = some z44) := Lib.hid (rowAt_new w3 z44 257)
  have HI4 := Lib.hid (HI3.out.past (.cells z44 257))
  have HR4 := Lib.hid (rowAt_past HR3.out (.cells z44 257))
  have HE4 := Lib.hid (rowAt_past HE3.out (.cells z44 257))
  have HZ4 := Lib.hid (rowAt_past HZ3.out (.cells z44 257))
  have HB4 := Lib.hid (HB3.out.alloc HB3.out.size (.cells z44 257))
  have HQN := Lib.hid hq
  clear hq
  go_wp2_with (first | (refine wpl_load rfl 26 _ rfl (w.heap.size + 1) 0 rfl r.arr (reg_all HR3.out) ?_) | (refine wpl_build3 rfl 257 0 1 2 _ _ _ rfl (.agg #[.int .i64 o, .int .i64 d, .int .i64 n, .int .i64 m, .int .i64 a, .int .i64 c, .int .i64 i]) (.int .u64 pc) (.agg r.arr) rfl rfl rfl _ (built76 o d n m a c i pc r) ?_) | (refine wpl_store rfl 257 _ _ rfl w3.heap.size (coA #[.int .i64 o, .int .i64 d, .int .i64 n, .int .i64 m, .int .i64 a, .int .i64 c, .int .i64 i] pc r) z44 rfl rfl HQ3.out (by rw [coA_size rfl]; exact info76) (by rw [coA_size rfl]; rfl) (coA_one _ _ _ _ _ _ _ _ _) ?_; intro w4 hrow4 hg4; have HC5 := Lib.hid hrow4; have HI5 := Lib.hid (HI4.out.far hg4 (by omega)); have HR5 := Lib.hid (rowAt_grown HR4.out hg4 (by omega)); have HE5 := Lib.hid (rowAt_grown HE4.out hg4 (by omega)); have HZ5 := Lib.hid (rowAt_grown HZ4.out hg4 (by omega)); have HB5 := Lib.hid (grown_below HB4.out hg4 (by omega)); clear hrow4 hg4 hl i0 i1 i2 i3 i4 i5 i6; obtain ⟨hl, i0, i1, i2, i3, i4, i5, i6⟩ := HI5.out) | (go_at_call 192; refine (HDO.out _).mono ?_; rintro e w' ⟨rfl, rfl⟩) | (refine wpl_load rfl 232 _ rfl (w.heap.size + 3) 0 rfl (efA r nx 0 0 false) (ef_all HE5.out) ?_) | (refine wpl_store rfl 232 _ _ rfl (w.heap.size + 2) (efA r nx 0 0 false) z40 rfl rfl HZ5.out (by rw [efA_size]; exact info38) (by rw [efA_size]; rfl) (efA_one _ _ _ _ _) ?_; intro w9 hrow9 hg9; have HR9 := Lib.hid hrow9; have HB9 := Lib.hid (grown_below HB5.out hg9 (by omega)); clear hrow9 hg9))
  obtain ⟨t9, ht9⟩ := rowAt_heap HR9.out
  refine bodyPost_ret (results_cell_row rfl _ _ (w.heap.size + 2) t9 (efA r nx 0 0 false) (0, 0) _ rfl ht9 Try.underlying232 rfl (by rw [efA_size]; exact info38)) rfl ⟨rfl, HB9.out⟩
end Go.Proofs.Ytnbpgoacooddjaa
