import Derived.Test.YthgpolddbadfmaaRows
import Derived.WalkKit
import Derived.ProofKit
import Derived.OpenShut
import Derived.Outline
import Derived.WalkSmall
import Derived.WalkLawsBesides
import Derived.WalkSpells
import Derived.BigGuardPart
import Derived.RegionTactic
import Derived.Lib.Hide
import Derived.Below
import Derived.Deep.RegionWith
import Derived.Deep.RegionHeld3
import Derived.Test.YthgpolddbadfmaaIs
import Derived.Test.YthgpolddbadfmaaCkA
namespace Go.Proofs.Ythgpolddbadfmaa
open Go.ChangeShapes Go.WideShapes Go.ChangeAt Go.RowKit
set_option linter.unusedVariables false
set_option maxRecDepth 100000 in
set_option maxHeartbeats 2000000 in
theorem check_f35 (op d n m a c i F : Int) (w : World) (h34 : ∀ w, Calls Try.prog 27 #[.int .i64 op] w fun e w' => e = .returned (.bool true) ∧ w' = w) (h36 : ∀ w, Calls Try.prog 29 #[.int .i64 op] w fun e w' => e = .returned (.int .i64 F) ∧ w' = w) (h35 : ∀ w, Calls Try.prog 28 #[.agg #[.int .i64 op, .int .i64 d, .int .i64 n, .int .i64 m, .int .i64 a, .int .i64 c, .int .i64 i], .int .i64 F] w fun e w' => e = .returned (.bool false) ∧ Below w.heap.size w w') :
    Calls Try.prog 16 #[.agg #[.int .i64 op, .int .i64 d, .int .i64 n, .int .i64 m, .int .i64 a, .int .i64 c, .int .i64 i]] w fun e w' => e = .returned (.int .i64 1) ∧ Below w.heap.size w w' := by
  have H34 := Lib.hid h34
  have H36 := Lib.hid h36
  have H35 := Lib.hid h35
  clear h34 h36 h35
  go_enter Try.func16, Try.ntmps16
  go_wp2_with fail
  obtain ⟨x, x0, x1, x2, x3, x4, x5, x6⟩ := InsC.new w (.int .i64 op) (.int .i64 d) (.int .i64 n) (.int .i64 m) (.int .i64 a) (.int .i64 c) (.int .i64 i)
  have HB : Hid (Below w.heap.size w (w.alloc (.cells #[.int .i64 op, .int .i64 d, .int .i64 n, .int .i64 m, .int .i64 a, .int .i64 c, .int .i64 i] 23))) := Lib.hid ((Below.refl _ _).alloc (Nat.le_refl _) _)
  obtain ⟨b, hb⟩ : ∃ b, b = w.heap.size := ⟨_, rfl⟩
  have HN : Hid (w.heap.size = b) := Lib.hid hb.symm
  rw [← hb] at x x0 x1 x2 x3 x4 x5 x6
  rw [← hb]
  clear hb
  generalize w.alloc (.cells #[.int .i64 op, .int .i64 d, .int .i64 n, .int .i64 m, .int .i64 a, .int .i64 c, .int .i64 i] 23) = w1 at *
  have HI := Lib.hid (show InsC w1 b (.int .i64 op) (.int .i64 d) (.int .i64 n) (.int .i64 m) (.int .i64 a) (.int .i64 c) (.int .i64 i) from ⟨x, x0, x1, x2, x3, x4, x5, x6⟩)
  first | (go_region_with (first | (go_at_call 27; refine (H34.out _).mono ?_; rintro e w' ⟨rfl, rfl⟩) | (go_at_call 29; refine (H36.out _).mono ?_; rintro e w' ⟨rfl, rfl⟩) | (go_at_call 28; refine (H35.out _).mono ?_; rintro e w2 ⟨rfl, hb1⟩; have HB2 := Lib.hid (below_step HB.out hb1 rfl rfl rfl rfl); clear hb1))) | fail
  all_goals
    go_wp2
    go_ret
    exact ⟨rfl, by first | exact HB2.out | exact HB2.out.drew | exact HB2.out.drew.drew⟩
set_option maxRecDepth 100000 in
set_option maxHeartbeats 2000000 in
theorem check_f37 (op d n m a c i F : Int) (w : World) (h34 : ∀ w, Calls Try.prog 27 #[.int .i64 op] w fun e w' => e = .returned (.bool true) ∧ w' = w) (h36 : ∀ w, Calls Try.prog 29 #[.int .i64 op] w fun e w' => e = .returned (.int .i64 F) ∧ w' = w) (h35 : ∀ w, Calls Try.prog 28 #[.agg #[.int .i64 op, .int .i64 d, .int .i64 n, .int .i64 m, .int .i64 a, .int .i64 c, .int .i64 i], .int .i64 F] w fun e w' => e = .returned (.bool true) ∧ Below w.heap.size w w') (h37 : ∀ w, Calls Try.prog 30 #[.agg #[.int .i64 op, .int .i64 d, .int .i64 n, .int .i64 m, .int .i64 a, .int .i64 c, .int .i64 i]] w fun e w' => e = .returned (.bool false) ∧ Below w.heap.size w w') :
    Calls Try.prog 16 #[.agg #[.int .i64 op, .int .i64 d, .int .i64 n, .int .i64 m, .int .i64 a, .int .i64 c, .int .i64 i]] w fun e w' => e = .returned (.int .i64 1) ∧ Below w.heap.size w w' := by
  have H34 := Lib.hid h34
  have H36 := Lib.hid h36
  have H35 := Lib.hid h35
  have H37 := Lib.hid h37
  clear h34 h36 h35 h37
  go_enter Try.func16, Try.ntmps16
  go_wp2_with fail
  obtain ⟨x, x0, x1, x2, x3, x4, x5, x6⟩ := InsC.new w (.int .i64 op) (.int .i64 d) (.int .i64 n) (.int .i64 m) (.int .i64 a) (.int .i64 c) (.int .i64 i)
  have HB : Hid (Below w.heap.size w (w.alloc (.cells #[.int .i64 op, .int .i64 d, .int .i64 n, .int .i64 m, .int .i64 a, .int .i64 c, .int .i64 i] 23))) := Lib.hid ((Below.refl _ _).alloc (Nat.le_refl _) _)
  obtain ⟨b, hb⟩ : ∃ b, b = w.heap.size := ⟨_, rfl⟩
  have HN : Hid (w.heap.size = b) := Lib.hid hb.symm
  rw [← hb] at x x0 x1 x2 x3 x4 x5 x6
  rw [← hb]
  clear hb
  generalize w.alloc (.cells #[.int .i64 op, .int .i64 d, .int .i64 n, .int .i64 m, .int .i64 a, .int .i64 c, .int .i64 i] 23) = w1 at *
  have HI := Lib.hid (show InsC w1 b (.int .i64 op) (.int .i64 d) (.int .i64 n) (.int .i64 m) (.int .i64 a) (.int .i64 c) (.int .i64 i) from ⟨x, x0, x1, x2, x3, x4, x5, x6⟩)
  first | (go_region_with (first | (go_at_call 27; refine (H34.out _).mono ?_; rintro e w' ⟨rfl, rfl⟩) | (go_at_call 29; refine (H36.out _).mono ?_; rintro e w' ⟨rfl, rfl⟩) | (go_at_call 28; refine (H35.out _).mono ?_; rintro e w2 ⟨rfl, hb1⟩; have HI2 := Lib.hid (HI.out.below' hb1 rfl); have HB2 := Lib.hid (below_step HB.out hb1 rfl rfl rfl rfl); obtain ⟨hl, i0, i1, i2, i3, i4, i5, i6⟩ := HI2.out; clear hb1) | (go_at_call 30; refine (H37.out _).mono ?_; rintro e w3 ⟨rfl, hb1⟩; have HB3 := Lib.hid (below_step HB2.out hb1 rfl rfl rfl rfl); clear hb1))) | fail
  all_goals
    go_wp2
    go_ret
    exact ⟨rfl, by first | exact HB3.out | exact HB3.out.drew | exact HB3.out.drew.drew⟩
end Go.Proofs.Ythgpolddbadfmaa
