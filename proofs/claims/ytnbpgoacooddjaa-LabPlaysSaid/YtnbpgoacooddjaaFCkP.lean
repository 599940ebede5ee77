import Derived.Test.YtnbpgoacooddjaaRows
import Derived.WalkKit
import Derived.ProofKit
import Derived.OpenShut
import Derived.Outline
import Derived.WalkSmall
import Derived.WalkLawsBesides
import Derived.WalkSpells
import Derived.BigGuardPart
import Derived.RegionTactic
import Derived.Lib.Hide
import Derived.Below
import Derived.Deep.RegionWith
import Derived.Deep.RegionHeld3
import Derived.Test.YtnbpgoacooddjaaFIs
import Derived.Test.YtnbpgoacooddjaaFCkA
namespace Go.Proofs.Ytnbpgoacooddjaa.Fr
open Go.ChangeShapes Go.WideShapes Go.ChangeAt Go.RowKit
set_option linter.unusedVariables false
set_option maxRecDepth 100000 in
set_option maxHeartbeats 2000000 in
theorem check_f35 (op d n m a c i F : Int) (w : World) (h34 : ∀ w, Calls Try.prog 110 #[.int .i64 op] w fun e w' => e = .returned (.bool true) ∧ w' = w) (h36 : ∀ w, Calls Try.prog 112 #[.int .i64 op] w fun e w' => e = .returned (.int .i64 F) ∧ w' = w) (h35 : ∀ w, Calls Try.prog 111 #[.agg #[.int .i64 op, .int .i64 d, .int .i64 n, .int .i64 m, .int .i64 a, .int .i64 c, .int .i64 i], .int .i64 F] w fun e w' => e = .returned (.bool false) ∧ Below w.heap.size w w') :
    Calls Try.prog 31 #[.agg #[.int .i64 op, .int .i64 d, .int .i64 n, .int .i64 m, .int .i64 a, .int .i64 c, .int .i64 i]] w fun e w' => e = .returned (.int .i64 1) ∧ Below w.heap.size w w' := by
  have H34 := Lib.hid h34
  have H36 := Lib.hid h36
  have H35 := Lib.hid h35
  clear h34 h36 h35
  go_enter Try.func31, Try.ntmps31
  go_wp2_with fail
  obtain ⟨x, x0, x1, x2, x3, x4, x5, x6⟩ := InsC.new w (.int .i64 op) (.int .i64 d) (.int .i64 n) (.int .i64 m) (.int .i64 a) (.int .i64 c) (.int .i64 i)
  have HB : Hid (Below w.heap.size w (w.alloc (.cells #[.int .i64 op, .int .i64 d, .int .i64 n, .int .i64 m, .int .i64 a, .int .i64 c, .int .i64 i] 29))) := Lib.hid ((Below.refl _ _).alloc (Nat.le_refl _) _)
  obtain ⟨b, hb⟩ : ∃ b, b = w.heap.size := ⟨_, rfl⟩
  have HN : Hid (w.heap.size = b) := Lib.hid hb.symm
  rw [← hb] at x x0 x1 x2 x3 x4 x5 x6
  rw [← hb]
  clear hb
  generalize w.alloc (.cells #[.int .i64 op, .int .i64 d, .int .i64 n, .int .i64 m, .int .i64 a, .int .i64 c, .int .i64 i] 29) = w1 at *
  have HI := Lib.hid (show InsC w1 b (.int .i64 op) (.int .i64 d) (.int .i64 n) (.int .i64 m) (.int .i64 a) (.int .i64 c) (.int .i64 i) from ⟨x, x0, x1, x2, x3, x4, x5, x6⟩)
  first | (go_region_with (first | (go_at_call 110; refine (H34.out _).mono ?_; rintro e w' ⟨rfl, rfl⟩) | (go_at_call 112; refine (H36.out _).mono ?_; rintro e w' ⟨rfl, rfl⟩) | (go_at_call 111; refine (H35.out _).mono ?_; rintro e w2 ⟨rfl, hb1⟩; have HB2 := Lib.hid (below_step HB.out hb1 rfl rfl rfl rfl); clear hb1))) | fail
  all_goals
    go_wp2
    go_ret
    exact ⟨rfl, by first | exact HB2.out | exact HB2.out.drew | exact HB2.out.drew.drew⟩
set_option maxRecDepth 100000 in
set_option maxHeartbeats 2000000 in
theorem check_f37 (op d n m a c i F : Int) (w : World) (h34 : ∀ w, Calls Try.prog 110 #[.int .i64 op] w fun e w' => e = .returned (.bool true) ∧ w' = w) (h36 : ∀ w, Calls Try.prog 112 #[.int .i64 op] w fun e w' => e = .returned (.int .i64 F) ∧ w' = w) (h35 : ∀ w, Calls Try.prog 111 #[.agg #[.int .i64 op, .int .i64 d, .int .i64 n, .int .i64 m, .int .i64 a, .int .i64 c, .int .i64 i], .int .i64 F] w fun e w' => e = .returned (.bool true) ∧ Below w.heap.size w w') (h37 : ∀ w, Calls Try.prog 113 #[.agg #[.int .i64 op, .int .i64 d, .int .i64 n, .int .i64 m, .int .i64 a, .int .i64 c, .int .i64 i]] w fun e w' => e = .returned (.bool false) ∧ Below w.heap.size w w') :
    Calls Try.prog 31 #[.agg #[.int .i64 op, .int .i64 d, .int .i64 n, .int .i64 m, .int .i64 a, .int .i64 c, .int .i64 i]] w fun e w' => e = .returned (.int .i64 1) ∧ Below w.heap.size w w' := by
  have H34 := Lib.hid h34
  have H36 := Lib.hid h36
  have H35 := Lib.hid h35
  have H37 := Lib.hid h37
  clear h34 h36 h35 h37
  go_enter Try.func31, Try.ntmps31
  go_wp2_with fail
  obtain ⟨x, x0, x1, x2, x3, x4, x5, x6⟩ := InsC.new w (.int .i64 op) (.int .i64 d) (.int .i64 n) (.int .i64 m) (.int .i64 a) (.int .i64 c) (.int .i64 i)
  have HB : Hid (Below w.heap.size w (w.alloc (.cells #[.int .i64 op, .int .i64 d, .int .i64 n, .int .i64 m, .int .i64 a, .int .i64 c, .int .i64 i] 29))) := Lib.hid ((Below.refl _ _).alloc (Nat.le_refl _) _)
  obtain ⟨b, hb⟩ : ∃ b, b = w.heap.size := ⟨_, rfl⟩
  have HN : Hid (w.heap.size = b) := Lib.hid hb.symm
  rw [← hb] at x x0 x1 x2 x3 x4 x5 x6
  rw [← hb]
  clear hb
  generalize w.alloc (.cells #[.int .i64 op, .int .i64 d, .int .i64 n, .int .i64 m, .int .i64 a, .int .i64 c, .int .i64 i] 29) = w1 at *
  have HI := Lib.hid (show InsC w1 b (.int .i64 op) (.int .i64 d) (.int .i64 n) (.int .i64 m) (.int .i64 a) (.int .i64 c) (.int .i64 i) from ⟨x, x0, x1, x2, x3, x4, x5, x6⟩)
  first | (go_region_with (first | (go_at_call 110; refine (H34.out _).mono ?_; rintro e w' ⟨rfl, rfl⟩) | (go_at_call 112; refine (H36.out _).mono ?_; rintro e w' ⟨rfl, rfl⟩) | (go_at_call 111; refine (H35.out _).mono ?_; rintro e w2 ⟨rfl, hb1⟩; have HI2 := Lib.hid (HI.out.below' hb1 rfl); have HB2 := Lib.hid (below_step HB.out hb1 rfl rfl rfl rfl); obtain ⟨hl, i0, i1, i2, i3, i4, i5, i6⟩ := HI2.out; clear hb1) | (go_at_call 113; refine (H37.out _).mono ?_; rintro e w3 ⟨rfl, hb1⟩; have HB3 := Lib.hid (below_step HB2.out hb1 rfl rfl rfl rfl); clear hb1))) | fail
  all_goals
    go_wp2
    go_ret
    exact ⟨rfl, by first | exact HB3.out | exact HB3.out.drew | exact HB3.out.drew.drew⟩
set_option maxRecDepth 100000 in
set_option maxHeartbeats 2000000 in
theorem check_f38 (op d n m a c i F : Int) (w : World) (h34 : ∀ w, Calls Try.prog 110 #[.int .i64 op] w fun e w' => e = .returned (.bool true) ∧ w' = w) (h36 : ∀ w, Calls Try.prog 112 #[.int .i64 op] w fun e w' => e = .returned (.int .i64 F) ∧ w' = w) (h35 : ∀ w, Calls Try.prog 111 #[.agg #[.int .i64 op, .int .i64 d, .int .i64 n, .int .i64 m, .int .i64 a, .int .i64 c, .int .i64 i], .int .i64 F] w fun e w' => e = .returned (.bool true) ∧ Below w.heap.size w w') (h37 : ∀ w, Calls Try.prog 113 #[.agg #[.int .i64 op, .int .i64 d, .int .i64 n, .int .i64 m, .int .i64 a, .int .i64 c, .int .i64 i]] w fun e w' => e = .returned (.bool true) ∧ Below w.heap.size w w') (h38 : ∀ w, Calls Try.prog 114 #[.agg #[.int .i64 op, .int .i64 d, .int .i64 n, .int .i64 m, .int .i64 a, .int .i64 c, .int .i64 i]] w fun e w' => e = .returned (.bool false) ∧ Below w.heap.size w w') :
    Calls Try.prog 31 #[.agg #[.int .i64 op, .int .i64 d, .int .i64 n, .int .i64 m, .int .i64 a, .int .i64 c, .int .i64 i]] w fun e w' => e = .returned (.int .i64 1) ∧ Below w.heap.size w w' := by
  have H34 := Lib.hid h34
  have H36 := Lib.hid h36
  have H35 := Lib.hid h35
  have H37 := Lib.hid h37
  have H38 := Lib.hid h38
  clear h34 h36 h35 h37 h38
  go_enter Try.func31, Try.ntmps31
  go_wp2_with fail
  obtain ⟨x, x0, x1, x2, x3, x4, x5, x6⟩ := InsC.new w (.int .i64 op) (.int .i64 d) (.int .i64 n) (.int .i64 m) (.int .i64 a) (.int .i64 c) (.int .i64 i)
  have HB : Hid (Below w.heap.size w (w.alloc (.cells #[.int .i64 op, .int .i64 d, .int .i64 n, .int .i64 m, .int .i64 a, .int .i64 c, .int .i64 i] 29))) := Lib.hid ((Below.refl _ _).alloc (Nat.le_refl _) _)
  obtain ⟨b, hb⟩ : ∃ b, b = w.heap.size := ⟨_, rfl⟩
  have HN : Hid (w.heap.size = b) := Lib.hid hb.symm
  rw [← hb] at x x0 x1 x2 x3 x4 x5 x6
  rw [← hb]
  clear hb
  generalize w.alloc (.cells #[.int .i64 op, .int .i64 d, .int .i64 n, .int .i64 m, .int .i64 a, .int .i64 c, .int .i64 i] 29) = w1 at *
  have HI := Lib.hid (show InsC w1 b (.int .i64 op) (.int .i64 d) (.int .i64 n) (.int .i64 m) (.int .i64 a) (.int .i64 c) (.int .i64 i) from ⟨x, x0, x1, x2, x3, x4, x5, x6⟩)
  first | (go_region_with (first | (go_at_call 110; refine (H34.out _).mono ?_; rintro e w' ⟨rfl, rfl⟩) | (go_at_call 112; refine (H36.out _).mono ?_; rintro e w' ⟨rfl, rfl⟩) | (go_at_call 111; refine (H35.out _).mono ?_; rintro e w2 ⟨rfl, hb1⟩; have HI2 := Lib.hid (HI.out.below' hb1 rfl); have HB2 := Lib.hid (below_step HB.out hb1 rfl rfl rfl rfl); obtain ⟨hl, i0, i1, i2, i3, i4, i5, i6⟩ := HI2.out; clear hb1) | (go_at_call 113; refine (H37.out _).mono ?_; rintro e w3 ⟨rfl, hb1⟩; have HI3 := Lib.hid (HI2.out.below' hb1 rfl); have HB3 := Lib.hid (below_step HB2.out hb1 rfl rfl rfl rfl); obtain ⟨hl, i0, i1, i2, i3, i4, i5, i6⟩ := HI3.out; clear hb1) | (go_at_call 114; refine (H38.out _).mono ?_; rintro e w4 ⟨rfl, hb1⟩; have HB4 := Lib.hid (below_step HB3.out hb1 rfl rfl rfl rfl); clear hb1))) | fail
  all_goals
    go_wp2
    go_ret
    exact ⟨rfl, by first | exact HB4.out | exact HB4.out.drew | exact HB4.out.drew.drew⟩
set_option maxRecDepth 100000 in
set_option maxHeartbeats 2000000 in
theorem check_f39 (op d n m a c i F : Int) (w : World) (h34 : ∀ w, Calls Try.prog 110 #[.int .i64 op] w fun e w' => e = .returned (.bool true) ∧ w' = w) (h36 : ∀ w, Calls Try.prog 112 #[.int .i64 op] w fun e w' => e = .returned (.int .i64 F) ∧ w' = w) (h35 : ∀ w, Calls Try.prog 111 #[.agg #[.int .i64 op, .int .i64 d, .int .i64 n, .int .i64 m, .int .i64 a, .int .i64 c, .int .i64 i], .int .i64 F] w fun e w' => e = .returned (.bool true) ∧ Below w.heap.size w w') (h37 : ∀ w, Calls Try.prog 113 #[.agg #[.int .i64 op, .int .i64 d, .int .i64 n, .int .i64 m, .int .i64 a, .int .i64 c, .int .i64 i]] w fun e w' => e = .returned (.bool true) ∧ Below w.heap.size w w') (h38 : ∀ w, Calls Try.prog 114 #[.agg #[.int .i64 op, .int .i64 d, .int .i64 n, .int .i64 m, .int .i64 a, .int .i64 c, .int .i64 i]] w fun e w' => e = .returned (.bool true) ∧ Below w.heap.size w w') (h39 : ∀ w, Calls Try.prog 115 #[.agg #[.int .i64 op, .int .i64 d, .int .i64 n, .int .i64 m, .int .i64 a, .int .i64 c, .int .i64 i]] w fun e w' => e = .returned (.bool false) ∧ Below w.heap.size w w') :
    Calls Try.prog 31 #[.agg #[.int .i64 op, .int .i64 d, .int .i64 n, .int .i64 m, .int .i64 a, .int .i64 c, .int .i64 i]] w fun e w' => e = .returned (.int .i64 1) ∧ Below w.heap.size w w' := by
  have H34 := Lib.hid h34
  have H36 := Lib.hid h36
  have H35 := Lib.hid h35
  have H37 := Lib.hid h37
  have H38 := Lib.hid h38
  have H39 := Lib.hid h39
  clear h34 h36 h35 h37 h38 h39
  go_enter Try.func31, Try.ntmps31
  go_wp2_with fail
  obtain ⟨x, x0, x1, x2, x3, x4, x5, x6⟩ := InsC.new w (.int .i64 op) (.int .i64 d) (.int .i64 n) (.int .i64 m) (.int .i64 a) (.int .i64 c) (.int .i64 i)
  have HB : Hid (Below w.heap.size w (w.alloc (.cells #[.int .i64 op, .int .i64 d, .int .i64 n, .int .i64 m, .int .i64 a, .int .i64 c, .int .i64 i] 29))) := Lib.hid ((Below.refl _ _).alloc (Nat.le_refl _) _)
  obtain ⟨b, hb⟩ : ∃ b, b = w.heap.size := ⟨_, rfl⟩
  have HN : Hid (w.heap.size = b) := Lib.hid hb.symm
  rw [← hb] at x x0 x1 x2 x3 x4 x5 x6
  rw [← hb]
  clear hb
  generalize w.alloc (.cells #[.int .i64 op, .int .i64 d, .int .i64 n, .int .i64 m, .int .i64 a, .int .i64 c, .int .i64 i] 29) = w1 at *
  have HI := Lib.hid (show InsC w1 b (.int .i64 op) (.int .i64 d) (.int .i64 n) (.int .i64 m) (.int .i64 a) (.int .i64 c) (.int .i64 i) from ⟨x, x0, x1, x2, x3, x4, x5, x6⟩)
  first | (go_region_with (first | (go_at_call 110; refine (H34.out _).mono ?_; rintro e w' ⟨rfl, rfl⟩) | (go_at_call 112; refine (H36.out _).mono ?_; rintro e w' ⟨rfl, rfl⟩) | (go_at_call 111; refine (H35.out _).mono ?_; rintro e w2 ⟨rfl, hb1⟩; have HI2 := Lib.hid (HI.out.below' hb1 rfl); have HB2 := Lib.hid (below_step HB.out hb1 rfl rfl rfl rfl); obtain ⟨hl, i0, i1, i2, i3, i4, i5, i6⟩ := HI2.out; clear hb1) | (go_at_call 113; refine (H37.out _).mono ?_; rintro e w3 ⟨rfl, hb1⟩; have HI3 := Lib.hid (HI2.out.below' hb1 rfl); have HB3 := Lib.hid (below_step HB2.out hb1 rfl rfl rfl rfl); obtain ⟨hl, i0, i1, i2, i3, i4, i5, i6⟩ := HI3.out; clear hb1) | (go_at_call 114; refine (H38.out _).mono ?_; rintro e w4 ⟨rfl, hb1⟩; have HI4 := Lib.hid (HI3.out.below' hb1 rfl); have HB4 := Lib.hid (below_step HB3.out hb1 rfl rfl rfl rfl); obtain ⟨hl, i0, i1, i2, i3, i4, i5, i6⟩ := HI4.out; clear hb1) | (go_at_call 115; refine (H39.out _).mono ?_; rintro e w5 ⟨rfl, hb1⟩; have HB5 := Lib.hid (below_step HB4.out hb1 rfl rfl rfl rfl); clear hb1))) | fail
  all_goals
    go_wp2
    go_ret
    exact ⟨rfl, by first | exact HB5.out | exact HB5.out.drew | exact HB5.out.drew.drew⟩
set_option maxRecDepth 100000 in
set_option maxHeartbeats 2000000 in
theorem check_t (op d n m a c i F : Int) (w : World) (h34 : ∀ w, Calls Try.prog 110 #[.int .i64 op] w fun e w' => e = .returned (.bool true) ∧ w' = w) (h36 : ∀ w, Calls Try.prog 112 #[.int .i64 op] w fun e w' => e = .returned (.int .i64 F) ∧ w' = w) (h35 : ∀ w, Calls Try.prog 111 #[.agg #[.int .i64 op, .int .i64 d, .int .i64 n, .int .i64 m, .int .i64 a, .int .i64 c, .int .i64 i], .int .i64 F] w fun e w' => e = .returned (.bool true) ∧ Below w.heap.size w w') (h37 : ∀ w, Calls Try.prog 113 #[.agg #[.int .i64 op, .int .i64 d, .int .i64 n, .int .i64 m, .int .i64 a, .int .i64 c, .int .i64 i]] w fun e w' => e = .returned (.bool true) ∧ Below w.heap.size w w') (h38 : ∀ w, Calls Try.prog 114 #[.agg #[.int .i64 op, .int .i64 d, .int .i64 n, .int .i64 m, .int .i64 a, .int .i64 c, .int .i64 i]] w fun e w' => e = .returned (.bool true) ∧ Below w.heap.size w w') (h39 : ∀ w, Calls Try.prog 115 #[.agg #[.int .i64 op, .int .i64 d, .int .i64 n, .int .i64 m, .int .i64 a, .int .i64 c, .int .i64 i]] w fun e w' => e = .returned (.bool true) ∧ Below w.heap.size w w') :
    Calls Try.prog 31 #[.agg #[.int .i64 op, .int .i64 d, .int .i64 n, .int .i64 m, .int .i64 a, .int .i64 c, .int .i64 i]] w fun e w' => e = .returned (.int .i64 0) ∧ Below w.heap.size w w' := by
  have H34 := Lib.hid h34
  have H36 := Lib.hid h36
  have H35 := Lib.hid h35
  have H37 := Lib.hid h37
  have H38 := Lib.hid h38
  have H39 := Lib.hid h39
  clear h34 h36 h35 h37 h38 h39
  go_enter Try.func31, Try.ntmps31
  go_wp2_with fail
  obtain ⟨x, x0, x1, x2, x3, x4, x5, x6⟩ := InsC.new w (.int .i64 op) (.int .i64 d) (.int .i64 n) (.int .i64 m) (.int .i64 a) (.int .i64 c) (.int .i64 i)
  have HB : Hid (Below w.heap.size w (w.alloc (.cells #[.int .i64 op, .int .i64 d, .int .i64 n, .int .i64 m, .int .i64 a, .int .i64 c, .int .i64 i] 29))) := Lib.hid ((Below.refl _ _).alloc (Nat.le_refl _) _)
  obtain ⟨b, hb⟩ : ∃ b, b = w.heap.size := ⟨_, rfl⟩
  have HN : Hid (w.heap.size = b) := Lib.hid hb.symm
  rw [← hb] at x x0 x1 x2 x3 x4 x5 x6
  rw [← hb]
  clear hb
  generalize w.alloc (.cells #[.int .i64 op, .int .i64 d, .int .i64 n, .int .i64 m, .int .i64 a, .int .i64 c, .int .i64 i] 29) = w1 at *
  have HQ : Hid (Below w1.heap.size w1 w1.drew) := Lib.hid (Below.refl _ _).drew
  first | (go_region_held3 (fun w' => w'.cell? ⟨b, 0, none⟩ = some (.int .i64 op) ∧ w'.cell? ⟨b, 1, none⟩ = some (.int .i64 d) ∧ w'.cell? ⟨b, 2, none⟩ = some (.int .i64 n) ∧ w'.cell? ⟨b, 3, none⟩ = some (.int .i64 m) ∧ w'.cell? ⟨b, 4, none⟩ = some (.int .i64 a) ∧ w'.cell? ⟨b, 5, none⟩ = some (.int .i64 c) ∧ w'.cell? ⟨b, 6, none⟩ = some (.int .i64 i) ∧ Hid (Below w1.heap.size w1 w')) (first | exact ⟨x0, x1, x2, x3, x4, x5, x6, HQ⟩ | exact keepC x (by assumption) (by assumption)) (first | (go_at_call 110; refine (H34.out _).mono ?_; rintro e w' ⟨rfl, rfl⟩) | (go_at_call 112; refine (H36.out _).mono ?_; rintro e w' ⟨rfl, rfl⟩) | (go_at_call 111; refine (H35.out _).mono ?_; rintro e w' ⟨rfl, hb⟩) | (go_at_call 113; refine (H37.out _).mono ?_; rintro e w' ⟨rfl, hb⟩) | (go_at_call 114; refine (H38.out _).mono ?_; rintro e w' ⟨rfl, hb⟩) | (go_at_call 115; refine (H39.out _).mono ?_; rintro e w' ⟨rfl, hb⟩))) | fail
  rename_i hH
  obtain ⟨_, _, _, _, _, _, _, hk⟩ := hH
  have HB5 := Lib.hid (HB.out.trans (hk.out.mono HB.out.size))
  clear hk
  go_wp2
  go_ret
  exact ⟨rfl, HB5.out⟩
theorem check_gen (op d n m a c i F : Int) (b5 b7 b8 b9 : Bool) (w : World) (h34 : ∀ w, Calls Try.prog 110 #[.int .i64 op] w fun e w' => e = .returned (.bool true) ∧ w' = w) (h36 : ∀ w, Calls Try.prog 112 #[.int .i64 op] w fun e w' => e = .returned (.int .i64 F) ∧ w' = w) (h35 : ∀ w, Calls Try.prog 111 #[.agg #[.int .i64 op, .int .i64 d, .int .i64 n, .int .i64 m, .int .i64 a, .int .i64 c, .int .i64 i], .int .i64 F] w fun e w' => e = .returned (.bool b5) ∧ Below w.heap.size w w') (h37 : ∀ w, Calls Try.prog 113 #[.agg #[.int .i64 op, .int .i64 d, .int .i64 n, .int .i64 m, .int .i64 a, .int .i64 c, .int .i64 i]] w fun e w' => e = .returned (.bool b7) ∧ Below w.heap.size w w') (h38 : ∀ w, Calls Try.prog 114 #[.agg #[.int .i64 op, .int .i64 d, .int .i64 n, .int .i64 m, .int .i64 a, .int .i64 c, .int .i64 i]] w fun e w' => e = .returned (.bool b8) ∧ Below w.heap.size w w') (h39 : ∀ w, Calls Try.prog 115 #[.agg #[.int .i64 op, .int .i64 d, .int .i64 n, .int .i64 m, .int .i64 a, .int .i64 c, .int .i64 i]] w fun e w' => e = .returned (.bool b9) ∧ Below w.heap.size w w') :
    Calls Try.prog 31 #[.agg #[.int .i64 op, .int .i64 d, .int .i64 n, .int .i64 m, .int .i64 a, .int .i64 c, .int .i64 i]] w fun e w' => e = .returned (.int .i64 (er (b5 && b7 && b8 && b9))) ∧ Below w.heap.size w w' := by
  cases b5
  · exact check_f35 op d n m a c i F w h34 h36 h35
  · cases b7
    · exact check_f37 op d n m a c i F w h34 h36 h35 h37
    · cases b8
      · exact check_f38 op d n m a c i F w h34 h36 h35 h37 h38
      · cases b9
        · exact check_f39 op d n m a c i F w h34 h36 h35 h37 h38 h39
        · exact check_t op d n m a c i F w h34 h36 h35 h37 h38 h39
end Go.Proofs.Ytnbpgoacooddjaa.Fr
