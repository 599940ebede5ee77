import Derived.Test.YtapcapcbndooiaaRows
import Derived.WalkKit
import Derived.ProofKit
import Derived.OpenShut
import Derived.Deep.QuietTactic
import Derived.BigQuiet
import Derived.Outline
import Derived.WalkSmall
import Derived.WalkLawsBesides
import Derived.WalkSpells
import Derived.BigGuardPart
import Derived.Test.YtapcapcbndooiaaCheckC
import Derived.Lib.Hide
namespace Go.Proofs.Ytapcapcbndooiaa
open Go.ChangeShapes Go.WideShapes Go.ChangeAt Go.RowKit
set_option linter.unusedVariables false
theorem mk5 (w : World) : (Instr.makeSlice 52 (.int .i64 5) (.int .i64 5)).run Try.prog w = .ok (.slice (some ⟨w.heap.size, 0, none⟩) 5 5) (w.alloc (.cells #[.int .u64 0, .int .u64 0, .bool false, .bool false, .int .u64 0, .int .u64 0, .bool false, .bool false, .int .u64 0, .int .u64 0, .bool false, .bool false, .int .u64 0, .int .u64 0, .bool false, .bool false, .int .u64 0, .int .u64 0, .bool false, .bool false] 43)) := by kernel_rfl
set_option maxRecDepth 100000 in
set_option maxHeartbeats 4000000 in
theorem reg_c (c0 c1 c2 c3 c4 : Int) (w : World) (h : ok5 c0 c1 c2 c3 c4) : Calls Try.prog 52 #[.agg #[.int .i64 c0, .int .i64 c1, .int .i64 c2, .int .i64 c3, .int .i64 c4]] w fun e w' => e = .returned (.slice (some ⟨w.heap.size + 2, 0, none⟩) 5 5) ∧ ((w.alloc (.cells #[.int .i64 c0, .int .i64 c1, .int .i64 c2, .int .i64 c3, .int .i64 c4] 68)).alloc (.cells #[.int .i64 c0, .int .i64 c1, .int .i64 c2, .int .i64 c3, .int .i64 c4] 68)).alloc (.cells (regA c0 c1 c3) 43) = w' := by
  have HC : checkS c0 c1 c2 c3 c4 = 0 := if_pos h
  obtain ⟨⟨h1, h2⟩, ⟨h3, h4⟩, ⟨h5, h6⟩, ⟨h7, h8⟩, h9, h10, h11⟩ := h
  have hmk := mk5
  have HE : Hid (131072 * c0 = c0 * 131072) := Lib.hid (Int.mul_comm _ _)
  by_cases k1 : c1 < 1
  · by_cases k2 : c3 < 16
    · have HR : Hid (regA c0 c1 c3 = #[.int .u64 65536, .int .u64 262144, .bool false, .bool true, .int .u64 524288, .int .u64 262144, .bool true, .bool false, .int .u64 1048576, .int .u64 (131072 * c0), .bool true, .bool false, .int .u64 2097152, .int .u64 (8), .bool true, .bool false, .int .u64 3145728, .int .u64 (64), .bool true, .bool true]) := Lib.hid (by unfold regA hp cd; rw [if_pos k1, if_pos k2])
      go_enter Try.func52, Try.ntmps52
      go_wp2_with (go_at_call 55; refine (check_c _ _ _ _ _ _).mono ?_; rintro e w' ⟨rfl, rfl⟩)
      go_ret
      exact ⟨rfl, by rw [HR.out]⟩
    · have HR : Hid (regA c0 c1 c3 = #[.int .u64 65536, .int .u64 262144, .bool false, .bool true, .int .u64 524288, .int .u64 262144, .bool true, .bool false, .int .u64 1048576, .int .u64 (131072 * c0), .bool true, .bool false, .int .u64 2097152, .int .u64 (8), .bool true, .bool false, .int .u64 3145728, .int .u64 (4 * c3), .bool true, .bool true]) := Lib.hid (by unfold regA hp cd; rw [if_pos k1, if_neg k2])
      go_enter Try.func52, Try.ntmps52
      go_wp2_with (go_at_call 55; refine (check_c _ _ _ _ _ _).mono ?_; rintro e w' ⟨rfl, rfl⟩)
      go_ret
      exact ⟨rfl, by rw [HR.out]⟩
  · by_cases k2 : c3 < 16
    · have HR : Hid (regA c0 c1 c3 = #[.int .u64 65536, .int .u64 262144, .bool false, .bool true, .int .u64 524288, .int .u64 262144, .bool true, .bool false, .int .u64 1048576, .int .u64 (131072 * c0), .bool true, .bool false, .int .u64 2097152, .int .u64 (8 * c1), .bool true, .bool false, .int .u64 3145728, .int .u64 (64), .bool true, .bool true]) := Lib.hid (by unfold regA hp cd; rw [if_neg k1, if_pos k2])
      go_enter Try.func52, Try.ntmps52
      go_wp2_with (go_at_call 55; refine (check_c _ _ _ _ _ _).mono ?_; rintro e w' ⟨rfl, rfl⟩)
      go_ret
      exact ⟨rfl, by rw [HR.out]⟩
    · have HR : Hid (regA c0 c1 c3 = #[.int .u64 65536, .int .u64 262144, .bool false, .bool true, .int .u64 524288, .int .u64 262144, .bool true, .bool false, .int .u64 1048576, .int .u64 (131072 * c0), .bool true, .bool false, .int .u64 2097152, .int .u64 (8 * c1), .bool true, .bool false, .int .u64 3145728, .int .u64 (4 * c3), .bool true, .bool true]) := Lib.hid (by unfold regA hp cd; rw [if_neg k1, if_neg k2])
      go_enter Try.func52, Try.ntmps52
      go_wp2_with (go_at_call 55; refine (check_c _ _ _ _ _ _).mono ?_; rintro e w' ⟨rfl, rfl⟩)
      go_ret
      exact ⟨rfl, by rw [HR.out]⟩
set_option maxRecDepth 100000 in
set_option maxHeartbeats 4000000 in
theorem rreg_c (c0 c1 c2 c3 c4 : Int) (w : World) (h : ok5 c0 c1 c2 c3 c4) : Calls Try.prog 53 #[.agg #[.int .i64 c0, .int .i64 c1, .int .i64 c2, .int .i64 c3, .int .i64 c4]] w fun e w' => e = .returned (.slice (some ⟨w.heap.size + 2, 0, none⟩) 5 5) ∧ ((w.alloc (.cells #[.int .i64 c0, .int .i64 c1, .int .i64 c2, .int .i64 c3, .int .i64 c4] 71)).alloc (.cells #[.int .i64 c0, .int .i64 c1, .int .i64 c2, .int .i64 c3, .int .i64 c4] 71)).alloc (.cells (regA c0 c1 c3) 43) = w' := by
  have HC : checkS c0 c1 c2 c3 c4 = 0 := if_pos h
  obtain ⟨⟨h1, h2⟩, ⟨h3, h4⟩, ⟨h5, h6⟩, ⟨h7, h8⟩, h9, h10, h11⟩ := h
  have HE : Hid (131072 * c0 = c0 * 131072) := Lib.hid (Int.mul_comm _ _)
  by_cases k1 : c1 < 1
  · by_cases k2 : c3 < 16
    · have HR : Hid (regA c0 c1 c3 = #[.int .u64 65536, .int .u64 262144, .bool false, .bool true, .int .u64 524288, .int .u64 262144, .bool true, .bool false, .int .u64 1048576, .int .u64 (c0 * 131072), .bool true, .bool false, .int .u64 2097152, .int .u64 (8), .bool true, .bool false, .int .u64 3145728, .int .u64 (64), .bool true, .bool true]) := Lib.hid (by unfold regA hp cd; rw [if_pos k1, if_pos k2, Int.mul_comm 131072 c0])
      go_enter Try.func53, Try.ntmps53
      go_wp2_with (go_at_call 56; refine (rcheck_c _ _ _ _ _ _).mono ?_; rintro e w' ⟨rfl, rfl⟩)
      go_ret
      exact ⟨rfl, by rw [HR.out]⟩
    · have HR : Hid (regA c0 c1 c3 = #[.int .u64 65536, .int .u64 262144, .bool false, .bool true, .int .u64 524288, .int .u64 262144, .bool true, .bool false, .int .u64 1048576, .int .u64 (c0 * 131072), .bool true, .bool false, .int .u64 2097152, .int .u64 (8), .bool true, .bool false, .int .u64 3145728, .int .u64 (4 * c3), .bool true, .bool true]) := Lib.hid (by unfold regA hp cd; rw [if_pos k1, if_neg k2, Int.mul_comm 131072 c0])
      go_enter Try.func53, Try.ntmps53
      go_wp2_with (go_at_call 56; refine (rcheck_c _ _ _ _ _ _).mono ?_; rintro e w' ⟨rfl, rfl⟩)
      go_ret
      exact ⟨rfl, by rw [HR.out]⟩
  · by_cases k2 : c3 < 16
    · have HR : Hid (regA c0 c1 c3 = #[.int .u64 65536, .int .u64 262144, .bool false, .bool true, .int .u64 524288, .int .u64 262144, .bool true, .bool false, .int .u64 1048576, .int .u64 (c0 * 131072), .bool true, .bool false, .int .u64 2097152, .int .u64 (8 * c1), .bool true, .bool false, .int .u64 3145728, .int .u64 (64), .bool true, .bool true]) := Lib.hid (by unfold regA hp cd; rw [if_neg k1, if_pos k2, Int.mul_comm 131072 c0])
      go_enter Try.func53, Try.ntmps53
      go_wp2_with (go_at_call 56; refine (rcheck_c _ _ _ _ _ _).mono ?_; rintro e w' ⟨rfl, rfl⟩)
      go_ret
      exact ⟨rfl, by rw [HR.out]⟩
    · have HR : Hid (regA c0 c1 c3 = #[.int .u64 65536, .int .u64 262144, .bool false, .bool true, .int .u64 524288, .int .u64 262144, .bool true, .bool false, .int .u64 1048576, .int .u64 (c0 * 131072), .bool true, .bool false, .int .u64 2097152, .int .u64 (8 * c1), .bool true, .bool false, .int .u64 3145728, .int .u64 (4 * c3), .bool true, .bool true]) := Lib.hid (by unfold regA hp cd; rw [if_neg k1, if_neg k2, Int.mul_comm 131072 c0])
      go_enter Try.func53, Try.ntmps53
      go_wp2_with (go_at_call 56; refine (rcheck_c _ _ _ _ _ _).mono ?_; rintro e w' ⟨rfl, rfl⟩)
      go_ret
      exact ⟨rfl, by rw [HR.out]⟩
theorem reg_n (c0 c1 c2 c3 c4 : Int) (w : World) (h : ¬ ok5 c0 c1 c2 c3 c4) : Calls Try.prog 52 #[.agg #[.int .i64 c0, .int .i64 c1, .int .i64 c2, .int .i64 c3, .int .i64 c4]] w fun e w' => e = .returned (.slice none 0 0) ∧ (w.alloc (.cells #[.int .i64 c0, .int .i64 c1, .int .i64 c2, .int .i64 c3, .int .i64 c4] 68)).alloc (.cells #[.int .i64 c0, .int .i64 c1, .int .i64 c2, .int .i64 c3, .int .i64 c4] 68) = w' := by
  have HC : checkS c0 c1 c2 c3 c4 = 1 := if_neg h
  clear h
  go_enter Try.func52, Try.ntmps52
  go_wp2_with (go_at_call 55; refine (check_c _ _ _ _ _ _).mono ?_; rintro e w' ⟨rfl, rfl⟩)
  go_ret
  exact ⟨rfl, rfl⟩
theorem rreg_n (c0 c1 c2 c3 c4 : Int) (w : World) (h : ¬ ok5 c0 c1 c2 c3 c4) : Calls Try.prog 53 #[.agg #[.int .i64 c0, .int .i64 c1, .int .i64 c2, .int .i64 c3, .int .i64 c4]] w fun e w' => e = .returned (.slice none 0 0) ∧ (w.alloc (.cells #[.int .i64 c0, .int .i64 c1, .int .i64 c2, .int .i64 c3, .int .i64 c4] 71)).alloc (.cells #[.int .i64 c0, .int .i64 c1, .int .i64 c2, .int .i64 c3, .int .i64 c4] 71) = w' := by
  have HC : checkS c0 c1 c2 c3 c4 = 1 := if_neg h
  clear h
  go_enter Try.func53, Try.ntmps53
  go_wp2_with (go_at_call 56; refine (rcheck_c _ _ _ _ _ _).mono ?_; rintro e w' ⟨rfl, rfl⟩)
  go_ret
  exact ⟨rfl, rfl⟩
end Go.Proofs.Ytapcapcbndooiaa
