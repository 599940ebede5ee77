import Derived.Test.YtpjfjdncdiemlaaSxK
namespace Go.Proofs.Ytpjfjdncdiemlaa
open Go.ChangeShapes Go.WideShapes Go.ChangeAt Go.RowKit
set_option linter.unusedVariables false
set_option maxRecDepth 100000 in
theorem neqnf (w : World) : (binOp .neq 79 Value.nilFunc Value.nilFunc).run Try.prog w = .ok (.bool false) w := by kernel_rfl
set_option maxRecDepth 100000 in
set_option maxHeartbeats 4000000 in
theorem computes_0 (w : World) : Calls Try.prog 67 #[.int .i64 0] w fun e w' => e = .returned (Value.nilFunc) ∧ w' = w := by
  go_enter Try.func67, Try.ntmps67
  go_wp2
  go_ret
  exact ⟨rfl, rfl⟩
set_option maxRecDepth 100000 in
set_option maxHeartbeats 4000000 in
theorem doing_0 (w : World) : Calls Try.prog 41 #[.int .i64 0] w fun e w' => e = .returned (.nilIface) ∧ w' = w := by
  have hn := neqnf
  go_enter Try.func41, Try.ntmps41
  go_wp2_with (go_at_call 67; refine (computes_0 _).mono ?_; rintro e w' ⟨rfl, rfl⟩)
  go_ret
  exact ⟨rfl, rfl⟩
set_option maxRecDepth 100000 in
set_option maxHeartbeats 4000000 in
theorem computes_1 (w : World) : Calls Try.prog 67 #[.int .i64 1] w fun e w' => e = .returned (Value.nilFunc) ∧ w' = w := by
  go_enter Try.func67, Try.ntmps67
  go_wp2
  go_ret
  exact ⟨rfl, rfl⟩
set_option maxRecDepth 100000 in
set_option maxHeartbeats 4000000 in
theorem doing_1 (w : World) : Calls Try.prog 41 #[.int .i64 1] w fun e w' => e = .returned (.nilIface) ∧ w' = w := by
  have hn := neqnf
  go_enter Try.func41, Try.ntmps41
  go_wp2_with (go_at_call 67; refine (computes_1 _).mono ?_; rintro e w' ⟨rfl, rfl⟩)
  go_ret
  exact ⟨rfl, rfl⟩
set_option maxRecDepth 100000 in
set_option maxHeartbeats 4000000 in
theorem computes_4 (w : World) : Calls Try.prog 67 #[.int .i64 4] w fun e w' => e = .returned (Value.func (.func 65) #[] #[]) ∧ w' = w := by
  go_enter Try.func67, Try.ntmps67
  go_wp2
  go_ret
  exact ⟨rfl, rfl⟩
set_option maxRecDepth 100000 in
set_option maxHeartbeats 4000000 in
theorem doing_4 (w : World) : Calls Try.prog 41 #[.int .i64 4] w fun e w' => e = .returned (.iface 79 (Value.func (.func 65) #[] #[])) ∧ w' = w := by
  have hn := neqfn 65
  go_enter Try.func41, Try.ntmps41
  go_wp2_with (go_at_call 67; refine (computes_4 _).mono ?_; rintro e w' ⟨rfl, rfl⟩)
  go_ret
  exact ⟨rfl, rfl⟩
set_option maxRecDepth 100000 in
set_option maxHeartbeats 4000000 in
theorem computes_5 (w : World) : Calls Try.prog 67 #[.int .i64 5] w fun e w' => e = .returned (Value.func (.func 80) #[] #[]) ∧ w' = w := by
  go_enter Try.func67, Try.ntmps67
  go_wp2
  go_ret
  exact ⟨rfl, rfl⟩
set_option maxRecDepth 100000 in
set_option maxHeartbeats 4000000 in
theorem doing_5 (w : World) : Calls Try.prog 41 #[.int .i64 5] w fun e w' => e = .returned (.iface 79 (Value.func (.func 80) #[] #[])) ∧ w' = w := by
  have hn := neqfn 80
  go_enter Try.func41, Try.ntmps41
  go_wp2_with (go_at_call 67; refine (computes_5 _).mono ?_; rintro e w' ⟨rfl, rfl⟩)
  go_ret
  exact ⟨rfl, rfl⟩
set_option maxRecDepth 100000 in
set_option maxHeartbeats 4000000 in
theorem computes_10 (w : World) : Calls Try.prog 67 #[.int .i64 10] w fun e w' => e = .returned (Value.func (.func 83) #[] #[]) ∧ w' = w := by
  go_enter Try.func67, Try.ntmps67
  go_wp2
  go_ret
  exact ⟨rfl, rfl⟩
set_option maxRecDepth 100000 in
set_option maxHeartbeats 4000000 in
theorem doing_10 (w : World) : Calls Try.prog 41 #[.int .i64 10] w fun e w' => e = .returned (.iface 79 (Value.func (.func 83) #[] #[])) ∧ w' = w := by
  have hn := neqfn 83
  go_enter Try.func41, Try.ntmps41
  go_wp2_with (go_at_call 67; refine (computes_10 _).mono ?_; rintro e w' ⟨rfl, rfl⟩)
  go_ret
  exact ⟨rfl, rfl⟩
set_option maxRecDepth 100000 in
set_option maxHeartbeats 4000000 in
theorem computes_11 (w : World) : Calls Try.prog 67 #[.int .i64 11] w fun e w' => e = .returned (Value.func (.func 84) #[] #[]) ∧ w' = w := by
  go_enter Try.func67, Try.ntmps67
  go_wp2
  go_ret
  exact ⟨rfl, rfl⟩
set_option maxRecDepth 100000 in
set_option maxHeartbeats 4000000 in
theorem doing_11 (w : World) : Calls Try.prog 41 #[.int .i64 11] w fun e w' => e = .returned (.iface 79 (Value.func (.func 84) #[] #[])) ∧ w' = w := by
  have hn := neqfn 84
  go_enter Try.func41, Try.ntmps41
  go_wp2_with (go_at_call 67; refine (computes_11 _).mono ?_; rintro e w' ⟨rfl, rfl⟩)
  go_ret
  exact ⟨rfl, rfl⟩
set_option maxRecDepth 100000 in
set_option maxHeartbeats 4000000 in
theorem computes_15 (w : World) : Calls Try.prog 67 #[.int .i64 15] w fun e w' => e = .returned (Value.func (.func 88) #[] #[]) ∧ w' = w := by
  go_enter Try.func67, Try.ntmps67
  go_wp2
  go_ret
  exact ⟨rfl, rfl⟩
set_option maxRecDepth 100000 in
set_option maxHeartbeats 4000000 in
theorem doing_15 (w : World) : Calls Try.prog 41 #[.int .i64 15] w fun e w' => e = .returned (.iface 79 (Value.func (.func 88) #[] #[])) ∧ w' = w := by
  have hn := neqfn 88
  go_enter Try.func41, Try.ntmps41
  go_wp2_with (go_at_call 67; refine (computes_15 _).mono ?_; rintro e w' ⟨rfl, rfl⟩)
  go_ret
  exact ⟨rfl, rfl⟩
set_option maxRecDepth 100000 in
set_option maxHeartbeats 4000000 in
theorem computes_16 (w : World) : Calls Try.prog 67 #[.int .i64 16] w fun e w' => e = .returned (Value.func (.func 89) #[] #[]) ∧ w' = w := by
  go_enter Try.func67, Try.ntmps67
  go_wp2
  go_ret
  exact ⟨rfl, rfl⟩
set_option maxRecDepth 100000 in
set_option maxHeartbeats 4000000 in
theorem doing_16 (w : World) : Calls Try.prog 41 #[.int .i64 16] w fun e w' => e = .returned (.iface 79 (Value.func (.func 89) #[] #[])) ∧ w' = w := by
  have hn := neqfn 89
  go_enter Try.func41, Try.ntmps41
  go_wp2_with (go_at_call 67; refine (computes_16 _).mono ?_; rintro e w' ⟨rfl, rfl⟩)
  go_ret
  exact ⟨rfl, rfl⟩
set_option maxRecDepth 100000 in
set_option maxHeartbeats 4000000 in
theorem computes_17 (w : World) : Calls Try.prog 67 #[.int .i64 17] w fun e w' => e = .returned (Value.func (.func 89) #[] #[]) ∧ w' = w := by
  go_enter Try.func67, Try.ntmps67
  go_wp2
  go_ret
  exact ⟨rfl, rfl⟩
set_option maxRecDepth 100000 in
set_option maxHeartbeats 4000000 in
theorem doing_17 (w : World) : Calls Try.prog 41 #[.int .i64 17] w fun e w' => e = .returned (.iface 79 (Value.func (.func 89) #[] #[])) ∧ w' = w := by
  have hn := neqfn 89
  go_enter Try.func41, Try.ntmps41
  go_wp2_with (go_at_call 67; refine (computes_17 _).mono ?_; rintro e w' ⟨rfl, rfl⟩)
  go_ret
  exact ⟨rfl, rfl⟩
set_option maxRecDepth 100000 in
set_option maxHeartbeats 4000000 in
theorem computes_18 (w : World) : Calls Try.prog 67 #[.int .i64 18] w fun e w' => e = .returned (Value.func (.func 89) #[] #[]) ∧ w' = w := by
  go_enter Try.func67, Try.ntmps67
  go_wp2
  go_ret
  exact ⟨rfl, rfl⟩
set_option maxRecDepth 100000 in
set_option maxHeartbeats 4000000 in
theorem doing_18 (w : World) : Calls Try.prog 41 #[.int .i64 18] w fun e w' => e = .returned (.iface 79 (Value.func (.func 89) #[] #[])) ∧ w' = w := by
  have hn := neqfn 89
  go_enter Try.func41, Try.ntmps41
  go_wp2_with (go_at_call 67; refine (computes_18 _).mono ?_; rintro e w' ⟨rfl, rfl⟩)
  go_ret
  exact ⟨rfl, rfl⟩
set_option maxRecDepth 100000 in
set_option maxHeartbeats 4000000 in
theorem doing_20 (w : World) : Calls Try.prog 41 #[.int .i64 20] w fun e w' => e = .returned (.iface 82 (Value.func (.func 60) #[] #[])) ∧ w' = w := by
  go_enter Try.func41, Try.ntmps41
  go_wp2
  go_ret
  exact ⟨rfl, rfl⟩
set_option maxRecDepth 100000 in
set_option maxHeartbeats 4000000 in
theorem doing_21 (w : World) : Calls Try.prog 41 #[.int .i64 21] w fun e w' => e = .returned (.iface 82 (Value.func (.func 61) #[] #[])) ∧ w' = w := by
  go_enter Try.func41, Try.ntmps41
  go_wp2
  go_ret
  exact ⟨rfl, rfl⟩
set_option maxRecDepth 100000 in
set_option maxHeartbeats 4000000 in
theorem doing_22 (w : World) : Calls Try.prog 41 #[.int .i64 22] w fun e w' => e = .returned (.iface 82 (Value.func (.func 62) #[] #[])) ∧ w' = w := by
  go_enter Try.func41, Try.ntmps41
  go_wp2
  go_ret
  exact ⟨rfl, rfl⟩
set_option maxRecDepth 100000 in
set_option maxHeartbeats 4000000 in
theorem doing_23 (w : World) : Calls Try.prog 41 #[.int .i64 23] w fun e w' => e = .returned (.iface 82 (Value.func (.func 63) #[] #[])) ∧ w' = w := by
  go_enter Try.func41, Try.ntmps41
  go_wp2
  go_ret
  exact ⟨rfl, rfl⟩
set_option maxRecDepth 100000 in
set_option maxHeartbeats 4000000 in
theorem doing_24 (w : World) : Calls Try.prog 41 #[.int .i64 24] w fun e w' => e = .returned (.iface 82 (Value.func (.func 60) #[] #[])) ∧ w' = w := by
  go_enter Try.func41, Try.ntmps41
  go_wp2
  go_ret
  exact ⟨rfl, rfl⟩
set_option maxRecDepth 100000 in
set_option maxHeartbeats 4000000 in
theorem doing_25 (w : World) : Calls Try.prog 41 #[.int .i64 25] w fun e w' => e = .returned (.iface 82 (Value.func (.func 64) #[] #[])) ∧ w' = w := by
  go_enter Try.func41, Try.ntmps41
  go_wp2
  go_ret
  exact ⟨rfl, rfl⟩
set_option maxRecDepth 100000 in
set_option maxHeartbeats 4000000 in
theorem doing_26 (w : World) : Calls Try.prog 41 #[.int .i64 26] w fun e w' => e = .returned (.iface 82 (Value.func (.func 64) #[] #[])) ∧ w' = w := by
  go_enter Try.func41, Try.ntmps41
  go_wp2
  go_ret
  exact ⟨rfl, rfl⟩
set_option maxRecDepth 100000 in
set_option maxHeartbeats 4000000 in
theorem doing_27 (w : World) : Calls Try.prog 41 #[.int .i64 27] w fun e w' => e = .returned (.iface 82 (Value.func (.func 64) #[] #[])) ∧ w' = w := by
  go_enter Try.func41, Try.ntmps41
  go_wp2
  go_ret
  exact ⟨rfl, rfl⟩
set_option maxRecDepth 100000 in
set_option maxHeartbeats 4000000 in
theorem doing_28 (w : World) : Calls Try.prog 41 #[.int .i64 28] w fun e w' => e = .returned (.iface 83 (Value.func (.func 65) #[] #[])) ∧ w' = w := by
  go_enter Try.func41, Try.ntmps41
  go_wp2
  go_ret
  exact ⟨rfl, rfl⟩
set_option maxRecDepth 100000 in
set_option maxHeartbeats 4000000 in
theorem doing_29 (w : World) : Calls Try.prog 41 #[.int .i64 29] w fun e w' => e = .returned (.iface 83 (Value.func (.func 65) #[] #[])) ∧ w' = w := by
  go_enter Try.func41, Try.ntmps41
  go_wp2
  go_ret
  exact ⟨rfl, rfl⟩
set_option maxRecDepth 100000 in
set_option maxHeartbeats 4000000 in
theorem doing_30 (w : World) : Calls Try.prog 41 #[.int .i64 30] w fun e w' => e = .returned (.iface 83 (Value.func (.func 65) #[] #[])) ∧ w' = w := by
  go_enter Try.func41, Try.ntmps41
  go_wp2
  go_ret
  exact ⟨rfl, rfl⟩
set_option maxRecDepth 100000 in
set_option maxHeartbeats 4000000 in
theorem doing_31 (w : World) : Calls Try.prog 41 #[.int .i64 31] w fun e w' => e = .returned (.iface 83 (Value.func (.func 66) #[] #[])) ∧ w' = w := by
  go_enter Try.func41, Try.ntmps41
  go_wp2
  go_ret
  exact ⟨rfl, rfl⟩
set_option maxRecDepth 100000 in
set_option maxHeartbeats 4000000 in
theorem doing_32 (w : World) : Calls Try.prog 41 #[.int .i64 32] w fun e w' => e = .returned (.iface 83 (Value.func (.func 66) #[] #[])) ∧ w' = w := by
  go_enter Try.func41, Try.ntmps41
  go_wp2
  go_ret
  exact ⟨rfl, rfl⟩
set_option maxRecDepth 100000 in
set_option maxHeartbeats 4000000 in
theorem doing_33 (w : World) : Calls Try.prog 41 #[.int .i64 33] w fun e w' => e = .returned (.iface 83 (Value.func (.func 64) #[] #[])) ∧ w' = w := by
  go_enter Try.func41, Try.ntmps41
  go_wp2
  go_ret
  exact ⟨rfl, rfl⟩
set_option maxRecDepth 100000 in
set_option maxHeartbeats 4000000 in
theorem doing_34 (w : World) : Calls Try.prog 41 #[.int .i64 34] w fun e w' => e = .returned (.iface 83 (Value.func (.func 64) #[] #[])) ∧ w' = w := by
  go_enter Try.func41, Try.ntmps41
  go_wp2
  go_ret
  exact ⟨rfl, rfl⟩
set_option maxRecDepth 100000 in
set_option maxHeartbeats 4000000 in
theorem doing_35 (w : World) : Calls Try.prog 41 #[.int .i64 35] w fun e w' => e = .returned (.iface 83 (Value.func (.func 64) #[] #[])) ∧ w' = w := by
  go_enter Try.func41, Try.ntmps41
  go_wp2
  go_ret
  exact ⟨rfl, rfl⟩
set_option maxRecDepth 100000 in
set_option maxHeartbeats 4000000 in
theorem doing_36 (w : World) : Calls Try.prog 41 #[.int .i64 36] w fun e w' => e = .returned (.iface 83 (Value.func (.func 64) #[] #[])) ∧ w' = w := by
  go_enter Try.func41, Try.ntmps41
  go_wp2
  go_ret
  exact ⟨rfl, rfl⟩
set_option maxRecDepth 100000 in
set_option maxHeartbeats 4000000 in
theorem computes_37 (w : World) : Calls Try.prog 67 #[.int .i64 37] w fun e w' => e = .returned (Value.nilFunc) ∧ w' = w := by
  go_enter Try.func67, Try.ntmps67
  go_wp2
  go_ret
  exact ⟨rfl, rfl⟩
set_option maxRecDepth 100000 in
set_option maxHeartbeats 4000000 in
theorem doing_37 (w : World) : Calls Try.prog 41 #[.int .i64 37] w fun e w' => e = .returned (.nilIface) ∧ w' = w := by
  have hn := neqnf
  go_enter Try.func41, Try.ntmps41
  go_wp2_with (go_at_call 67; refine (computes_37 _).mono ?_; rintro e w' ⟨rfl, rfl⟩)
  go_ret
  exact ⟨rfl, rfl⟩
set_option maxRecDepth 100000 in
set_option maxHeartbeats 4000000 in
theorem computes_38 (w : World) : Calls Try.prog 67 #[.int .i64 38] w fun e w' => e = .returned (Value.nilFunc) ∧ w' = w := by
  go_enter Try.func67, Try.ntmps67
  go_wp2
  go_ret
  exact ⟨rfl, rfl⟩
set_option maxRecDepth 100000 in
set_option maxHeartbeats 4000000 in
theorem doing_38 (w : World) : Calls Try.prog 41 #[.int .i64 38] w fun e w' => e = .returned (.nilIface) ∧ w' = w := by
  have hn := neqnf
  go_enter Try.func41, Try.ntmps41
  go_wp2_with (go_at_call 67; refine (computes_38 _).mono ?_; rintro e w' ⟨rfl, rfl⟩)
  go_ret
  exact ⟨rfl, rfl⟩
set_option maxRecDepth 100000 in
set_option maxHeartbeats 4000000 in
theorem computes_39 (w : World) : Calls Try.prog 67 #[.int .i64 39] w fun e w' => e = .returned (Value.nilFunc) ∧ w' = w := by
  go_enter Try.func67, Try.ntmps67
  go_wp2
  go_ret
  exact ⟨rfl, rfl⟩
set_option maxRecDepth 100000 in
set_option maxHeartbeats 4000000 in
theorem doing_39 (w : World) : Calls Try.prog 41 #[.int .i64 39] w fun e w' => e = .returned (.nilIface) ∧ w' = w := by
  have hn := neqnf
  go_enter Try.func41, Try.ntmps41
  go_wp2_with (go_at_call 67; refine (computes_39 _).mono ?_; rintro e w' ⟨rfl, rfl⟩)
  go_ret
  exact ⟨rfl, rfl⟩
set_option maxRecDepth 100000 in
set_option maxHeartbeats 4000000 in
theorem doing_40 (w : World) : Calls Try.prog 41 #[.int .i64 40] w fun e w' => e = .returned (.iface 83 (Value.func (.func 64) #[] #[])) ∧ w' = w := by
  go_enter Try.func41, Try.ntmps41
  go_wp2
  go_ret
  exact ⟨rfl, rfl⟩
set_option maxRecDepth 100000 in
set_option maxHeartbeats 4000000 in
theorem doing_41 (w : World) : Calls Try.prog 41 #[.int .i64 41] w fun e w' => e = .returned (.iface 83 (Value.func (.func 64) #[] #[])) ∧ w' = w := by
  go_enter Try.func41, Try.ntmps41
  go_wp2
  go_ret
  exact ⟨rfl, rfl⟩
set_option maxRecDepth 100000 in
set_option maxHeartbeats 4000000 in
theorem computes_42 (w : World) : Calls Try.prog 67 #[.int .i64 42] w fun e w' => e = .returned (Value.nilFunc) ∧ w' = w := by
  go_enter Try.func67, Try.ntmps67
  go_wp2
  go_ret
  exact ⟨rfl, rfl⟩
set_option maxRecDepth 100000 in
set_option maxHeartbeats 4000000 in
theorem doing_42 (w : World) : Calls Try.prog 41 #[.int .i64 42] w fun e w' => e = .returned (.nilIface) ∧ w' = w := by
  have hn := neqnf
  go_enter Try.func41, Try.ntmps41
  go_wp2_with (go_at_call 67; refine (computes_42 _).mono ?_; rintro e w' ⟨rfl, rfl⟩)
  go_ret
  exact ⟨rfl, rfl⟩
set_option maxRecDepth 100000 in
theorem ta82_79 (f : FuncId) (w : World) : (Instr.typeAssert (.iface 82 (Value.func (.func f) #[] #[])) 20 79 true).run Try.prog w = .ok (.tuple #[.nilFunc, .bool false]) w := by kernel_rfl
set_option maxRecDepth 100000 in
theorem ta82_80 (f : FuncId) (w : World) : (Instr.typeAssert (.iface 82 (Value.func (.func f) #[] #[])) 20 80 true).run Try.prog w = .ok (.tuple #[.nilFunc, .bool false]) w := by kernel_rfl
set_option maxRecDepth 100000 in
theorem ta82_82 (f : FuncId) (w : World) : (Instr.typeAssert (.iface 82 (Value.func (.func f) #[] #[])) 20 82 true).run Try.prog w = .ok (.tuple #[Value.func (.func f) #[] #[], .bool true]) w := by kernel_rfl
set_option maxRecDepth 100000 in
theorem ta83_79 (f : FuncId) (w : World) : (Instr.typeAssert (.iface 83 (Value.func (.func f) #[] #[])) 20 79 true).run Try.prog w = .ok (.tuple #[.nilFunc, .bool false]) w := by kernel_rfl
set_option maxRecDepth 100000 in
theorem ta83_80 (f : FuncId) (w : World) : (Instr.typeAssert (.iface 83 (Value.func (.func f) #[] #[])) 20 80 true).run Try.prog w = .ok (.tuple #[.nilFunc, .bool false]) w := by kernel_rfl
set_option maxRecDepth 100000 in
theorem ta83_82 (f : FuncId) (w : World) : (Instr.typeAssert (.iface 83 (Value.func (.func f) #[] #[])) 20 82 true).run Try.prog w = .ok (.tuple #[.nilFunc, .bool false]) w := by kernel_rfl
set_option maxRecDepth 100000 in
theorem ta83_83 (f : FuncId) (w : World) : (Instr.typeAssert (.iface 83 (Value.func (.func f) #[] #[])) 20 83 true).run Try.prog w = .ok (.tuple #[Value.func (.func f) #[] #[], .bool true]) w := by kernel_rfl
set_option maxRecDepth 100000 in
theorem tan_79 (w : World) : (Instr.typeAssert .nilIface 20 79 true).run Try.prog w = .ok (.tuple #[.nilFunc, .bool false]) w := by kernel_rfl
set_option maxRecDepth 100000 in
theorem tan_80 (w : World) : (Instr.typeAssert .nilIface 20 80 true).run Try.prog w = .ok (.tuple #[.nilFunc, .bool false]) w := by kernel_rfl
set_option maxRecDepth 100000 in
theorem tan_82 (w : World) : (Instr.typeAssert .nilIface 20 82 true).run Try.prog w = .ok (.tuple #[.nilFunc, .bool false]) w := by kernel_rfl
set_option maxRecDepth 100000 in
theorem tan_83 (w : World) : (Instr.typeAssert .nilIface 20 83 true).run Try.prog w = .ok (.tuple #[.nilFunc, .bool false]) w := by kernel_rfl
end Go.Proofs.Ytpjfjdncdiemlaa
