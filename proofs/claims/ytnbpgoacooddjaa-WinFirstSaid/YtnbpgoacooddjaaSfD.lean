import Derived.Test.YtnbpgoacooddjaaSxK
namespace Go.Proofs.Ytnbpgoacooddjaa
open Go.ChangeShapes Go.WideShapes Go.ChangeAt Go.RowKit
set_option linter.unusedVariables false
set_option maxRecDepth 100000 in
theorem neqnf (w : World) : (binOp .neq 260 Value.nilFunc Value.nilFunc).run Try.prog w = .ok (.bool false) w := by kernel_rfl
set_option maxRecDepth 100000 in
set_option maxHeartbeats 4000000 in
theorem computes_0 (w : World) : Calls Try.prog 216 #[.int .i64 0] w fun e w' => e = .returned (Value.nilFunc) ∧ w' = w := by
  go_enter Try.func216, Try.ntmps216
  go_wp2
  go_ret
  exact ⟨rfl, rfl⟩
set_option maxRecDepth 100000 in
set_option maxHeartbeats 4000000 in
theorem doing_0 (w : World) : Calls Try.prog 192 #[.int .i64 0] w fun e w' => e = .returned (.nilIface) ∧ w' = w := by
  have hn := neqnf
  go_enter Try.func192, Try.ntmps192
  go_wp2_with (go_at_call 216; refine (computes_0 _).mono ?_; rintro e w' ⟨rfl, rfl⟩)
  go_ret
  exact ⟨rfl, rfl⟩
set_option maxRecDepth 100000 in
set_option maxHeartbeats 4000000 in
theorem computes_1 (w : World) : Calls Try.prog 216 #[.int .i64 1] w fun e w' => e = .returned (Value.nilFunc) ∧ w' = w := by
  go_enter Try.func216, Try.ntmps216
  go_wp2
  go_ret
  exact ⟨rfl, rfl⟩
set_option maxRecDepth 100000 in
set_option maxHeartbeats 4000000 in
theorem doing_1 (w : World) : Calls Try.prog 192 #[.int .i64 1] w fun e w' => e = .returned (.nilIface) ∧ w' = w := by
  have hn := neqnf
  go_enter Try.func192, Try.ntmps192
  go_wp2_with (go_at_call 216; refine (computes_1 _).mono ?_; rintro e w' ⟨rfl, rfl⟩)
  go_ret
  exact ⟨rfl, rfl⟩
set_option maxRecDepth 100000 in
set_option maxHeartbeats 4000000 in
theorem computes_4 (w : World) : Calls Try.prog 216 #[.int .i64 4] w fun e w' => e = .returned (Value.func (.func 214) #[] #[]) ∧ w' = w := by
  go_enter Try.func216, Try.ntmps216
  go_wp2
  go_ret
  exact ⟨rfl, rfl⟩
set_option maxRecDepth 100000 in
set_option maxHeartbeats 4000000 in
theorem doing_4 (w : World) : Calls Try.prog 192 #[.int .i64 4] w fun e w' => e = .returned (.iface 260 (Value.func (.func 214) #[] #[])) ∧ w' = w := by
  have hn := neqfn 214
  go_enter Try.func192, Try.ntmps192
  go_wp2_with (go_at_call 216; refine (computes_4 _).mono ?_; rintro e w' ⟨rfl, rfl⟩)
  go_ret
  exact ⟨rfl, rfl⟩
set_option maxRecDepth 100000 in
set_option maxHeartbeats 4000000 in
theorem computes_5 (w : World) : Calls Try.prog 216 #[.int .i64 5] w fun e w' => e = .returned (Value.func (.func 242) #[] #[]) ∧ w' = w := by
  go_enter Try.func216, Try.ntmps216
  go_wp2
  go_ret
  exact ⟨rfl, rfl⟩
set_option maxRecDepth 100000 in
set_option maxHeartbeats 4000000 in
theorem doing_5 (w : World) : Calls Try.prog 192 #[.int .i64 5] w fun e w' => e = .returned (.iface 260 (Value.func (.func 242) #[] #[])) ∧ w' = w := by
  have hn := neqfn 242
  go_enter Try.func192, Try.ntmps192
  go_wp2_with (go_at_call 216; refine (computes_5 _).mono ?_; rintro e w' ⟨rfl, rfl⟩)
  go_ret
  exact ⟨rfl, rfl⟩
set_option maxRecDepth 100000 in
set_option maxHeartbeats 4000000 in
theorem computes_10 (w : World) : Calls Try.prog 216 #[.int .i64 10] w fun e w' => e = .returned (Value.func (.func 245) #[] #[]) ∧ w' = w := by
  go_enter Try.func216, Try.ntmps216
  go_wp2
  go_ret
  exact ⟨rfl, rfl⟩
set_option maxRecDepth 100000 in
set_option maxHeartbeats 4000000 in
theorem doing_10 (w : World) : Calls Try.prog 192 #[.int .i64 10] w fun e w' => e = .returned (.iface 260 (Value.func (.func 245) #[] #[])) ∧ w' = w := by
  have hn := neqfn 245
  go_enter Try.func192, Try.ntmps192
  go_wp2_with (go_at_call 216; refine (computes_10 _).mono ?_; rintro e w' ⟨rfl, rfl⟩)
  go_ret
  exact ⟨rfl, rfl⟩
set_option maxRecDepth 100000 in
set_option maxHeartbeats 4000000 in
theorem computes_11 (w : World) : Calls Try.prog 216 #[.int .i64 11] w fun e w' => e = .returned (Value.func (.func 246) #[] #[]) ∧ w' = w := by
  go_enter Try.func216, Try.ntmps216
  go_wp2
  go_ret
  exact ⟨rfl, rfl⟩
set_option maxRecDepth 100000 in
set_option maxHeartbeats 4000000 in
theorem doing_11 (w : World) : Calls Try.prog 192 #[.int .i64 11] w fun e w' => e = .returned (.iface 260 (Value.func (.func 246) #[] #[])) ∧ w' = w := by
  have hn := neqfn 246
  go_enter Try.func192, Try.ntmps192
  go_wp2_with (go_at_call 216; refine (computes_11 _).mono ?_; rintro e w' ⟨rfl, rfl⟩)
  go_ret
  exact ⟨rfl, rfl⟩
set_option maxRecDepth 100000 in
set_option maxHeartbeats 4000000 in
theorem computes_15 (w : World) : Calls Try.prog 216 #[.int .i64 15] w fun e w' => e = .returned (Value.func (.func 250) #[] #[]) ∧ w' = w := by
  go_enter Try.func216, Try.ntmps216
  go_wp2
  go_ret
  exact ⟨rfl, rfl⟩
set_option maxRecDepth 100000 in
set_option maxHeartbeats 4000000 in
theorem doing_15 (w : World) : Calls Try.prog 192 #[.int .i64 15] w fun e w' => e = .returned (.iface 260 (Value.func (.func 250) #[] #[])) ∧ w' = w := by
  have hn := neqfn 250
  go_enter Try.func192, Try.ntmps192
  go_wp2_with (go_at_call 216; refine (computes_15 _).mono ?_; rintro e w' ⟨rfl, rfl⟩)
  go_ret
  exact ⟨rfl, rfl⟩
set_option maxRecDepth 100000 in
set_option maxHeartbeats 4000000 in
theorem computes_16 (w : World) : Calls Try.prog 216 #[.int .i64 16] w fun e w' => e = .returned (Value.func (.func 251) #[] #[]) ∧ w' = w := by
  go_enter Try.func216, Try.ntmps216
  go_wp2
  go_ret
  exact ⟨rfl, rfl⟩
set_option maxRecDepth 100000 in
set_option maxHeartbeats 4000000 in
theorem doing_16 (w : World) : Calls Try.prog 192 #[.int .i64 16] w fun e w' => e = .returned (.iface 260 (Value.func (.func 251) #[] #[])) ∧ w' = w := by
  have hn := neqfn 251
  go_enter Try.func192, Try.ntmps192
  go_wp2_with (go_at_call 216; refine (computes_16 _).mono ?_; rintro e w' ⟨rfl, rfl⟩)
  go_ret
  exact ⟨rfl, rfl⟩
set_option maxRecDepth 100000 in
set_option maxHeartbeats 4000000 in
theorem computes_17 (w : World) : Calls Try.prog 216 #[.int .i64 17] w fun e w' => e = .returned (Value.func (.func 251) #[] #[]) ∧ w' = w := by
  go_enter Try.func216, Try.ntmps216
  go_wp2
  go_ret
  exact ⟨rfl, rfl⟩
set_option maxRecDepth 100000 in
set_option maxHeartbeats 4000000 in
theorem doing_17 (w : World) : Calls Try.prog 192 #[.int .i64 17] w fun e w' => e = .returned (.iface 260 (Value.func (.func 251) #[] #[])) ∧ w' = w := by
  have hn := neqfn 251
  go_enter Try.func192, Try.ntmps192
  go_wp2_with (go_at_call 216; refine (computes_17 _).mono ?_; rintro e w' ⟨rfl, rfl⟩)
  go_ret
  exact ⟨rfl, rfl⟩
set_option maxRecDepth 100000 in
set_option maxHeartbeats 4000000 in
theorem computes_18 (w : World) : Calls Try.prog 216 #[.int .i64 18] w fun e w' => e = .returned (Value.func (.func 251) #[] #[]) ∧ w' = w := by
  go_enter Try.func216, Try.ntmps216
  go_wp2
  go_ret
  exact ⟨rfl, rfl⟩
set_option maxRecDepth 100000 in
set_option maxHeartbeats 4000000 in
theorem doing_18 (w : World) : Calls Try.prog 192 #[.int .i64 18] w fun e w' => e = .returned (.iface 260 (Value.func (.func 251) #[] #[])) ∧ w' = w := by
  have hn := neqfn 251
  go_enter Try.func192, Try.ntmps192
  go_wp2_with (go_at_call 216; refine (computes_18 _).mono ?_; rintro e w' ⟨rfl, rfl⟩)
  go_ret
  exact ⟨rfl, rfl⟩
set_option maxRecDepth 100000 in
set_option maxHeartbeats 4000000 in
theorem doing_20 (w : World) : Calls Try.prog 192 #[.int .i64 20] w fun e w' => e = .returned (.iface 263 (Value.func (.func 209) #[] #[])) ∧ w' = w := by
  go_enter Try.func192, Try.ntmps192
  go_wp2
  go_ret
  exact ⟨rfl, rfl⟩
set_option maxRecDepth 100000 in
set_option maxHeartbeats 4000000 in
theorem doing_21 (w : World) : Calls Try.prog 192 #[.int .i64 21] w fun e w' => e = .returned (.iface 263 (Value.func (.func 210) #[] #[])) ∧ w' = w := by
  go_enter Try.func192, Try.ntmps192
  go_wp2
  go_ret
  exact ⟨rfl, rfl⟩
set_option maxRecDepth 100000 in
set_option maxHeartbeats 4000000 in
theorem doing_22 (w : World) : Calls Try.prog 192 #[.int .i64 22] w fun e w' => e = .returned (.iface 263 (Value.func (.func 211) #[] #[])) ∧ w' = w := by
  go_enter Try.func192, Try.ntmps192
  go_wp2
  go_ret
  exact ⟨rfl, rfl⟩
set_option maxRecDepth 100000 in
set_option maxHeartbeats 4000000 in
theorem doing_23 (w : World) : Calls Try.prog 192 #[.int .i64 23] w fun e w' => e = .returned (.iface 263 (Value.func (.func 212) #[] #[])) ∧ w' = w := by
  go_enter Try.func192, Try.ntmps192
  go_wp2
  go_ret
  exact ⟨rfl, rfl⟩
set_option maxRecDepth 100000 in
set_option maxHeartbeats 4000000 in
theorem doing_24 (w : World) : Calls Try.prog 192 #[.int .i64 24] w fun e w' => e = .returned (.iface 263 (Value.func (.func 209) #[] #[])) ∧ w' = w := by
  go_enter Try.func192, Try.ntmps192
  go_wp2
  go_ret
  exact ⟨rfl, rfl⟩
set_option maxRecDepth 100000 in
set_option maxHeartbeats 4000000 in
theorem doing_25 (w : World) : Calls Try.prog 192 #[.int .i64 25] w fun e w' => e = .returned (.iface 263 (Value.func (.func 213) #[] #[])) ∧ w' = w := by
  go_enter Try.func192, Try.ntmps192
  go_wp2
  go_ret
  exact ⟨rfl, rfl⟩
set_option maxRecDepth 100000 in
set_option maxHeartbeats 4000000 in
theorem doing_26 (w : World) : Calls Try.prog 192 #[.int .i64 26] w fun e w' => e = .returned (.iface 263 (Value.func (.func 213) #[] #[])) ∧ w' = w := by
  go_enter Try.func192, Try.ntmps192
  go_wp2
  go_ret
  exact ⟨rfl, rfl⟩
set_option maxRecDepth 100000 in
set_option maxHeartbeats 4000000 in
theorem doing_27 (w : World) : Calls Try.prog 192 #[.int .i64 27] w fun e w' => e = .returned (.iface 263 (Value.func (.func 213) #[] #[])) ∧ w' = w := by
  go_enter Try.func192, Try.ntmps192
  go_wp2
  go_ret
  exact ⟨rfl, rfl⟩
set_option maxRecDepth 100000 in
set_option maxHeartbeats 4000000 in
theorem doing_28 (w : World) : Calls Try.prog 192 #[.int .i64 28] w fun e w' => e = .returned (.iface 264 (Value.func (.func 214) #[] #[])) ∧ w' = w := by
  go_enter Try.func192, Try.ntmps192
  go_wp2
  go_ret
  exact ⟨rfl, rfl⟩
set_option maxRecDepth 100000 in
set_option maxHeartbeats 4000000 in
theorem doing_29 (w : World) : Calls Try.prog 192 #[.int .i64 29] w fun e w' => e = .returned (.iface 264 (Value.func (.func 214) #[] #[])) ∧ w' = w := by
  go_enter Try.func192, Try.ntmps192
  go_wp2
  go_ret
  exact ⟨rfl, rfl⟩
set_option maxRecDepth 100000 in
set_option maxHeartbeats 4000000 in
theorem doing_30 (w : World) : Calls Try.prog 192 #[.int .i64 30] w fun e w' => e = .returned (.iface 264 (Value.func (.func 214) #[] #[])) ∧ w' = w := by
  go_enter Try.func192, Try.ntmps192
  go_wp2
  go_ret
  exact ⟨rfl, rfl⟩
set_option maxRecDepth 100000 in
set_option maxHeartbeats 4000000 in
theorem doing_31 (w : World) : Calls Try.prog 192 #[.int .i64 31] w fun e w' => e = .returned (.iface 264 (Value.func (.func 215) #[] #[])) ∧ w' = w := by
  go_enter Try.func192, Try.ntmps192
  go_wp2
  go_ret
  exact ⟨rfl, rfl⟩
set_option maxRecDepth 100000 in
set_option maxHeartbeats 4000000 in
theorem doing_32 (w : World) : Calls Try.prog 192 #[.int .i64 32] w fun e w' => e = .returned (.iface 264 (Value.func (.func 215) #[] #[])) ∧ w' = w := by
  go_enter Try.func192, Try.ntmps192
  go_wp2
  go_ret
  exact ⟨rfl, rfl⟩
set_option maxRecDepth 100000 in
set_option maxHeartbeats 4000000 in
theorem doing_33 (w : World) : Calls Try.prog 192 #[.int .i64 33] w fun e w' => e = .returned (.iface 264 (Value.func (.func 213) #[] #[])) ∧ w' = w := by
  go_enter Try.func192, Try.ntmps192
  go_wp2
  go_ret
  exact ⟨rfl, rfl⟩
set_option maxRecDepth 100000 in
set_option maxHeartbeats 4000000 in
theorem doing_34 (w : World) : Calls Try.prog 192 #[.int .i64 34] w fun e w' => e = .returned (.iface 264 (Value.func (.func 213) #[] #[])) ∧ w' = w := by
  go_enter Try.func192, Try.ntmps192
  go_wp2
  go_ret
  exact ⟨rfl, rfl⟩
set_option maxRecDepth 100000 in
set_option maxHeartbeats 4000000 in
theorem doing_35 (w : World) : Calls Try.prog 192 #[.int .i64 35] w fun e w' => e = .returned (.iface 264 (Value.func (.func 213) #[] #[])) ∧ w' = w := by
  go_enter Try.func192, Try.ntmps192
  go_wp2
  go_ret
  exact ⟨rfl, rfl⟩
set_option maxRecDepth 100000 in
set_option maxHeartbeats 4000000 in
theorem doing_36 (w : World) : Calls Try.prog 192 #[.int .i64 36] w fun e w' => e = .returned (.iface 264 (Value.func (.func 213) #[] #[])) ∧ w' = w := by
  go_enter Try.func192, Try.ntmps192
  go_wp2
  go_ret
  exact ⟨rfl, rfl⟩
set_option maxRecDepth 100000 in
set_option maxHeartbeats 4000000 in
theorem computes_37 (w : World) : Calls Try.prog 216 #[.int .i64 37] w fun e w' => e = .returned (Value.nilFunc) ∧ w' = w := by
  go_enter Try.func216, Try.ntmps216
  go_wp2
  go_ret
  exact ⟨rfl, rfl⟩
set_option maxRecDepth 100000 in
set_option maxHeartbeats 4000000 in
theorem doing_37 (w : World) : Calls Try.prog 192 #[.int .i64 37] w fun e w' => e = .returned (.nilIface) ∧ w' = w := by
  have hn := neqnf
  go_enter Try.func192, Try.ntmps192
  go_wp2_with (go_at_call 216; refine (computes_37 _).mono ?_; rintro e w' ⟨rfl, rfl⟩)
  go_ret
  exact ⟨rfl, rfl⟩
set_option maxRecDepth 100000 in
set_option maxHeartbeats 4000000 in
theorem computes_38 (w : World) : Calls Try.prog 216 #[.int .i64 38] w fun e w' => e = .returned (Value.nilFunc) ∧ w' = w := by
  go_enter Try.func216, Try.ntmps216
  go_wp2
  go_ret
  exact ⟨rfl, rfl⟩
set_option maxRecDepth 100000 in
set_option maxHeartbeats 4000000 in
theorem doing_38 (w : World) : Calls Try.prog 192 #[.int .i64 38] w fun e w' => e = .returned (.nilIface) ∧ w' = w := by
  have hn := neqnf
  go_enter Try.func192, Try.ntmps192
  go_wp2_with (go_at_call 216; refine (computes_38 _).mono ?_; rintro e w' ⟨rfl, rfl⟩)
  go_ret
  exact ⟨rfl, rfl⟩
set_option maxRecDepth 100000 in
set_option maxHeartbeats 4000000 in
theorem computes_39 (w : World) : Calls Try.prog 216 #[.int .i64 39] w fun e w' => e = .returned (Value.nilFunc) ∧ w' = w := by
  go_enter Try.func216, Try.ntmps216
  go_wp2
  go_ret
  exact ⟨rfl, rfl⟩
set_option maxRecDepth 100000 in
set_option maxHeartbeats 4000000 in
theorem doing_39 (w : World) : Calls Try.prog 192 #[.int .i64 39] w fun e w' => e = .returned (.nilIface) ∧ w' = w := by
  have hn := neqnf
  go_enter Try.func192, Try.ntmps192
  go_wp2_with (go_at_call 216; refine (computes_39 _).mono ?_; rintro e w' ⟨rfl, rfl⟩)
  go_ret
  exact ⟨rfl, rfl⟩
set_option maxRecDepth 100000 in
set_option maxHeartbeats 4000000 in
theorem doing_40 (w : World) : Calls Try.prog 192 #[.int .i64 40] w fun e w' => e = .returned (.iface 264 (Value.func (.func 213) #[] #[])) ∧ w' = w := by
  go_enter Try.func192, Try.ntmps192
  go_wp2
  go_ret
  exact ⟨rfl, rfl⟩
set_option maxRecDepth 100000 in
set_option maxHeartbeats 4000000 in
theorem doing_41 (w : World) : Calls Try.prog 192 #[.int .i64 41] w fun e w' => e = .returned (.iface 264 (Value.func (.func 213) #[] #[])) ∧ w' = w := by
  go_enter Try.func192, Try.ntmps192
  go_wp2
  go_ret
  exact ⟨rfl, rfl⟩
set_option maxRecDepth 100000 in
set_option maxHeartbeats 4000000 in
theorem computes_42 (w : World) : Calls Try.prog 216 #[.int .i64 42] w fun e w' => e = .returned (Value.nilFunc) ∧ w' = w := by
  go_enter Try.func216, Try.ntmps216
  go_wp2
  go_ret
  exact ⟨rfl, rfl⟩
set_option maxRecDepth 100000 in
set_option maxHeartbeats 4000000 in
theorem doing_42 (w : World) : Calls Try.prog 192 #[.int .i64 42] w fun e w' => e = .returned (.nilIface) ∧ w' = w := by
  have hn := neqnf
  go_enter Try.func192, Try.ntmps192
  go_wp2_with (go_at_call 216; refine (computes_42 _).mono ?_; rintro e w' ⟨rfl, rfl⟩)
  go_ret
  exact ⟨rfl, rfl⟩
set_option maxRecDepth 100000 in
theorem ta82_79 (f : FuncId) (w : World) : (Instr.typeAssert (.iface 263 (Value.func (.func f) #[] #[])) 20 260 true).run Try.prog w = .ok (.tuple #[.nilFunc, .bool false]) w := by kernel_rfl
set_option maxRecDepth 100000 in
theorem ta82_80 (f : FuncId) (w : World) : (Instr.typeAssert (.iface 263 (Value.func (.func f) #[] #[])) 20 261 true).run Try.prog w = .ok (.tuple #[.nilFunc, .bool false]) w := by kernel_rfl
set_option maxRecDepth 100000 in
theorem ta82_82 (f : FuncId) (w : World) : (Instr.typeAssert (.iface 263 (Value.func (.func f) #[] #[])) 20 263 true).run Try.prog w = .ok (.tuple #[Value.func (.func f) #[] #[], .bool true]) w := by kernel_rfl
set_option maxRecDepth 100000 in
theorem ta83_79 (f : FuncId) (w : World) : (Instr.typeAssert (.iface 264 (Value.func (.func f) #[] #[])) 20 260 true).run Try.prog w = .ok (.tuple #[.nilFunc, .bool false]) w := by kernel_rfl
set_option maxRecDepth 100000 in
theorem ta83_80 (f : FuncId) (w : World) : (Instr.typeAssert (.iface 264 (Value.func (.func f) #[] #[])) 20 261 true).run Try.prog w = .ok (.tuple #[.nilFunc, .bool false]) w := by kernel_rfl
set_option maxRecDepth 100000 in
theorem ta83_82 (f : FuncId) (w : World) : (Instr.typeAssert (.iface 264 (Value.func (.func f) #[] #[])) 20 263 true).run Try.prog w = .ok (.tuple #[.nilFunc, .bool false]) w := by kernel_rfl
set_option maxRecDepth 100000 in
theorem ta83_83 (f : FuncId) (w : World) : (Instr.typeAssert (.iface 264 (Value.func (.func f) #[] #[])) 20 264 true).run Try.prog w = .ok (.tuple #[Value.func (.func f) #[] #[], .bool true]) w := by kernel_rfl
set_option maxRecDepth 100000 in
theorem tan_79 (w : World) : (Instr.typeAssert .nilIface 20 260 true).run Try.prog w = .ok (.tuple #[.nilFunc, .bool false]) w := by kernel_rfl
set_option maxRecDepth 100000 in
theorem tan_80 (w : World) : (Instr.typeAssert .nilIface 20 261 true).run Try.prog w = .ok (.tuple #[.nilFunc, .bool false]) w := by kernel_rfl
set_option maxRecDepth 100000 in
theorem tan_82 (w : World) : (Instr.typeAssert .nilIface 20 263 true).run Try.prog w = .ok (.tuple #[.nilFunc, .bool false]) w := by kernel_rfl
set_option maxRecDepth 100000 in
theorem tan_83 (w : World) : (Instr.typeAssert .nilIface 20 264 true).run Try.prog w = .ok (.tuple #[.nilFunc, .bool false]) w := by kernel_rfl
end Go.Proofs.Ytnbpgoacooddjaa
