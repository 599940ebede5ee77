import Derived.Test.YtpjfjdncdiemlaaSmH
import Derived.Test.YtpjfjdncdiemlaaSmE
namespace Go.Proofs.Ytpjfjdncdiemlaa
open Go.ChangeShapes Go.WideShapes Go.ChangeAt Go.RowKit
set_option linter.unusedVariables false
set_option maxRecDepth 100000 in
theorem neqfn (f : FuncId) (w : World) : (binOp .neq 79 (Value.func (.func f) #[] #[]) Value.nilFunc).run Try.prog w = .ok (.bool true) w := by kernel_rfl
set_option maxRecDepth 100000 in
set_option maxHeartbeats 2000000 in
theorem computes_7 (w : World) : Calls Try.prog 67 #[.int .i64 7] w fun e w' => e = .returned (Value.func (.func 81) #[] #[]) ∧ w' = w := by
  go_enter Try.func67, Try.ntmps67
  go_wp2
  go_ret
  exact ⟨rfl, rfl⟩
set_option maxRecDepth 100000 in
set_option maxHeartbeats 2000000 in
theorem doing_7 (w : World) : Calls Try.prog 41 #[.int .i64 7] w fun e w' => e = .returned (.iface 79 (Value.func (.func 81) #[] #[])) ∧ w' = w := by
  have hn := neqfn 81
  go_enter Try.func41, Try.ntmps41
  go_wp2_with (go_at_call 67; refine (computes_7 _).mono ?_; rintro e w' ⟨rfl, rfl⟩)
  go_ret
  exact ⟨rfl, rfl⟩
set_option maxRecDepth 100000 in
set_option maxHeartbeats 2000000 in
theorem computes_8 (w : World) : Calls Try.prog 67 #[.int .i64 8] w fun e w' => e = .returned (Value.func (.func 82) #[] #[]) ∧ w' = w := by
  go_enter Try.func67, Try.ntmps67
  go_wp2
  go_ret
  exact ⟨rfl, rfl⟩
set_option maxRecDepth 100000 in
set_option maxHeartbeats 2000000 in
theorem doing_8 (w : World) : Calls Try.prog 41 #[.int .i64 8] w fun e w' => e = .returned (.iface 79 (Value.func (.func 82) #[] #[])) ∧ w' = w := by
  have hn := neqfn 82
  go_enter Try.func41, Try.ntmps41
  go_wp2_with (go_at_call 67; refine (computes_8 _).mono ?_; rintro e w' ⟨rfl, rfl⟩)
  go_ret
  exact ⟨rfl, rfl⟩
set_option maxRecDepth 100000 in
set_option maxHeartbeats 2000000 in
theorem computes_12 (w : World) : Calls Try.prog 67 #[.int .i64 12] w fun e w' => e = .returned (Value.func (.func 85) #[] #[]) ∧ w' = w := by
  go_enter Try.func67, Try.ntmps67
  go_wp2
  go_ret
  exact ⟨rfl, rfl⟩
set_option maxRecDepth 100000 in
set_option maxHeartbeats 2000000 in
theorem doing_12 (w : World) : Calls Try.prog 41 #[.int .i64 12] w fun e w' => e = .returned (.iface 79 (Value.func (.func 85) #[] #[])) ∧ w' = w := by
  have hn := neqfn 85
  go_enter Try.func41, Try.ntmps41
  go_wp2_with (go_at_call 67; refine (computes_12 _).mono ?_; rintro e w' ⟨rfl, rfl⟩)
  go_ret
  exact ⟨rfl, rfl⟩
set_option maxRecDepth 100000 in
set_option maxHeartbeats 2000000 in
theorem computes_13 (w : World) : Calls Try.prog 67 #[.int .i64 13] w fun e w' => e = .returned (Value.func (.func 86) #[] #[]) ∧ w' = w := by
  go_enter Try.func67, Try.ntmps67
  go_wp2
  go_ret
  exact ⟨rfl, rfl⟩
set_option maxRecDepth 100000 in
set_option maxHeartbeats 2000000 in
theorem doing_13 (w : World) : Calls Try.prog 41 #[.int .i64 13] w fun e w' => e = .returned (.iface 79 (Value.func (.func 86) #[] #[])) ∧ w' = w := by
  have hn := neqfn 86
  go_enter Try.func41, Try.ntmps41
  go_wp2_with (go_at_call 67; refine (computes_13 _).mono ?_; rintro e w' ⟨rfl, rfl⟩)
  go_ret
  exact ⟨rfl, rfl⟩
set_option maxRecDepth 100000 in
set_option maxHeartbeats 2000000 in
theorem computes_14 (w : World) : Calls Try.prog 67 #[.int .i64 14] w fun e w' => e = .returned (Value.func (.func 87) #[] #[]) ∧ w' = w := by
  go_enter Try.func67, Try.ntmps67
  go_wp2
  go_ret
  exact ⟨rfl, rfl⟩
set_option maxRecDepth 100000 in
set_option maxHeartbeats 2000000 in
theorem doing_14 (w : World) : Calls Try.prog 41 #[.int .i64 14] w fun e w' => e = .returned (.iface 79 (Value.func (.func 87) #[] #[])) ∧ w' = w := by
  have hn := neqfn 87
  go_enter Try.func41, Try.ntmps41
  go_wp2_with (go_at_call 67; refine (computes_14 _).mono ?_; rintro e w' ⟨rfl, rfl⟩)
  go_ret
  exact ⟨rfl, rfl⟩
set_option maxRecDepth 100000 in
set_option maxHeartbeats 2000000 in
theorem computes_19 (w : World) : Calls Try.prog 67 #[.int .i64 19] w fun e w' => e = .returned (Value.func (.func 90) #[] #[]) ∧ w' = w := by
  go_enter Try.func67, Try.ntmps67
  go_wp2
  go_ret
  exact ⟨rfl, rfl⟩
set_option maxRecDepth 100000 in
set_option maxHeartbeats 2000000 in
theorem doing_19 (w : World) : Calls Try.prog 41 #[.int .i64 19] w fun e w' => e = .returned (.iface 79 (Value.func (.func 90) #[] #[])) ∧ w' = w := by
  have hn := neqfn 90
  go_enter Try.func41, Try.ntmps41
  go_wp2_with (go_at_call 67; refine (computes_19 _).mono ?_; rintro e w' ⟨rfl, rfl⟩)
  go_ret
  exact ⟨rfl, rfl⟩
set_option maxRecDepth 100000 in
set_option maxHeartbeats 2000000 in
theorem computes_2 (w : World) : Calls Try.prog 67 #[.int .i64 2] w fun e w' => e = .returned (Value.func (.func 78) #[] #[]) ∧ w' = w := by
  go_enter Try.func67, Try.ntmps67
  go_wp2
  go_ret
  exact ⟨rfl, rfl⟩
set_option maxRecDepth 100000 in
set_option maxHeartbeats 2000000 in
theorem doing_2 (w : World) : Calls Try.prog 41 #[.int .i64 2] w fun e w' => e = .returned (.iface 79 (Value.func (.func 78) #[] #[])) ∧ w' = w := by
  have hn := neqfn 78
  go_enter Try.func41, Try.ntmps41
  go_wp2_with (go_at_call 67; refine (computes_2 _).mono ?_; rintro e w' ⟨rfl, rfl⟩)
  go_ret
  exact ⟨rfl, rfl⟩
set_option maxRecDepth 100000 in
set_option maxHeartbeats 2000000 in
theorem computes_3 (w : World) : Calls Try.prog 67 #[.int .i64 3] w fun e w' => e = .returned (Value.func (.func 79) #[] #[]) ∧ w' = w := by
  go_enter Try.func67, Try.ntmps67
  go_wp2
  go_ret
  exact ⟨rfl, rfl⟩
set_option maxRecDepth 100000 in
set_option maxHeartbeats 2000000 in
theorem doing_3 (w : World) : Calls Try.prog 41 #[.int .i64 3] w fun e w' => e = .returned (.iface 79 (Value.func (.func 79) #[] #[])) ∧ w' = w := by
  have hn := neqfn 79
  go_enter Try.func41, Try.ntmps41
  go_wp2_with (go_at_call 67; refine (computes_3 _).mono ?_; rintro e w' ⟨rfl, rfl⟩)
  go_ret
  exact ⟨rfl, rfl⟩
set_option maxRecDepth 100000 in
set_option maxHeartbeats 2000000 in
theorem doing_6 (w : World) : Calls Try.prog 41 #[.int .i64 6] w fun e w' => e = .returned (.iface 80 (Value.func (.func 58) #[] #[])) ∧ w' = w := by
  go_enter Try.func41, Try.ntmps41
  go_wp2
  go_ret
  exact ⟨rfl, rfl⟩
set_option maxRecDepth 100000 in
set_option maxHeartbeats 2000000 in
theorem doing_9 (w : World) : Calls Try.prog 41 #[.int .i64 9] w fun e w' => e = .returned (.iface 80 (Value.func (.func 59) #[] #[])) ∧ w' = w := by
  go_enter Try.func41, Try.ntmps41
  go_wp2
  go_ret
  exact ⟨rfl, rfl⟩
set_option maxRecDepth 100000 in
theorem ta79 (f : FuncId) (w : World) : (Instr.typeAssert (.iface 79 (Value.func (.func f) #[] #[])) 20 79 true).run Try.prog w = .ok (.tuple #[Value.func (.func f) #[] #[], .bool true]) w := by kernel_rfl
set_option maxRecDepth 100000 in
theorem ta80n (f : FuncId) (w : World) : (Instr.typeAssert (.iface 80 (Value.func (.func f) #[] #[])) 20 79 true).run Try.prog w = .ok (.tuple #[.nilFunc, .bool false]) w := by kernel_rfl
set_option maxRecDepth 100000 in
theorem ta80 (f : FuncId) (w : World) : (Instr.typeAssert (.iface 80 (Value.func (.func f) #[] #[])) 20 80 true).run Try.prog w = .ok (.tuple #[Value.func (.func f) #[] #[], .bool true]) w := by kernel_rfl
end Go.Proofs.Ytpjfjdncdiemlaa
