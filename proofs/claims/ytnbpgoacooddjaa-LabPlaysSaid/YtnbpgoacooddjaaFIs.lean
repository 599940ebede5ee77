import Derived.Test.YtnbpgoacooddjaaRows
import Derived.WalkKit
import Derived.ProofKit
import Derived.OpenShut
import Derived.Outline
import Derived.WalkSmall
import Derived.WalkLawsBesides
import Derived.WalkSpells
import Derived.BigGuardPart
import Derived.RegionTactic
import Derived.Lib.Hide
import Derived.Below
namespace Go.Proofs.Ytnbpgoacooddjaa.Fr
open Go.ChangeShapes Go.WideShapes Go.ChangeAt Go.RowKit
set_option linter.unusedVariables false
set_option maxRecDepth 100000 in
theorem isop_y (op : Int) (w : World) (h0 : 0 ≤ op) (h1 : op ≤ 42) : Calls Try.prog 110 #[.int .i64 op] w fun e w' => e = .returned (.bool true) ∧ w' = w := by
  go_enter Try.func110, Try.ntmps110
  go_wp2
  go_ret
  exact ⟨rfl, rfl⟩
theorem isop_n (op : Int) (w : World) (h0 : op < 0 ∨ 42 < op) : Calls Try.prog 110 #[.int .i64 op] w fun e w' => e = .returned (.bool false) ∧ w' = w := by
  rcases h0 with h | h
  · go_enter Try.func110, Try.ntmps110
    go_wp2
    go_ret
    exact ⟨rfl, rfl⟩
  · have h0 : 0 ≤ op := by omega
    have h2 : decide (op ≤ 42) = false := by simpa using h
    go_enter Try.func110, Try.ntmps110
    go_wp2
    go_ret
    exact ⟨rfl, rfl⟩
set_option maxRecDepth 100000 in
set_option maxHeartbeats 2000000 in
theorem fields_0 (w : World) : Calls Try.prog 112 #[.int .i64 0] w fun e w' => e = .returned (.int .i64 32) ∧ w' = w := by
  go_enter Try.func112, Try.ntmps112
  go_wp2
  go_ret
  exact ⟨rfl, rfl⟩
set_option maxRecDepth 100000 in
set_option maxHeartbeats 2000000 in
theorem fields_1 (w : World) : Calls Try.prog 112 #[.int .i64 1] w fun e w' => e = .returned (.int .i64 0) ∧ w' = w := by
  go_enter Try.func112, Try.ntmps112
  go_wp2
  go_ret
  exact ⟨rfl, rfl⟩
set_option maxRecDepth 100000 in
set_option maxHeartbeats 2000000 in
theorem fields_2 (w : World) : Calls Try.prog 112 #[.int .i64 2] w fun e w' => e = .returned (.int .i64 37) ∧ w' = w := by
  go_enter Try.func112, Try.ntmps112
  go_wp2
  go_ret
  exact ⟨rfl, rfl⟩
set_option maxRecDepth 100000 in
set_option maxHeartbeats 2000000 in
theorem fields_3 (w : World) : Calls Try.prog 112 #[.int .i64 3] w fun e w' => e = .returned (.int .i64 37) ∧ w' = w := by
  go_enter Try.func112, Try.ntmps112
  go_wp2
  go_ret
  exact ⟨rfl, rfl⟩
set_option maxRecDepth 100000 in
set_option maxHeartbeats 2000000 in
theorem fields_4 (w : World) : Calls Try.prog 112 #[.int .i64 4] w fun e w' => e = .returned (.int .i64 35) ∧ w' = w := by
  go_enter Try.func112, Try.ntmps112
  go_wp2
  go_ret
  exact ⟨rfl, rfl⟩
set_option maxRecDepth 100000 in
set_option maxHeartbeats 2000000 in
theorem fields_5 (w : World) : Calls Try.prog 112 #[.int .i64 5] w fun e w' => e = .returned (.int .i64 35) ∧ w' = w := by
  go_enter Try.func112, Try.ntmps112
  go_wp2
  go_ret
  exact ⟨rfl, rfl⟩
set_option maxRecDepth 100000 in
set_option maxHeartbeats 2000000 in
theorem fields_6 (w : World) : Calls Try.prog 112 #[.int .i64 6] w fun e w' => e = .returned (.int .i64 35) ∧ w' = w := by
  go_enter Try.func112, Try.ntmps112
  go_wp2
  go_ret
  exact ⟨rfl, rfl⟩
set_option maxRecDepth 100000 in
set_option maxHeartbeats 2000000 in
theorem fields_7 (w : World) : Calls Try.prog 112 #[.int .i64 7] w fun e w' => e = .returned (.int .i64 7) ∧ w' = w := by
  go_enter Try.func112, Try.ntmps112
  go_wp2
  go_ret
  exact ⟨rfl, rfl⟩
set_option maxRecDepth 100000 in
set_option maxHeartbeats 2000000 in
theorem fields_8 (w : World) : Calls Try.prog 112 #[.int .i64 8] w fun e w' => e = .returned (.int .i64 7) ∧ w' = w := by
  go_enter Try.func112, Try.ntmps112
  go_wp2
  go_ret
  exact ⟨rfl, rfl⟩
set_option maxRecDepth 100000 in
set_option maxHeartbeats 2000000 in
theorem fields_9 (w : World) : Calls Try.prog 112 #[.int .i64 9] w fun e w' => e = .returned (.int .i64 7) ∧ w' = w := by
  go_enter Try.func112, Try.ntmps112
  go_wp2
  go_ret
  exact ⟨rfl, rfl⟩
set_option maxRecDepth 100000 in
set_option maxHeartbeats 2000000 in
theorem fields_10 (w : World) : Calls Try.prog 112 #[.int .i64 10] w fun e w' => e = .returned (.int .i64 7) ∧ w' = w := by
  go_enter Try.func112, Try.ntmps112
  go_wp2
  go_ret
  exact ⟨rfl, rfl⟩
set_option maxRecDepth 100000 in
set_option maxHeartbeats 2000000 in
theorem fields_11 (w : World) : Calls Try.prog 112 #[.int .i64 11] w fun e w' => e = .returned (.int .i64 7) ∧ w' = w := by
  go_enter Try.func112, Try.ntmps112
  go_wp2
  go_ret
  exact ⟨rfl, rfl⟩
set_option maxRecDepth 100000 in
set_option maxHeartbeats 2000000 in
theorem fields_12 (w : World) : Calls Try.prog 112 #[.int .i64 12] w fun e w' => e = .returned (.int .i64 7) ∧ w' = w := by
  go_enter Try.func112, Try.ntmps112
  go_wp2
  go_ret
  exact ⟨rfl, rfl⟩
set_option maxRecDepth 100000 in
set_option maxHeartbeats 2000000 in
theorem fields_13 (w : World) : Calls Try.prog 112 #[.int .i64 13] w fun e w' => e = .returned (.int .i64 15) ∧ w' = w := by
  go_enter Try.func112, Try.ntmps112
  go_wp2
  go_ret
  exact ⟨rfl, rfl⟩
set_option maxRecDepth 100000 in
set_option maxHeartbeats 2000000 in
theorem fields_14 (w : World) : Calls Try.prog 112 #[.int .i64 14] w fun e w' => e = .returned (.int .i64 15) ∧ w' = w := by
  go_enter Try.func112, Try.ntmps112
  go_wp2
  go_ret
  exact ⟨rfl, rfl⟩
set_option maxRecDepth 100000 in
set_option maxHeartbeats 2000000 in
theorem fields_15 (w : World) : Calls Try.prog 112 #[.int .i64 15] w fun e w' => e = .returned (.int .i64 7) ∧ w' = w := by
  go_enter Try.func112, Try.ntmps112
  go_wp2
  go_ret
  exact ⟨rfl, rfl⟩
set_option maxRecDepth 100000 in
set_option maxHeartbeats 2000000 in
theorem fields_16 (w : World) : Calls Try.prog 112 #[.int .i64 16] w fun e w' => e = .returned (.int .i64 7) ∧ w' = w := by
  go_enter Try.func112, Try.ntmps112
  go_wp2
  go_ret
  exact ⟨rfl, rfl⟩
set_option maxRecDepth 100000 in
set_option maxHeartbeats 2000000 in
theorem fields_17 (w : World) : Calls Try.prog 112 #[.int .i64 17] w fun e w' => e = .returned (.int .i64 7) ∧ w' = w := by
  go_enter Try.func112, Try.ntmps112
  go_wp2
  go_ret
  exact ⟨rfl, rfl⟩
set_option maxRecDepth 100000 in
set_option maxHeartbeats 2000000 in
theorem fields_18 (w : World) : Calls Try.prog 112 #[.int .i64 18] w fun e w' => e = .returned (.int .i64 7) ∧ w' = w := by
  go_enter Try.func112, Try.ntmps112
  go_wp2
  go_ret
  exact ⟨rfl, rfl⟩
set_option maxRecDepth 100000 in
set_option maxHeartbeats 2000000 in
theorem fields_19 (w : World) : Calls Try.prog 112 #[.int .i64 19] w fun e w' => e = .returned (.int .i64 23) ∧ w' = w := by
  go_enter Try.func112, Try.ntmps112
  go_wp2
  go_ret
  exact ⟨rfl, rfl⟩
set_option maxRecDepth 100000 in
set_option maxHeartbeats 2000000 in
theorem fields_20 (w : World) : Calls Try.prog 112 #[.int .i64 20] w fun e w' => e = .returned (.int .i64 32) ∧ w' = w := by
  go_enter Try.func112, Try.ntmps112
  go_wp2
  go_ret
  exact ⟨rfl, rfl⟩
set_option maxRecDepth 100000 in
set_option maxHeartbeats 2000000 in
theorem fields_21 (w : World) : Calls Try.prog 112 #[.int .i64 21] w fun e w' => e = .returned (.int .i64 48) ∧ w' = w := by
  go_enter Try.func112, Try.ntmps112
  go_wp2
  go_ret
  exact ⟨rfl, rfl⟩
set_option maxRecDepth 100000 in
set_option maxHeartbeats 2000000 in
theorem fields_22 (w : World) : Calls Try.prog 112 #[.int .i64 22] w fun e w' => e = .returned (.int .i64 33) ∧ w' = w := by
  go_enter Try.func112, Try.ntmps112
  go_wp2
  go_ret
  exact ⟨rfl, rfl⟩
set_option maxRecDepth 100000 in
set_option maxHeartbeats 2000000 in
theorem fields_23 (w : World) : Calls Try.prog 112 #[.int .i64 23] w fun e w' => e = .returned (.int .i64 33) ∧ w' = w := by
  go_enter Try.func112, Try.ntmps112
  go_wp2
  go_ret
  exact ⟨rfl, rfl⟩
set_option maxRecDepth 100000 in
set_option maxHeartbeats 2000000 in
theorem fields_24 (w : World) : Calls Try.prog 112 #[.int .i64 24] w fun e w' => e = .returned (.int .i64 32) ∧ w' = w := by
  go_enter Try.func112, Try.ntmps112
  go_wp2
  go_ret
  exact ⟨rfl, rfl⟩
set_option maxRecDepth 100000 in
set_option maxHeartbeats 2000000 in
theorem fields_25 (w : World) : Calls Try.prog 112 #[.int .i64 25] w fun e w' => e = .returned (.int .i64 2) ∧ w' = w := by
  go_enter Try.func112, Try.ntmps112
  go_wp2
  go_ret
  exact ⟨rfl, rfl⟩
set_option maxRecDepth 100000 in
set_option maxHeartbeats 2000000 in
theorem fields_26 (w : World) : Calls Try.prog 112 #[.int .i64 26] w fun e w' => e = .returned (.int .i64 2) ∧ w' = w := by
  go_enter Try.func112, Try.ntmps112
  go_wp2
  go_ret
  exact ⟨rfl, rfl⟩
set_option maxRecDepth 100000 in
set_option maxHeartbeats 2000000 in
theorem fields_27 (w : World) : Calls Try.prog 112 #[.int .i64 27] w fun e w' => e = .returned (.int .i64 2) ∧ w' = w := by
  go_enter Try.func112, Try.ntmps112
  go_wp2
  go_ret
  exact ⟨rfl, rfl⟩
set_option maxRecDepth 100000 in
set_option maxHeartbeats 2000000 in
theorem fields_28 (w : World) : Calls Try.prog 112 #[.int .i64 28] w fun e w' => e = .returned (.int .i64 35) ∧ w' = w := by
  go_enter Try.func112, Try.ntmps112
  go_wp2
  go_ret
  exact ⟨rfl, rfl⟩
set_option maxRecDepth 100000 in
set_option maxHeartbeats 2000000 in
theorem fields_29 (w : World) : Calls Try.prog 112 #[.int .i64 29] w fun e w' => e = .returned (.int .i64 35) ∧ w' = w := by
  go_enter Try.func112, Try.ntmps112
  go_wp2
  go_ret
  exact ⟨rfl, rfl⟩
set_option maxRecDepth 100000 in
set_option maxHeartbeats 2000000 in
theorem fields_30 (w : World) : Calls Try.prog 112 #[.int .i64 30] w fun e w' => e = .returned (.int .i64 35) ∧ w' = w := by
  go_enter Try.func112, Try.ntmps112
  go_wp2
  go_ret
  exact ⟨rfl, rfl⟩
set_option maxRecDepth 100000 in
set_option maxHeartbeats 2000000 in
theorem fields_31 (w : World) : Calls Try.prog 112 #[.int .i64 31] w fun e w' => e = .returned (.int .i64 7) ∧ w' = w := by
  go_enter Try.func112, Try.ntmps112
  go_wp2
  go_ret
  exact ⟨rfl, rfl⟩
set_option maxRecDepth 100000 in
set_option maxHeartbeats 2000000 in
theorem fields_32 (w : World) : Calls Try.prog 112 #[.int .i64 32] w fun e w' => e = .returned (.int .i64 7) ∧ w' = w := by
  go_enter Try.func112, Try.ntmps112
  go_wp2
  go_ret
  exact ⟨rfl, rfl⟩
set_option maxRecDepth 100000 in
set_option maxHeartbeats 2000000 in
theorem fields_33 (w : World) : Calls Try.prog 112 #[.int .i64 33] w fun e w' => e = .returned (.int .i64 3) ∧ w' = w := by
  go_enter Try.func112, Try.ntmps112
  go_wp2
  go_ret
  exact ⟨rfl, rfl⟩
set_option maxRecDepth 100000 in
set_option maxHeartbeats 2000000 in
theorem fields_34 (w : World) : Calls Try.prog 112 #[.int .i64 34] w fun e w' => e = .returned (.int .i64 3) ∧ w' = w := by
  go_enter Try.func112, Try.ntmps112
  go_wp2
  go_ret
  exact ⟨rfl, rfl⟩
set_option maxRecDepth 100000 in
set_option maxHeartbeats 2000000 in
theorem fields_35 (w : World) : Calls Try.prog 112 #[.int .i64 35] w fun e w' => e = .returned (.int .i64 3) ∧ w' = w := by
  go_enter Try.func112, Try.ntmps112
  go_wp2
  go_ret
  exact ⟨rfl, rfl⟩
set_option maxRecDepth 100000 in
set_option maxHeartbeats 2000000 in
theorem fields_36 (w : World) : Calls Try.prog 112 #[.int .i64 36] w fun e w' => e = .returned (.int .i64 7) ∧ w' = w := by
  go_enter Try.func112, Try.ntmps112
  go_wp2
  go_ret
  exact ⟨rfl, rfl⟩
set_option maxRecDepth 100000 in
set_option maxHeartbeats 2000000 in
theorem fields_37 (w : World) : Calls Try.prog 112 #[.int .i64 37] w fun e w' => e = .returned (.int .i64 32) ∧ w' = w := by
  go_enter Try.func112, Try.ntmps112
  go_wp2
  go_ret
  exact ⟨rfl, rfl⟩
set_option maxRecDepth 100000 in
set_option maxHeartbeats 2000000 in
theorem fields_38 (w : World) : Calls Try.prog 112 #[.int .i64 38] w fun e w' => e = .returned (.int .i64 0) ∧ w' = w := by
  go_enter Try.func112, Try.ntmps112
  go_wp2
  go_ret
  exact ⟨rfl, rfl⟩
set_option maxRecDepth 100000 in
set_option maxHeartbeats 2000000 in
theorem fields_39 (w : World) : Calls Try.prog 112 #[.int .i64 39] w fun e w' => e = .returned (.int .i64 0) ∧ w' = w := by
  go_enter Try.func112, Try.ntmps112
  go_wp2
  go_ret
  exact ⟨rfl, rfl⟩
set_option maxRecDepth 100000 in
set_option maxHeartbeats 2000000 in
theorem fields_40 (w : World) : Calls Try.prog 112 #[.int .i64 40] w fun e w' => e = .returned (.int .i64 2) ∧ w' = w := by
  go_enter Try.func112, Try.ntmps112
  go_wp2
  go_ret
  exact ⟨rfl, rfl⟩
set_option maxRecDepth 100000 in
set_option maxHeartbeats 2000000 in
theorem fields_41 (w : World) : Calls Try.prog 112 #[.int .i64 41] w fun e w' => e = .returned (.int .i64 2) ∧ w' = w := by
  go_enter Try.func112, Try.ntmps112
  go_wp2
  go_ret
  exact ⟨rfl, rfl⟩
set_option maxRecDepth 100000 in
set_option maxHeartbeats 2000000 in
theorem fields_42 (w : World) : Calls Try.prog 112 #[.int .i64 42] w fun e w' => e = .returned (.int .i64 32) ∧ w' = w := by
  go_enter Try.func112, Try.ntmps112
  go_wp2
  go_ret
  exact ⟨rfl, rfl⟩
end Go.Proofs.Ytnbpgoacooddjaa.Fr
