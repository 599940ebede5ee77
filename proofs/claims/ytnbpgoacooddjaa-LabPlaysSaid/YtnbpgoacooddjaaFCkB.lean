import Derived.Test.YtnbpgoacooddjaaRows
import Derived.WalkKit
import Derived.ProofKit
import Derived.OpenShut
import Derived.Outline
import Derived.WalkSmall
import Derived.WalkLawsBesides
import Derived.WalkSpells
import Derived.BigGuardPart
import Derived.RegionTactic
import Derived.Lib.Hide
import Derived.Below
import Derived.Deep.RegionWith
import Derived.Deep.RegionHeld3
import Derived.Test.YtnbpgoacooddjaaFIs
import Derived.Test.YtnbpgoacooddjaaFCkA
namespace Go.Proofs.Ytnbpgoacooddjaa.Fr
open Go.ChangeShapes Go.WideShapes Go.ChangeAt Go.RowKit
set_option linter.unusedVariables false
set_option maxRecDepth 100000 in
set_option maxHeartbeats 2000000 in
theorem only_0 (op d n m a c i : Int) (w : World) : Calls Try.prog 111 #[.agg #[.int .i64 op, .int .i64 d, .int .i64 n, .int .i64 m, .int .i64 a, .int .i64 c, .int .i64 i], .int .i64 0] w fun e w' => e = .returned (.bool (zs [d, n, m, a, c, i])) ∧ Below w.heap.size w w' := by
  have x1 : bits .and .i64 0 1 = 0 := by decide
  have x2 : bits .and .i64 0 2 = 0 := by decide
  have x4 : bits .and .i64 0 4 = 0 := by decide
  have x8 : bits .and .i64 0 8 = 0 := by decide
  have x16 : bits .and .i64 0 16 = 0 := by decide
  have x32 : bits .and .i64 0 32 = 0 := by decide
  go_enter Try.func111, Try.ntmps111
  go_wp2
  all_goals
    go_ret
    exact ⟨ret_bool (by simp_all [zs]), (Below.refl _ _).alloc (Nat.le_refl _) _⟩
set_option maxRecDepth 100000 in
set_option maxHeartbeats 2000000 in
theorem only_2 (op d n m a c i : Int) (w : World) : Calls Try.prog 111 #[.agg #[.int .i64 op, .int .i64 d, .int .i64 n, .int .i64 m, .int .i64 a, .int .i64 c, .int .i64 i], .int .i64 2] w fun e w' => e = .returned (.bool (zs [d, m, a, c, i])) ∧ Below w.heap.size w w' := by
  have x1 : bits .and .i64 2 1 = 0 := by decide
  have x2 : bits .and .i64 2 2 = 2 := by decide
  have x4 : bits .and .i64 2 4 = 0 := by decide
  have x8 : bits .and .i64 2 8 = 0 := by decide
  have x16 : bits .and .i64 2 16 = 0 := by decide
  have x32 : bits .and .i64 2 32 = 0 := by decide
  go_enter Try.func111, Try.ntmps111
  go_wp2
  all_goals
    go_ret
    exact ⟨ret_bool (by simp_all [zs]), (Below.refl _ _).alloc (Nat.le_refl _) _⟩
set_option maxRecDepth 100000 in
set_option maxHeartbeats 2000000 in
theorem only_3 (op d n m a c i : Int) (w : World) : Calls Try.prog 111 #[.agg #[.int .i64 op, .int .i64 d, .int .i64 n, .int .i64 m, .int .i64 a, .int .i64 c, .int .i64 i], .int .i64 3] w fun e w' => e = .returned (.bool (zs [m, a, c, i])) ∧ Below w.heap.size w w' := by
  have x1 : bits .and .i64 3 1 = 1 := by decide
  have x2 : bits .and .i64 3 2 = 2 := by decide
  have x4 : bits .and .i64 3 4 = 0 := by decide
  have x8 : bits .and .i64 3 8 = 0 := by decide
  have x16 : bits .and .i64 3 16 = 0 := by decide
  have x32 : bits .and .i64 3 32 = 0 := by decide
  go_enter Try.func111, Try.ntmps111
  go_wp2
  all_goals
    go_ret
    exact ⟨ret_bool (by simp_all [zs]), (Below.refl _ _).alloc (Nat.le_refl _) _⟩
set_option maxRecDepth 100000 in
set_option maxHeartbeats 2000000 in
theorem only_7 (op d n m a c i : Int) (w : World) : Calls Try.prog 111 #[.agg #[.int .i64 op, .int .i64 d, .int .i64 n, .int .i64 m, .int .i64 a, .int .i64 c, .int .i64 i], .int .i64 7] w fun e w' => e = .returned (.bool (zs [a, c, i])) ∧ Below w.heap.size w w' := by
  have x1 : bits .and .i64 7 1 = 1 := by decide
  have x2 : bits .and .i64 7 2 = 2 := by decide
  have x4 : bits .and .i64 7 4 = 4 := by decide
  have x8 : bits .and .i64 7 8 = 0 := by decide
  have x16 : bits .and .i64 7 16 = 0 := by decide
  have x32 : bits .and .i64 7 32 = 0 := by decide
  go_enter Try.func111, Try.ntmps111
  go_wp2
  all_goals
    go_ret
    exact ⟨ret_bool (by simp_all [zs]), (Below.refl _ _).alloc (Nat.le_refl _) _⟩
set_option maxRecDepth 100000 in
set_option maxHeartbeats 2000000 in
theorem only_15 (op d n m a c i : Int) (w : World) : Calls Try.prog 111 #[.agg #[.int .i64 op, .int .i64 d, .int .i64 n, .int .i64 m, .int .i64 a, .int .i64 c, .int .i64 i], .int .i64 15] w fun e w' => e = .returned (.bool (zs [c, i])) ∧ Below w.heap.size w w' := by
  have x1 : bits .and .i64 15 1 = 1 := by decide
  have x2 : bits .and .i64 15 2 = 2 := by decide
  have x4 : bits .and .i64 15 4 = 4 := by decide
  have x8 : bits .and .i64 15 8 = 8 := by decide
  have x16 : bits .and .i64 15 16 = 0 := by decide
  have x32 : bits .and .i64 15 32 = 0 := by decide
  go_enter Try.func111, Try.ntmps111
  go_wp2
  all_goals
    go_ret
    exact ⟨ret_bool (by simp_all [zs]), (Below.refl _ _).alloc (Nat.le_refl _) _⟩
set_option maxRecDepth 100000 in
set_option maxHeartbeats 2000000 in
theorem only_23 (op d n m a c i : Int) (w : World) : Calls Try.prog 111 #[.agg #[.int .i64 op, .int .i64 d, .int .i64 n, .int .i64 m, .int .i64 a, .int .i64 c, .int .i64 i], .int .i64 23] w fun e w' => e = .returned (.bool (zs [a, i])) ∧ Below w.heap.size w w' := by
  have x1 : bits .and .i64 23 1 = 1 := by decide
  have x2 : bits .and .i64 23 2 = 2 := by decide
  have x4 : bits .and .i64 23 4 = 4 := by decide
  have x8 : bits .and .i64 23 8 = 0 := by decide
  have x16 : bits .and .i64 23 16 = 16 := by decide
  have x32 : bits .and .i64 23 32 = 0 := by decide
  go_enter Try.func111, Try.ntmps111
  go_wp2
  all_goals
    go_ret
    exact ⟨ret_bool (by simp_all [zs]), (Below.refl _ _).alloc (Nat.le_refl _) _⟩
set_option maxRecDepth 100000 in
set_option maxHeartbeats 2000000 in
theorem only_32 (op d n m a c i : Int) (w : World) : Calls Try.prog 111 #[.agg #[.int .i64 op, .int .i64 d, .int .i64 n, .int .i64 m, .int .i64 a, .int .i64 c, .int .i64 i], .int .i64 32] w fun e w' => e = .returned (.bool (zs [d, n, m, a, c])) ∧ Below w.heap.size w w' := by
  have x1 : bits .and .i64 32 1 = 0 := by decide
  have x2 : bits .and .i64 32 2 = 0 := by decide
  have x4 : bits .and .i64 32 4 = 0 := by decide
  have x8 : bits .and .i64 32 8 = 0 := by decide
  have x16 : bits .and .i64 32 16 = 0 := by decide
  have x32 : bits .and .i64 32 32 = 32 := by decide
  go_enter Try.func111, Try.ntmps111
  go_wp2
  all_goals
    go_ret
    exact ⟨ret_bool (by simp_all [zs]), (Below.refl _ _).alloc (Nat.le_refl _) _⟩
set_option maxRecDepth 100000 in
set_option maxHeartbeats 2000000 in
theorem only_33 (op d n m a c i : Int) (w : World) : Calls Try.prog 111 #[.agg #[.int .i64 op, .int .i64 d, .int .i64 n, .int .i64 m, .int .i64 a, .int .i64 c, .int .i64 i], .int .i64 33] w fun e w' => e = .returned (.bool (zs [n, m, a, c])) ∧ Below w.heap.size w w' := by
  have x1 : bits .and .i64 33 1 = 1 := by decide
  have x2 : bits .and .i64 33 2 = 0 := by decide
  have x4 : bits .and .i64 33 4 = 0 := by decide
  have x8 : bits .and .i64 33 8 = 0 := by decide
  have x16 : bits .and .i64 33 16 = 0 := by decide
  have x32 : bits .and .i64 33 32 = 32 := by decide
  go_enter Try.func111, Try.ntmps111
  go_wp2
  all_goals
    go_ret
    exact ⟨ret_bool (by simp_all [zs]), (Below.refl _ _).alloc (Nat.le_refl _) _⟩
set_option maxRecDepth 100000 in
set_option maxHeartbeats 2000000 in
theorem only_35 (op d n m a c i : Int) (w : World) : Calls Try.prog 111 #[.agg #[.int .i64 op, .int .i64 d, .int .i64 n, .int .i64 m, .int .i64 a, .int .i64 c, .int .i64 i], .int .i64 35] w fun e w' => e = .returned (.bool (zs [m, a, c])) ∧ Below w.heap.size w w' := by
  have x1 : bits .and .i64 35 1 = 1 := by decide
  have x2 : bits .and .i64 35 2 = 2 := by decide
  have x4 : bits .and .i64 35 4 = 0 := by decide
  have x8 : bits .and .i64 35 8 = 0 := by decide
  have x16 : bits .and .i64 35 16 = 0 := by decide
  have x32 : bits .and .i64 35 32 = 32 := by decide
  go_enter Try.func111, Try.ntmps111
  go_wp2
  all_goals
    go_ret
    exact ⟨ret_bool (by simp_all [zs]), (Below.refl _ _).alloc (Nat.le_refl _) _⟩
set_option maxRecDepth 100000 in
set_option maxHeartbeats 2000000 in
theorem only_37 (op d n m a c i : Int) (w : World) : Calls Try.prog 111 #[.agg #[.int .i64 op, .int .i64 d, .int .i64 n, .int .i64 m, .int .i64 a, .int .i64 c, .int .i64 i], .int .i64 37] w fun e w' => e = .returned (.bool (zs [n, a, c])) ∧ Below w.heap.size w w' := by
  have x1 : bits .and .i64 37 1 = 1 := by decide
  have x2 : bits .and .i64 37 2 = 0 := by decide
  have x4 : bits .and .i64 37 4 = 4 := by decide
  have x8 : bits .and .i64 37 8 = 0 := by decide
  have x16 : bits .and .i64 37 16 = 0 := by decide
  have x32 : bits .and .i64 37 32 = 32 := by decide
  go_enter Try.func111, Try.ntmps111
  go_wp2
  all_goals
    go_ret
    exact ⟨ret_bool (by simp_all [zs]), (Below.refl _ _).alloc (Nat.le_refl _) _⟩
set_option maxRecDepth 100000 in
set_option maxHeartbeats 2000000 in
theorem only_48 (op d n m a c i : Int) (w : World) : Calls Try.prog 111 #[.agg #[.int .i64 op, .int .i64 d, .int .i64 n, .int .i64 m, .int .i64 a, .int .i64 c, .int .i64 i], .int .i64 48] w fun e w' => e = .returned (.bool (zs [d, n, m, a])) ∧ Below w.heap.size w w' := by
  have x1 : bits .and .i64 48 1 = 0 := by decide
  have x2 : bits .and .i64 48 2 = 0 := by decide
  have x4 : bits .and .i64 48 4 = 0 := by decide
  have x8 : bits .and .i64 48 8 = 0 := by decide
  have x16 : bits .and .i64 48 16 = 16 := by decide
  have x32 : bits .and .i64 48 32 = 32 := by decide
  go_enter Try.func111, Try.ntmps111
  go_wp2
  all_goals
    go_ret
    exact ⟨ret_bool (by simp_all [zs]), (Below.refl _ _).alloc (Nat.le_refl _) _⟩
end Go.Proofs.Ytnbpgoacooddjaa.Fr
