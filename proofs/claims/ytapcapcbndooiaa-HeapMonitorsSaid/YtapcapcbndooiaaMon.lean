import Derived.Test.YtapcapcbndooiaaRows
import Derived.WalkKit
import Derived.ProofKit
import Derived.OpenShut
import Derived.Deep.QuietTactic
import Derived.BigQuiet
import Derived.Outline
import Derived.WalkSmall
import Derived.WalkLawsBesides
import Derived.WalkSpells
import Derived.BigGuardPart
import Derived.RegionTactic
import Derived.Deep.RegionHeld3
import Derived.Lib.Hide
namespace Go.Proofs.Ytapcapcbndooiaa
open Go.ChangeShapes Go.WideShapes Go.ChangeAt Go.RowKit
set_option linter.unusedVariables false
theorem find_y (h ob x cp : Nat) (w : World) (h2 : w.cell? ⟨h, 2, none⟩ = some (.slice (some ⟨ob, 0, none⟩) 1 cp)) (o0 : w.cell? ⟨ob, 0, none⟩ = some (.iface 143 (.pointer (some ⟨x, 0, none⟩)))) :
    Calls Try.prog 105 #[.pointer (some ⟨h, 0, none⟩), .int .i64 1] w fun e w' => e = .returned (.iface 143 (.pointer (some ⟨x, 0, none⟩))) ∧ w = w' := by
  go_enter Try.func105, Try.ntmps105
  go_wp2
  go_ret
  exact ⟨rfl, rfl⟩
theorem find_0 (h ob cp : Nat) (w : World) (h2 : w.cell? ⟨h, 2, none⟩ = some (.slice (some ⟨ob, 0, none⟩) 1 cp)) :
    Calls Try.prog 105 #[.pointer (some ⟨h, 0, none⟩), .int .i64 0] w fun e w' => e = .returned .nilIface ∧ w = w' := by
  go_enter Try.func105, Try.ntmps105
  go_wp2
  go_ret
  exact ⟨rfl, rfl⟩
theorem find_2 (h ob cp : Nat) (w : World) (h2 : w.cell? ⟨h, 2, none⟩ = some (.slice (some ⟨ob, 0, none⟩) 1 cp)) :
    Calls Try.prog 105 #[.pointer (some ⟨h, 0, none⟩), .int .i64 2] w fun e w' => e = .returned .nilIface ∧ w = w' := by
  go_enter Try.func105, Try.ntmps105
  go_wp2
  go_ret
  exact ⟨rfl, rfl⟩
theorem meth_lock (x : Nat) (w : World) : (method 307 143 (.pointer (some ⟨x, 0, none⟩)) "brazier/heap.lock").run Try.prog w = .ok (164, .pointer (some ⟨x, 0, none⟩)) w := by kernel_rfl
theorem lock_c (x : Nat) (w : World) : Calls Try.prog 164 #[.pointer (some ⟨x, 0, none⟩)] w fun e w' => e = .returned (.pointer (some ⟨x, 3, none⟩)) ∧ w = w' := by
  go_enter Try.func164, Try.ntmps164
  go_wp2
  go_ret
  exact ⟨rfl, rfl⟩
theorem lock_q (x : Nat) (w : World) : Calls Try.prog 164 #[.pointer (some ⟨x, 0, none⟩)] w fun e w' => e = .returned (.pointer (some ⟨x, 3, none⟩)) ∧ w' = w := (lock_c x w).mono fun _ _ h => ⟨h.1, h.2.symm⟩
set_option maxRecDepth 100000 in
theorem enter_0 (h ob x cp : Nat) (th t : Int) (w : World) (h2 : w.cell? ⟨h, 2, none⟩ = some (.slice (some ⟨ob, 0, none⟩) 1 cp)) (o0 : w.cell? ⟨ob, 0, none⟩ = some (.iface 143 (.pointer (some ⟨x, 0, none⟩)))) (x3 : w.cell? ⟨x, 3, none⟩ = some (.int .i64 th)) (x4 : w.cell? ⟨x, 4, none⟩ = some (.int .i64 0)) (z3 : w.frozen? ⟨x, 3, none⟩ = false) (z4 : w.frozen? ⟨x, 4, none⟩ = false) :
    Calls Try.prog 48 #[.pointer (some ⟨h, 0, none⟩), .int .i64 t, .int .i64 1] w fun e w' => e = .returned (.bool true) ∧ (w.setCell ⟨x, 3, none⟩ (.int .i64 t)).setCell ⟨x, 4, none⟩ (.int .i64 1) = w' := by
  have hm := meth_lock x
  go_enter Try.func48, Try.ntmps48
  go_wp2_with (first | (go_at_call 105; refine (find_y h ob x cp _ h2 o0).mono ?_; rintro e w' ⟨rfl, rfl⟩) | (go_at_call 164; refine (lock_c x _).mono ?_; rintro e w' ⟨rfl, rfl⟩))
  refine bodyPost_ret (v := .bool true) (by simp [results, Try.results48, go_sem]) rfl ⟨rfl, rfl⟩
set_option maxRecDepth 100000 in
theorem enter_s (h ob x cp : Nat) (ct t : Int) (w : World) (c0 : 0 < ct) (c1 : ct ≤ 1000000) (h2 : w.cell? ⟨h, 2, none⟩ = some (.slice (some ⟨ob, 0, none⟩) 1 cp)) (o0 : w.cell? ⟨ob, 0, none⟩ = some (.iface 143 (.pointer (some ⟨x, 0, none⟩)))) (x3 : w.cell? ⟨x, 3, none⟩ = some (.int .i64 t)) (x4 : w.cell? ⟨x, 4, none⟩ = some (.int .i64 ct)) (z3 : w.frozen? ⟨x, 3, none⟩ = false) (z4 : w.frozen? ⟨x, 4, none⟩ = false) :
    Calls Try.prog 48 #[.pointer (some ⟨h, 0, none⟩), .int .i64 t, .int .i64 1] w fun e w' => e = .returned (.bool true) ∧ (w.setCell ⟨x, 3, none⟩ (.int .i64 t)).setCell ⟨x, 4, none⟩ (.int .i64 (ct + 1)) = w' := by
  have hm := meth_lock x
  go_enter Try.func48, Try.ntmps48
  go_wp2_with (first | (go_at_call 105; refine (find_y h ob x cp _ h2 o0).mono ?_; rintro e w' ⟨rfl, rfl⟩) | (go_at_call 164; refine (lock_c x _).mono ?_; rintro e w' ⟨rfl, rfl⟩))
  refine bodyPost_ret (v := .bool true) (by simp [results, Try.results48, go_sem]) rfl ⟨rfl, rfl⟩
set_option maxRecDepth 100000 in
theorem enter_n (h ob x cp : Nat) (th ct t : Int) (w : World) (c0 : 0 < ct) (ne : (th == t) = false) (h2 : w.cell? ⟨h, 2, none⟩ = some (.slice (some ⟨ob, 0, none⟩) 1 cp)) (o0 : w.cell? ⟨ob, 0, none⟩ = some (.iface 143 (.pointer (some ⟨x, 0, none⟩)))) (x3 : w.cell? ⟨x, 3, none⟩ = some (.int .i64 th)) (x4 : w.cell? ⟨x, 4, none⟩ = some (.int .i64 ct)) (z3 : w.frozen? ⟨x, 3, none⟩ = false) (z4 : w.frozen? ⟨x, 4, none⟩ = false) :
    Calls Try.prog 48 #[.pointer (some ⟨h, 0, none⟩), .int .i64 t, .int .i64 1] w fun e w' => e = .returned (.bool false) ∧ w = w' := by
  have hm := meth_lock x
  go_enter Try.func48, Try.ntmps48
  go_wp2_with (first | (go_at_call 105; refine (find_y h ob x cp _ h2 o0).mono ?_; rintro e w' ⟨rfl, rfl⟩) | (go_at_call 164; refine (lock_c x _).mono ?_; rintro e w' ⟨rfl, rfl⟩))
  refine bodyPost_ret (v := .bool false) (by simp [results, Try.results48, go_sem]) rfl ⟨rfl, rfl⟩
set_option maxRecDepth 100000 in
theorem enter_2 (h ob cp : Nat) (t : Int) (w : World) (h2 : w.cell? ⟨h, 2, none⟩ = some (.slice (some ⟨ob, 0, none⟩) 1 cp)) :
    Calls Try.prog 48 #[.pointer (some ⟨h, 0, none⟩), .int .i64 t, .int .i64 2] w fun e w' => e = .returned (.bool false) ∧ w = w' := by
  go_enter Try.func48, Try.ntmps48
  go_wp2_with (go_at_call 105; refine (find_2 h ob cp _ h2).mono ?_; rintro e w' ⟨rfl, rfl⟩)
  refine bodyPost_ret (v := .bool false) (by simp [results, Try.results48, go_sem]) rfl ⟨rfl, rfl⟩
set_option maxRecDepth 100000 in
theorem exit_y (h ob x cp : Nat) (ct t : Int) (w : World) (c0 : 0 < ct) (c1 : ct ≤ 1000000) (h2 : w.cell? ⟨h, 2, none⟩ = some (.slice (some ⟨ob, 0, none⟩) 1 cp)) (o0 : w.cell? ⟨ob, 0, none⟩ = some (.iface 143 (.pointer (some ⟨x, 0, none⟩)))) (x3 : w.cell? ⟨x, 3, none⟩ = some (.int .i64 t)) (x4 : w.cell? ⟨x, 4, none⟩ = some (.int .i64 ct)) (z3 : w.frozen? ⟨x, 3, none⟩ = false) (z4 : w.frozen? ⟨x, 4, none⟩ = false) :
    Calls Try.prog 49 #[.pointer (some ⟨h, 0, none⟩), .int .i64 t, .int .i64 1] w fun e w' => e = .returned (.bool true) ∧ w.setCell ⟨x, 4, none⟩ (.int .i64 (ct - 1)) = w' := by
  have hm := meth_lock x
  have hd : (ct == 0) = false := by simp; omega
  go_enter Try.func49, Try.ntmps49
  go_wp2_with (first | (go_at_call 105; refine (find_y h ob x cp _ h2 o0).mono ?_; rintro e w' ⟨rfl, rfl⟩) | (go_at_call 164; refine (lock_c x _).mono ?_; rintro e w' ⟨rfl, rfl⟩))
  refine bodyPost_ret (v := .bool true) (by simp [results, Try.results49, go_sem]) rfl ⟨rfl, rfl⟩
set_option maxRecDepth 100000 in
theorem exit_n (h ob x cp : Nat) (th ct t : Int) (w : World) (c0 : 0 < ct) (ne : (th == t) = false) (h2 : w.cell? ⟨h, 2, none⟩ = some (.slice (some ⟨ob, 0, none⟩) 1 cp)) (o0 : w.cell? ⟨ob, 0, none⟩ = some (.iface 143 (.pointer (some ⟨x, 0, none⟩)))) (x3 : w.cell? ⟨x, 3, none⟩ = some (.int .i64 th)) (x4 : w.cell? ⟨x, 4, none⟩ = some (.int .i64 ct)) (z3 : w.frozen? ⟨x, 3, none⟩ = false) (z4 : w.frozen? ⟨x, 4, none⟩ = false) :
    Calls Try.prog 49 #[.pointer (some ⟨h, 0, none⟩), .int .i64 t, .int .i64 1] w fun e w' => e = .returned (.bool false) ∧ w = w' := by
  have hm := meth_lock x
  have hd : (ct == 0) = false := by simp; omega
  go_enter Try.func49, Try.ntmps49
  go_wp2_with (first | (go_at_call 105; refine (find_y h ob x cp _ h2 o0).mono ?_; rintro e w' ⟨rfl, rfl⟩) | (go_at_call 164; refine (lock_c x _).mono ?_; rintro e w' ⟨rfl, rfl⟩))
  refine bodyPost_ret (v := .bool false) (by simp [results, Try.results49, go_sem]) rfl ⟨rfl, rfl⟩
set_option maxRecDepth 100000 in
theorem exit_0 (h ob x cp : Nat) (th t : Int) (w : World) (h2 : w.cell? ⟨h, 2, none⟩ = some (.slice (some ⟨ob, 0, none⟩) 1 cp)) (o0 : w.cell? ⟨ob, 0, none⟩ = some (.iface 143 (.pointer (some ⟨x, 0, none⟩)))) (x3 : w.cell? ⟨x, 3, none⟩ = some (.int .i64 th)) (x4 : w.cell? ⟨x, 4, none⟩ = some (.int .i64 0)) (z3 : w.frozen? ⟨x, 3, none⟩ = false) (z4 : w.frozen? ⟨x, 4, none⟩ = false) :
    Calls Try.prog 49 #[.pointer (some ⟨h, 0, none⟩), .int .i64 t, .int .i64 1] w fun e w' => e = .returned (.bool false) ∧ w = w' := by
  have hm := meth_lock x
  go_enter Try.func49, Try.ntmps49
  go_wp2_with (first | (go_at_call 105; refine (find_y h ob x cp _ h2 o0).mono ?_; rintro e w' ⟨rfl, rfl⟩) | (go_at_call 164; refine (lock_c x _).mono ?_; rintro e w' ⟨rfl, rfl⟩))
  refine bodyPost_ret (v := .bool false) (by simp [results, Try.results49, go_sem]) rfl ⟨rfl, rfl⟩
set_option maxRecDepth 100000 in
theorem exit_none (h ob cp : Nat) (t : Int) (w : World) (h2 : w.cell? ⟨h, 2, none⟩ = some (.slice (some ⟨ob, 0, none⟩) 1 cp)) :
    Calls Try.prog 49 #[.pointer (some ⟨h, 0, none⟩), .int .i64 t, .int .i64 0] w fun e w' => e = .returned (.bool false) ∧ w = w' := by
  go_enter Try.func49, Try.ntmps49
  go_wp2_with (go_at_call 105; refine (find_0 h ob cp _ h2).mono ?_; rintro e w' ⟨rfl, rfl⟩)
  refine bodyPost_ret (v := .bool false) (by simp [results, Try.results49, go_sem]) rfl ⟨rfl, rfl⟩
set_option maxRecDepth 100000 in
theorem owner_0 (h ob x cp : Nat) (th : Int) (w : World) (h2 : w.cell? ⟨h, 2, none⟩ = some (.slice (some ⟨ob, 0, none⟩) 1 cp)) (o0 : w.cell? ⟨ob, 0, none⟩ = some (.iface 143 (.pointer (some ⟨x, 0, none⟩)))) (x3 : w.cell? ⟨x, 3, none⟩ = some (.int .i64 th)) (x4 : w.cell? ⟨x, 4, none⟩ = some (.int .i64 0)) (z3 : w.frozen? ⟨x, 3, none⟩ = false) (z4 : w.frozen? ⟨x, 4, none⟩ = false) :
    Calls Try.prog 50 #[.pointer (some ⟨h, 0, none⟩), .int .i64 1] w fun e w' => e = .returned (.tuple #[.int .i64 (-1), .int .i64 0]) ∧ w = w' := by
  have hm := meth_lock x
  go_enter Try.func50, Try.ntmps50
  go_wp2_with (first | (go_at_call 105; refine (find_y h ob x cp _ h2 o0).mono ?_; rintro e w' ⟨rfl, rfl⟩) | (go_at_call 164; refine (lock_c x _).mono ?_; rintro e w' ⟨rfl, rfl⟩))
  refine bodyPost_ret (v := .tuple #[.int .i64 (-1), .int .i64 0]) (by simp [results, Try.results50, go_sem]) rfl ⟨rfl, rfl⟩
set_option maxRecDepth 100000 in
theorem owner_p (h ob x cp : Nat) (th ct : Int) (w : World) (c0 : 0 < ct) (h2 : w.cell? ⟨h, 2, none⟩ = some (.slice (some ⟨ob, 0, none⟩) 1 cp)) (o0 : w.cell? ⟨ob, 0, none⟩ = some (.iface 143 (.pointer (some ⟨x, 0, none⟩)))) (x3 : w.cell? ⟨x, 3, none⟩ = some (.int .i64 th)) (x4 : w.cell? ⟨x, 4, none⟩ = some (.int .i64 ct)) (z3 : w.frozen? ⟨x, 3, none⟩ = false) (z4 : w.frozen? ⟨x, 4, none⟩ = false) :
    Calls Try.prog 50 #[.pointer (some ⟨h, 0, none⟩), .int .i64 1] w fun e w' => e = .returned (.tuple #[.int .i64 th, .int .i64 ct]) ∧ ∃ n, w' = w.drewN n := by
  have hm := meth_lock x
  go_enter Try.func50, Try.ntmps50
  go_wp2_with (first | (go_at_call 105; refine (find_y h ob x cp _ h2 o0).mono ?_; rintro e w' ⟨rfl, rfl⟩) | (go_at_call 164; refine (lock_c x _).mono ?_; rintro e w' ⟨rfl, rfl⟩))
  go_quiet ((go_at_call 164; exact Calls.quiet_of_same (lock_q x _)))
  go_wp2
  refine bodyPost_ret (v := .tuple #[.int .i64 th, .int .i64 ct]) (by simp [results, Try.results50, go_sem]) rfl ⟨rfl, _, rfl⟩
end Go.Proofs.Ytapcapcbndooiaa
