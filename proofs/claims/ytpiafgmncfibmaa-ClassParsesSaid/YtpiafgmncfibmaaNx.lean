import Derived.Test.YtpiafgmncfibmaaSc
import Derived.Test.YtpiafgmncfibmaaRk
import Derived.Test.YtpiafgmncfibmaaLb
import Derived.Test.YtpiafgmncfibmaaRows
import Derived.WalkKit
import Derived.ProofKit
import Derived.OpenShut
import Derived.Deep.QuietTactic
import Derived.BigQuiet
import Derived.Outline
import Derived.WalkSmall
import Derived.WalkLawsBesides
import Derived.WalkSpells
import Derived.BigGuardPart
import Derived.RegionTactic
import Derived.Deep.RegionHeld3
import Derived.Lib.Hide
import Derived.Deep.MidRow
import Derived.Below
import Derived.Deep.RegionWith
import Derived.Deep.OwnRows
import Derived.Deep.AppendLies
namespace Go.Proofs.Ytpiafgmncfibmaa
open Go.ChangeShapes Go.WideShapes Go.ChangeAt Go.RowKit
set_option linter.unusedVariables false

/-- A reader: its bytes, its place. -/
def rdr (B o n c k : Nat) : Array Value := #[.slice (some ⟨B, o, none⟩) n c, .int .i64 k]
def NextR (w : World) (R B o n c k v : Nat) (e : Ending) (w' : World) : Prop := e = .returned (.int .i64 v) ∧ rowAt w' R = some (rdr B o n c (k + 1)) ∧ w.grownBy w' (some R)
theorem drewN_set_row {w : World} {R B o n c k : Nat} (q : Nat) (x : Int) (hx : x = ((k + 1 : Nat) : Int)) (h : rowAt w R = some (rdr B o n c k)) : rowAt ((w.drewN q).setCell ⟨R, 1, none⟩ (.int .i64 x)) R = some (rdr B o n c (k + 1)) := by
  subst hx
  have h2 : rowAt (w.drewN q) R = some (rdr B o n c k) := h
  exact rowAt_set h2 1 _
theorem drewN_set_grown (w : World) (q : Nat) (a : Addr) (u : Value) : w.grownBy ((w.drewN q).setCell a u) (some a.block) := (have h := grown_set (w.drewN q) a u; ⟨h.os, h.tape, h.output, h.size, h.block⟩)

theorem any_c (v : Int) (w : World) : Calls Try.prog 131 #[.int .i64 v] w fun e w' => e = .returned (.bool true) ∧ w = w' := by
  go_enter Try.func131, Try.ntmps131
  go_wp2
  go_ret
  exact ⟨rfl, rfl⟩

set_option maxRecDepth 100000 in
set_option maxHeartbeats 2000000 in
theorem next_any (R B o n c k v : Nat) (er : Int)  (w : World) (HR : Hid (rowAt w R = some (rdr B o n c k))) (hk : k < n) (hn : n ≤ Big) (hv : w.cell? ⟨B, o + k, none⟩ = some (.int .u8 v)) (hv2 : v < 256)  :
    Calls Try.prog 104 #[.pointer (some ⟨R, 0, none⟩), .int .i64 er, .func (.func 131) #[] #[]] w (NextR w R B o n c k v) := by
  unfold Big at hn
  have r0 : w.cell? ⟨R, 0, none⟩ = some (.slice (some ⟨B, o, none⟩) n c) := rowAt_cell HR.out 0
  have r1 : w.cell? ⟨R, 1, none⟩ = some (.int .i64 k) := rowAt_cell HR.out 1
  have r2 : w.frozen? ⟨R, 1, none⟩ = false := rowAt_frz HR.out 1
  have d1 : decide ((n : Int) ≤ (k : Int)) = false := decide_eq_false (by omega)
  go_enter Try.func104, Try.ntmps104
  go_wp2
  go_quiet (fail)
  go_wp2
  go_quiet (fail)
  go_wp2_with (first | (go_at_call 131; refine (any_c _ _).mono ?_; rintro e w' ⟨rfl, rfl⟩))
  go_ret
  exact ⟨rfl, drewN_set_row _ _ (by omega) HR.out, drewN_set_grown _ _ _ _⟩

theorem count1_c (v m : Nat) (Mb : Nat) (w : World) (hm : w.cell? ⟨Mb, 0, none⟩ = some (.int .i64 m)) (h : v ≤ m) : Calls Try.prog 120 #[.int .i64 v, .pointer (some ⟨Mb, 0, none⟩)] w fun e w' => e = .returned (.bool true) ∧ w = w' := by
  have d : decide ((v : Int) ≤ (m : Int)) = true := decide_eq_true (by omega)
  go_enter Try.func120, Try.ntmps120
  go_wp2
  go_ret
  exact ⟨rfl, rfl⟩
theorem magic1_c (v : Nat) (Mb : Nat) (w : World) (hm : w.cell? ⟨Mb, 0, none⟩ = some (.int .u8 v)) (hv : v < 256) : Calls Try.prog 105 #[.int .i64 v, .pointer (some ⟨Mb, 0, none⟩)] w fun e w' => e = .returned (.bool true) ∧ w = w' := by
  go_enter Try.func105, Try.ntmps105
  go_wp2
  go_ret
  exact ⟨rfl, rfl⟩

set_option maxRecDepth 100000 in
set_option maxHeartbeats 2000000 in
theorem next_count (R B o n c k v : Nat) (er : Int) (Mb m : Nat) (w : World) (HR : Hid (rowAt w R = some (rdr B o n c k))) (hk : k < n) (hn : n ≤ Big) (hv : w.cell? ⟨B, o + k, none⟩ = some (.int .u8 v)) (hv2 : v < 256) (hm : w.cell? ⟨Mb, 0, none⟩ = some (.int .i64 m)) (hvm : v ≤ m) :
    Calls Try.prog 104 #[.pointer (some ⟨R, 0, none⟩), .int .i64 er, .func (.func 120) #[] #[.pointer (some ⟨Mb, 0, none⟩)]] w (NextR w R B o n c k v) := by
  unfold Big at hn
  have r0 : w.cell? ⟨R, 0, none⟩ = some (.slice (some ⟨B, o, none⟩) n c) := rowAt_cell HR.out 0
  have r1 : w.cell? ⟨R, 1, none⟩ = some (.int .i64 k) := rowAt_cell HR.out 1
  have r2 : w.frozen? ⟨R, 1, none⟩ = false := rowAt_frz HR.out 1
  have d1 : decide ((n : Int) ≤ (k : Int)) = false := decide_eq_false (by omega)
  go_enter Try.func104, Try.ntmps104
  go_wp2
  go_quiet (fail)
  go_wp2
  go_quiet (fail)
  go_wp2_with (first | (go_at_call 120; refine (count1_c v m Mb (w.drewN _) hm hvm).mono ?_; rintro e w' ⟨rfl, rfl⟩))
  go_ret
  exact ⟨rfl, drewN_set_row _ _ (by omega) HR.out, drewN_set_grown _ _ _ _⟩

set_option maxRecDepth 100000 in
set_option maxHeartbeats 2000000 in
theorem next_magic (R B o n c k v : Nat) (er : Int) (Mb : Nat) (w : World) (HR : Hid (rowAt w R = some (rdr B o n c k))) (hk : k < n) (hn : n ≤ Big) (hv : w.cell? ⟨B, o + k, none⟩ = some (.int .u8 v)) (hv2 : v < 256) (hm : w.cell? ⟨Mb, 0, none⟩ = some (.int .u8 v)) :
    Calls Try.prog 104 #[.pointer (some ⟨R, 0, none⟩), .int .i64 er, .func (.func 105) #[] #[.pointer (some ⟨Mb, 0, none⟩)]] w (NextR w R B o n c k v) := by
  unfold Big at hn
  have r0 : w.cell? ⟨R, 0, none⟩ = some (.slice (some ⟨B, o, none⟩) n c) := rowAt_cell HR.out 0
  have r1 : w.cell? ⟨R, 1, none⟩ = some (.int .i64 k) := rowAt_cell HR.out 1
  have r2 : w.frozen? ⟨R, 1, none⟩ = false := rowAt_frz HR.out 1
  have d1 : decide ((n : Int) ≤ (k : Int)) = false := decide_eq_false (by omega)
  go_enter Try.func104, Try.ntmps104
  go_wp2
  go_quiet (fail)
  go_wp2
  go_quiet (fail)
  go_wp2_with (first | (go_at_call 105; refine (magic1_c v Mb (w.drewN _) hm hv2).mono ?_; rintro e w' ⟨rfl, rfl⟩))
  go_ret
  exact ⟨rfl, drewN_set_row _ _ (by omega) HR.out, drewN_set_grown _ _ _ _⟩

set_option maxRecDepth 100000 in
set_option maxHeartbeats 2000000 in
theorem next_ret (R B o n c k v : Nat) (er : Int)  (w : World) (HR : Hid (rowAt w R = some (rdr B o n c k))) (hk : k < n) (hn : n ≤ Big) (hv : w.cell? ⟨B, o + k, none⟩ = some (.int .u8 v)) (hv2 : v < 256) (hm : Hid (isRB v = true)) :
    Calls Try.prog 104 #[.pointer (some ⟨R, 0, none⟩), .int .i64 er, .func (.func 74) #[] #[]] w (NextR w R B o n c k v) := by
  unfold Big at hn
  have r0 : w.cell? ⟨R, 0, none⟩ = some (.slice (some ⟨B, o, none⟩) n c) := rowAt_cell HR.out 0
  have r1 : w.cell? ⟨R, 1, none⟩ = some (.int .i64 k) := rowAt_cell HR.out 1
  have r2 : w.frozen? ⟨R, 1, none⟩ = false := rowAt_frz HR.out 1
  have d1 : decide ((n : Int) ≤ (k : Int)) = false := decide_eq_false (by omega)
  go_enter Try.func104, Try.ntmps104
  go_wp2
  go_quiet (fail)
  go_wp2
  go_quiet (fail)
  go_wp2_with (first | (go_at_call 74; refine (ret_c v true _ hm.out).mono ?_; rintro e w' ⟨rfl, rfl⟩))
  go_ret
  exact ⟨rfl, drewN_set_row _ _ (by omega) HR.out, drewN_set_grown _ _ _ _⟩

set_option maxRecDepth 100000 in
set_option maxHeartbeats 2000000 in
theorem next_type (R B o n c k v : Nat) (er : Int)  (w : World) (HR : Hid (rowAt w R = some (rdr B o n c k))) (hk : k < n) (hn : n ≤ Big) (hv : w.cell? ⟨B, o + k, none⟩ = some (.int .u8 v)) (hv2 : v < 256) (hm : Hid (isTB v = true)) :
    Calls Try.prog 104 #[.pointer (some ⟨R, 0, none⟩), .int .i64 er, .func (.func 77) #[] #[]] w (NextR w R B o n c k v) := by
  unfold Big at hn
  have r0 : w.cell? ⟨R, 0, none⟩ = some (.slice (some ⟨B, o, none⟩) n c) := rowAt_cell HR.out 0
  have r1 : w.cell? ⟨R, 1, none⟩ = some (.int .i64 k) := rowAt_cell HR.out 1
  have r2 : w.frozen? ⟨R, 1, none⟩ = false := rowAt_frz HR.out 1
  have d1 : decide ((n : Int) ≤ (k : Int)) = false := decide_eq_false (by omega)
  go_enter Try.func104, Try.ntmps104
  go_wp2
  go_quiet (fail)
  go_wp2
  go_quiet (fail)
  go_wp2_with (first | (go_at_call 77; refine (type_c v true _ hm.out).mono ?_; rintro e w' ⟨rfl, rfl⟩))
  go_ret
  exact ⟨rfl, drewN_set_row _ _ (by omega) HR.out, drewN_set_grown _ _ _ _⟩

theorem rdr_any (R B o n c k v : Nat) (w : World) (HR : Hid (rowAt w R = some (rdr B o n c k))) (hk : k < n) (hn : n ≤ Big) (hv : w.cell? ⟨B, o + k, none⟩ = some (.int .u8 v)) (hv2 : v < 256) :
    Calls Try.prog 121 #[.pointer (some ⟨R, 0, none⟩)] w (NextR w R B o n c k v) := by
  go_enter Try.func121, Try.ntmps121
  go_wp2_with (first | (go_at_call 104; refine (next_any R B o n c k v _ _ HR hk hn hv hv2).mono ?_; rintro e w' ⟨rfl, h1, h2⟩))
  go_ret
  exact ⟨rfl, h1, h2⟩
theorem rdr_count (R B o n c k v m : Nat) (w : World) (HR : Hid (rowAt w R = some (rdr B o n c k))) (hk : k < n) (hn : n ≤ Big) (hv : w.cell? ⟨B, o + k, none⟩ = some (.int .u8 v)) (hv2 : v < 256) (hvm : v ≤ m) (hB : B < w.heap.size) :
    Calls Try.prog 106 #[.pointer (some ⟨R, 0, none⟩), .int .i64 m] w (NextR w R B o n c k v) := by
  have hmf : ∀ (fn : Fn) (first cap : Array Value) (w : World), (Instr.makeFunc fn first cap).run Try.prog w = .ok (.func fn first cap) w := fun _ _ _ _ => rfl
  have hR := rowAt_lt HR.out
  have HV := Lib.hid hv
  clear hv
  go_enter Try.func106, Try.ntmps106
  go_wp2_with (first | (go_at_call 104; refine (next_count R B o n c k v _ w.heap.size m _ (Lib.hid (rowAt_past HR.out _)) hk hn ((Below.cell ((Below.refl w.heap.size w).alloc (Nat.le_refl _) _) hB).trans HV.out) hv2 (by simp [go_sem]) hvm).mono ?_; rintro e w' ⟨rfl, h1, h2⟩))
  go_ret
  exact ⟨rfl, h1, grown_trans (grown_alloc w _ _) h2 (.inl rfl)⟩
end Go.Proofs.Ytpiafgmncfibmaa
