import Derived.Test.YtnbpgoacooddjaaRows
import Derived.WalkKit
import Derived.ProofKit
import Derived.OpenShut
import Derived.Deep.QuietTactic
import Derived.BigQuiet
import Derived.Outline
import Derived.WalkSmall
import Derived.WalkLawsBesides
import Derived.WalkSpells
import Derived.BigGuardPart
import Derived.RegionTactic
import Derived.Deep.RegionHeld3
import Derived.Lib.Hide
import Derived.Deep.MidRow
import Derived.Below
namespace Go.Proofs.Ytnbpgoacooddjaa
open Go.ChangeShapes Go.WideShapes Go.ChangeAt Go.RowKit
set_option linter.unusedVariables false
/-- The registers of a core. -/
structure Rg where
  x : Nat → Int
  sp : Int
  n : Bool
  z : Bool
  c : Bool
  v : Bool
def Rg.arr (r : Rg) : Array Value := ((List.range 31).map (fun i => Value.int .u64 (r.x i)) ++ [Value.int .u64 r.sp, Value.bool r.n, Value.bool r.z, Value.bool r.c, Value.bool r.v]).toArray
theorem Rg.size (r : Rg) : r.arr.size = 36 := by simp [Rg.arr]
theorem Rg.at (r : Rg) (i : Nat) (h : i < 31) : r.arr[i]? = some (.int .u64 (r.x i)) := by
  simp [Rg.arr, List.getElem?_append, h]
theorem Rg.at31 (r : Rg) : r.arr[31]? = some (.int .u64 r.sp) := by simp [Rg.arr]
theorem Rg.at32 (r : Rg) : r.arr[32]? = some (.bool r.n) := by simp [Rg.arr]
theorem Rg.at33 (r : Rg) : r.arr[33]? = some (.bool r.z) := by simp [Rg.arr]
theorem Rg.at34 (r : Rg) : r.arr[34]? = some (.bool r.c) := by simp [Rg.arr]
theorem Rg.at35 (r : Rg) : r.arr[35]? = some (.bool r.v) := by simp [Rg.arr]
def Rg.get (r : Rg) (n : Int) : Int := if 0 ≤ n ∧ n < 31 then r.x n.toNat else if n = 32 then r.sp else 0
def Rg.setX (r : Rg) (k : Nat) (v : Int) : Rg := { r with x := fun i => if i = k then v else r.x i }
def Rg.setSP (r : Rg) (v : Int) : Rg := { r with sp := v }
theorem Rg.setX_arr (r : Rg) (k : Nat) (v : Int) (hk : k < 31) : r.arr.setIfInBounds k (.int .u64 v) = (r.setX k v).arr := by
  apply Array.ext_getElem?
  intro i
  rw [Array.getElem?_setIfInBounds]
  rcases Nat.lt_or_ge i 31 with hi | hi
  · rw [Rg.at _ i hi, Rg.at _ i hi, r.size]
    by_cases e : k = i
    · subst e; simp [Rg.setX]; omega
    · simp [Rg.setX, e, Ne.symm e]
  · rw [if_neg (by omega)]
    simp [Rg.arr, Rg.setX, List.getElem?_append, show ¬ i < 31 by omega]
theorem Rg.setSP_arr (r : Rg) (v : Int) : r.arr.setIfInBounds 31 (.int .u64 v) = (r.setSP v).arr := by
  apply Array.ext_getElem?
  intro i
  rw [Array.getElem?_setIfInBounds]
  by_cases e : 31 = i
  · subst e; simp [Rg.setSP, Rg.arr]
  · rw [if_neg e]
    rcases Nat.lt_or_ge i 31 with hi | hi
    · rw [Rg.at _ i hi, Rg.at _ i hi]; rfl
    · obtain ⟨j, rfl⟩ : ∃ j, i = 32 + j := ⟨i - 32, by omega⟩
      simp [Rg.setSP, Rg.arr, List.getElem?_append, show ¬ 32 + j < 31 by omega, show 32 + j - 31 = j + 1 by omega]
theorem Rg.one (r : Rg) : r.arr.all (·.oneCell') = true := by
  refine Array.all_eq_true_iff_forall_mem.2 fun v hv => ?_
  simp [Rg.arr] at hv
  rcases hv with ⟨a, _, rfl⟩ | rfl | rfl | rfl | rfl | rfl <;> rfl
theorem info25 : (Try.prog.info? 26).map (·.size) = some 36 := by kernel_rfl
def z36 : Array Value := (⟨fun _ => 0, 0, false, false, false, false⟩ : Rg).arr
theorem below_setRow {B : Nat} {a w : World} (h : Below B a w) (g : Nat) (hg : B ≤ g) (cs : Array Value) : Below B a (w.setRow g cs) :=
  ⟨h.os, h.tape, h.output, by simpa using h.size, fun k hk => by rw [setRow_other _ _ _ _ (by omega)]; exact h.block k hk⟩

theorem Rg.get_x (r : Rg) (k : Nat) (hk : k < 31) : r.get k = r.x k := by unfold Rg.get; rw [if_pos (by omega)]; simp
theorem Rg.get_sp (r : Rg) : r.get 32 = r.sp := rfl
theorem Rg.get_no (r : Rg) (n : Int) (h1 : n < 0 ∨ 31 ≤ n) (h2 : n ≠ 32) : r.get n = 0 := by unfold Rg.get; rw [if_neg (by omega), if_neg h2]
def Rg.set (r : Rg) (n v : Int) : Rg := if 0 ≤ n ∧ n < 31 then r.setX n.toNat v else if n = 32 then r.setSP v else r
theorem Rg.set_x (r : Rg) (k : Nat) (v : Int) (hk : k < 31) : r.set k v = r.setX k v := by unfold Rg.set; rw [if_pos (by omega)]; simp
theorem Rg.set_sp (r : Rg) (v : Int) : r.set 32 v = r.setSP v := rfl
theorem Rg.set_no (r : Rg) (n v : Int) (h1 : n < 0 ∨ 31 ≤ n) (h2 : n ≠ 32) : r.set n v = r := by unfold Rg.set; rw [if_neg (by omega), if_neg h2]
set_option maxRecDepth 100000 in
set_option maxHeartbeats 2000000 in
theorem get11 (r : Rg) (n : Int) (w : World) :
    Calls Try.prog 196 #[.agg r.arr, .int .i64 n] w fun e w' => e = .returned (.int .u64 (r.get n)) ∧ Below w.heap.size w w' := by
  by_cases h : 0 ≤ n ∧ n < 31
  · obtain ⟨k, rfl⟩ : ∃ k : Nat, n = k := ⟨n.toNat, by omega⟩
    have hk : k < 31 := by omega
    have hr := r.at k hk
    have g1 : (0 : Int) ≤ k := by omega
    have g2 : (k : Int) < 31 := by omega
    have g3 : (k : Int) ≤ 30 := by omega
    have HG := Lib.hid (r.get_x k hk)
    clear h
    go_enter Try.func196, Try.ntmps196
    go_wp2
    go_ret
    exact ⟨by rw [HG.out]; rfl, (Below.refl _ _).alloc (Nat.le_refl _) _⟩
  · by_cases h2 : n = 32
    · subst h2
      have hr := r.at31
      have HG := Lib.hid r.get_sp
      clear h
      go_enter Try.func196, Try.ntmps196
      go_wp2
      go_ret
      exact ⟨by rw [HG.out]; rfl, (Below.refl _ _).alloc (Nat.le_refl _) _⟩
    · have HG := Lib.hid (r.get_no n (by omega) h2)
      have e1 : (n == 32) = false := by simpa using h2
      have h3 : n < 0 ∨ 31 ≤ n := by omega
      clear h h2
      rcases h3 with h3 | h3
      · have e2 : decide (0 ≤ n) = false := decide_eq_false (by omega)
        go_enter Try.func196, Try.ntmps196
        go_wp2
        go_ret
        exact ⟨by rw [HG.out]; rfl, (Below.refl _ _).alloc (Nat.le_refl _) _⟩
      · have e2 : decide (0 ≤ n) = true := decide_eq_true (by omega)
        have e3 : decide (n < 31) = false := decide_eq_false (by omega)
        have e4 : decide (n ≤ 30) = false := decide_eq_false (by omega)
        go_enter Try.func196, Try.ntmps196
        go_wp2
        go_ret
        exact ⟨by rw [HG.out]; rfl, (Below.refl _ _).alloc (Nat.le_refl _) _⟩
set_option maxRecDepth 100000 in
set_option maxHeartbeats 2000000 in
theorem get12 (r : Rg) (n : Int) (w : World) :
    Calls Try.prog 89 #[.agg r.arr, .int .i64 n] w fun e w' => e = .returned (.int .u64 (r.get n)) ∧ Below w.heap.size w w' := by
  by_cases h : 0 ≤ n ∧ n < 31
  · obtain ⟨k, rfl⟩ : ∃ k : Nat, n = k := ⟨n.toNat, by omega⟩
    have hk : k < 31 := by omega
    have hr := r.at k hk
    have g1 : (0 : Int) ≤ k := by omega
    have g2 : (k : Int) < 31 := by omega
    have g3 : (k : Int) ≤ 30 := by omega
    have HG := Lib.hid (r.get_x k hk)
    clear h
    go_enter Try.func89, Try.ntmps89
    go_wp2
    go_ret
    exact ⟨by rw [HG.out]; rfl, (Below.refl _ _).alloc (Nat.le_refl _) _⟩
  · by_cases h2 : n = 32
    · subst h2
      have hr := r.at31
      have HG := Lib.hid r.get_sp
      clear h
      go_enter Try.func89, Try.ntmps89
      go_wp2
      go_ret
      exact ⟨by rw [HG.out]; rfl, (Below.refl _ _).alloc (Nat.le_refl _) _⟩
    · have HG := Lib.hid (r.get_no n (by omega) h2)
      have e1 : (n == 32) = false := by simpa using h2
      have h3 : n < 0 ∨ 31 ≤ n := by omega
      clear h h2
      rcases h3 with h3 | h3
      · have e2 : decide (0 ≤ n) = false := decide_eq_false (by omega)
        go_enter Try.func89, Try.ntmps89
        go_wp2
        go_ret
        exact ⟨by rw [HG.out]; rfl, (Below.refl _ _).alloc (Nat.le_refl _) _⟩
      · have e2 : decide (0 ≤ n) = true := decide_eq_true (by omega)
        have e3 : decide (n < 31) = false := decide_eq_false (by omega)
        have e4 : decide (n ≤ 30) = false := decide_eq_false (by omega)
        go_enter Try.func89, Try.ntmps89
        go_wp2
        go_ret
        exact ⟨by rw [HG.out]; rfl, (Below.refl _ _).alloc (Nat.le_refl _) _⟩
set_option maxRecDepth 100000 in
set_option maxHeartbeats 2000000 in
theorem set13 (r : Rg) (n v : Int) (w : World) :
    Calls Try.prog 187 #[.agg r.arr, .int .i64 n, .int .u64 v] w fun e w' => e = .returned (.agg (r.set n v).arr) ∧ Below w.heap.size w w' := by
  by_cases h : 0 ≤ n ∧ n < 31
  · obtain ⟨k, rfl⟩ : ∃ k : Nat, n = k := ⟨n.toNat, by omega⟩
    have hk : k < 31 := by omega
    have hr := r.at k hk
    have g1 : (0 : Int) ≤ k := by omega
    have g2 : (k : Int) < 31 := by omega
    have g3 : (k : Int) ≤ 30 := by omega
    have e1 : ((k : Int) == 32) = false := by simp; omega
    have HX := Lib.hid (r.setX_arr k v hk)
    have HG := Lib.hid (r.set_x k v hk)
    clear h
    go_enter Try.func187, Try.ntmps187
    go_wp2_with (first | (refine wpList_load_row rfl 26 _ rfl w.heap.size rfl 26 (r.setX k v).arr (0, 0) _ (by rw [← HX.out]; exact heap_alloc2_old _ _ _) Try.underlying26 rfl (by rw [Rg.size]; exact info25) ?_) | (refine wpList_store_row rfl 26 _ _ rfl (w.heap.size + 1) (r.setX k v).arr rfl rfl 26 z36 (heap_alloc2_new _ _ _) (by rw [Rg.size]; exact info25) (by rw [Rg.size]; rfl) (Rg.one _) ?_))
    refine bodyPost_ret (results_cell_row rfl _ _ (w.heap.size + 1) 26 (r.setX k v).arr (0, 0) _ rfl (setRow_heap _ _ _ _ _ _ (heap_alloc2_new _ _ _)) Try.underlying26 rfl (by rw [Rg.size]; exact info25)) rfl ⟨by rw [HG.out], below_setRow (((Below.refl _ _).alloc (Nat.le_refl _) _).alloc (by simp) _) _ (by omega) _⟩
  · by_cases h2 : n = 32
    · subst h2
      have hr := r.at31
      have HX := Lib.hid (r.setSP_arr v)
      have HG := Lib.hid (r.set_sp v)
      clear h
      go_enter Try.func187, Try.ntmps187
      go_wp2_with (first | (refine wpList_load_row rfl 26 _ rfl w.heap.size rfl 26 (r.setSP v).arr (0, 0) _ (by rw [← HX.out]; exact heap_alloc2_old _ _ _) Try.underlying26 rfl (by rw [Rg.size]; exact info25) ?_) | (refine wpList_store_row rfl 26 _ _ rfl (w.heap.size + 1) (r.setSP v).arr rfl rfl 26 z36 (heap_alloc2_new _ _ _) (by rw [Rg.size]; exact info25) (by rw [Rg.size]; rfl) (Rg.one _) ?_))
      refine bodyPost_ret (results_cell_row rfl _ _ (w.heap.size + 1) 26 (r.setSP v).arr (0, 0) _ rfl (setRow_heap _ _ _ _ _ _ (heap_alloc2_new _ _ _)) Try.underlying26 rfl (by rw [Rg.size]; exact info25)) rfl ⟨by rw [HG.out], below_setRow (((Below.refl _ _).alloc (Nat.le_refl _) _).alloc (by simp) _) _ (by omega) _⟩
    · have HG := Lib.hid (r.set_no n v (by omega) h2)
      have e1 : (n == 32) = false := by simpa using h2
      have h3 : n < 0 ∨ 31 ≤ n := by omega
      clear h h2
      rcases h3 with h3 | h3
      · have e2 : decide (0 ≤ n) = false := decide_eq_false (by omega)
        go_enter Try.func187, Try.ntmps187
        go_wp2_with (first | (refine wpList_load_row rfl 26 _ rfl w.heap.size rfl 26 (r).arr (0, 0) _ (heap_alloc2_old _ _ _) Try.underlying26 rfl (by rw [Rg.size]; exact info25) ?_) | (refine wpList_store_row rfl 26 _ _ rfl (w.heap.size + 1) (r).arr rfl rfl 26 z36 (heap_alloc2_new _ _ _) (by rw [Rg.size]; exact info25) (by rw [Rg.size]; rfl) (Rg.one _) ?_))
        refine bodyPost_ret (results_cell_row rfl _ _ (w.heap.size + 1) 26 (r).arr (0, 0) _ rfl (setRow_heap _ _ _ _ _ _ (heap_alloc2_new _ _ _)) Try.underlying26 rfl (by rw [Rg.size]; exact info25)) rfl ⟨by rw [HG.out], below_setRow (((Below.refl _ _).alloc (Nat.le_refl _) _).alloc (by simp) _) _ (by omega) _⟩
      · have e2 : decide (0 ≤ n) = true := decide_eq_true (by omega)
        have e3 : decide (n < 31) = false := decide_eq_false (by omega)
        have e4 : decide (n ≤ 30) = false := decide_eq_false (by omega)
        go_enter Try.func187, Try.ntmps187
        go_wp2_with (first | (refine wpList_load_row rfl 26 _ rfl w.heap.size rfl 26 (r).arr (0, 0) _ (heap_alloc2_old _ _ _) Try.underlying26 rfl (by rw [Rg.size]; exact info25) ?_) | (refine wpList_store_row rfl 26 _ _ rfl (w.heap.size + 1) (r).arr rfl rfl 26 z36 (heap_alloc2_new _ _ _) (by rw [Rg.size]; exact info25) (by rw [Rg.size]; rfl) (Rg.one _) ?_))
        refine bodyPost_ret (results_cell_row rfl _ _ (w.heap.size + 1) 26 (r).arr (0, 0) _ rfl (setRow_heap _ _ _ _ _ _ (heap_alloc2_new _ _ _)) Try.underlying26 rfl (by rw [Rg.size]; exact info25)) rfl ⟨by rw [HG.out], below_setRow (((Below.refl _ _).alloc (Nat.le_refl _) _).alloc (by simp) _) _ (by omega) _⟩
set_option maxRecDepth 100000 in
set_option maxHeartbeats 2000000 in
theorem set14 (r : Rg) (n v : Int) (w : World) :
    Calls Try.prog 86 #[.agg r.arr, .int .i64 n, .int .u64 v] w fun e w' => e = .returned (.agg (r.set n v).arr) ∧ Below w.heap.size w w' := by
  by_cases h : 0 ≤ n ∧ n < 31
  · obtain ⟨k, rfl⟩ : ∃ k : Nat, n = k := ⟨n.toNat, by omega⟩
    have hk : k < 31 := by omega
    have hr := r.at k hk
    have g1 : (0 : Int) ≤ k := by omega
    have g2 : (k : Int) < 31 := by omega
    have g3 : (k : Int) ≤ 30 := by omega
    have e1 : ((k : Int) == 32) = false := by simp; omega
    have HX := Lib.hid (r.setX_arr k v hk)
    have HG := Lib.hid (r.set_x k v hk)
    clear h
    go_enter Try.func86, Try.ntmps86
    go_wp2_with (first | (refine wpList_load_row rfl 26 _ rfl w.heap.size rfl 26 (r.setX k v).arr (0, 0) _ (by rw [← HX.out]; exact heap_alloc2_old _ _ _) Try.underlying26 rfl (by rw [Rg.size]; exact info25) ?_) | (refine wpList_store_row rfl 26 _ _ rfl (w.heap.size + 1) (r.setX k v).arr rfl rfl 26 z36 (heap_alloc2_new _ _ _) (by rw [Rg.size]; exact info25) (by rw [Rg.size]; rfl) (Rg.one _) ?_))
    refine bodyPost_ret (results_cell_row rfl _ _ (w.heap.size + 1) 26 (r.setX k v).arr (0, 0) _ rfl (setRow_heap _ _ _ _ _ _ (heap_alloc2_new _ _ _)) Try.underlying26 rfl (by rw [Rg.size]; exact info25)) rfl ⟨by rw [HG.out], below_setRow (((Below.refl _ _).alloc (Nat.le_refl _) _).alloc (by simp) _) _ (by omega) _⟩
  · by_cases h2 : n = 32
    · subst h2
      have hr := r.at31
      have HX := Lib.hid (r.setSP_arr v)
      have HG := Lib.hid (r.set_sp v)
      clear h
      go_enter Try.func86, Try.ntmps86
      go_wp2_with (first | (refine wpList_load_row rfl 26 _ rfl w.heap.size rfl 26 (r.setSP v).arr (0, 0) _ (by rw [← HX.out]; exact heap_alloc2_old _ _ _) Try.underlying26 rfl (by rw [Rg.size]; exact info25) ?_) | (refine wpList_store_row rfl 26 _ _ rfl (w.heap.size + 1) (r.setSP v).arr rfl rfl 26 z36 (heap_alloc2_new _ _ _) (by rw [Rg.size]; exact info25) (by rw [Rg.size]; rfl) (Rg.one _) ?_))
      refine bodyPost_ret (results_cell_row rfl _ _ (w.heap.size + 1) 26 (r.setSP v).arr (0, 0) _ rfl (setRow_heap _ _ _ _ _ _ (heap_alloc2_new _ _ _)) Try.underlying26 rfl (by rw [Rg.size]; exact info25)) rfl ⟨by rw [HG.out], below_setRow (((Below.refl _ _).alloc (Nat.le_refl _) _).alloc (by simp) _) _ (by omega) _⟩
    · have HG := Lib.hid (r.set_no n v (by omega) h2)
      have e1 : (n == 32) = false := by simpa using h2
      have h3 : n < 0 ∨ 31 ≤ n := by omega
      clear h h2
      rcases h3 with h3 | h3
      · have e2 : decide (0 ≤ n) = false := decide_eq_false (by omega)
        go_enter Try.func86, Try.ntmps86
        go_wp2_with (first | (refine wpList_load_row rfl 26 _ rfl w.heap.size rfl 26 (r).arr (0, 0) _ (heap_alloc2_old _ _ _) Try.underlying26 rfl (by rw [Rg.size]; exact info25) ?_) | (refine wpList_store_row rfl 26 _ _ rfl (w.heap.size + 1) (r).arr rfl rfl 26 z36 (heap_alloc2_new _ _ _) (by rw [Rg.size]; exact info25) (by rw [Rg.size]; rfl) (Rg.one _) ?_))
        refine bodyPost_ret (results_cell_row rfl _ _ (w.heap.size + 1) 26 (r).arr (0, 0) _ rfl (setRow_heap _ _ _ _ _ _ (heap_alloc2_new _ _ _)) Try.underlying26 rfl (by rw [Rg.size]; exact info25)) rfl ⟨by rw [HG.out], below_setRow (((Below.refl _ _).alloc (Nat.le_refl _) _).alloc (by simp) _) _ (by omega) _⟩
      · have e2 : decide (0 ≤ n) = true := decide_eq_true (by omega)
        have e3 : decide (n < 31) = false := decide_eq_false (by omega)
        have e4 : decide (n ≤ 30) = false := decide_eq_false (by omega)
        go_enter Try.func86, Try.ntmps86
        go_wp2_with (first | (refine wpList_load_row rfl 26 _ rfl w.heap.size rfl 26 (r).arr (0, 0) _ (heap_alloc2_old _ _ _) Try.underlying26 rfl (by rw [Rg.size]; exact info25) ?_) | (refine wpList_store_row rfl 26 _ _ rfl (w.heap.size + 1) (r).arr rfl rfl 26 z36 (heap_alloc2_new _ _ _) (by rw [Rg.size]; exact info25) (by rw [Rg.size]; rfl) (Rg.one _) ?_))
        refine bodyPost_ret (results_cell_row rfl _ _ (w.heap.size + 1) 26 (r).arr (0, 0) _ rfl (setRow_heap _ _ _ _ _ _ (heap_alloc2_new _ _ _)) Try.underlying26 rfl (by rw [Rg.size]; exact info25)) rfl ⟨by rw [HG.out], below_setRow (((Below.refl _ _).alloc (Nat.le_refl _) _).alloc (by simp) _) _ (by omega) _⟩
end Go.Proofs.Ytnbpgoacooddjaa
