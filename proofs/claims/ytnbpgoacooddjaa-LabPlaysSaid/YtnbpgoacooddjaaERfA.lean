import Derived.Test.YtnbpgoacooddjaaRows
import Derived.WalkKit
import Derived.ProofKit
import Derived.OpenShut
import Derived.Outline
import Derived.WalkSmall
import Derived.WalkLawsBesides
import Derived.WalkSpells
import Derived.BigGuardPart
import Derived.RegionTactic
import Derived.Lib.Hide
import Derived.Below
import Derived.Deep.RegionWith
import Derived.Deep.RegionHeld3
import Derived.Test.YtnbpgoacooddjaaFCkA
namespace Go.Proofs.Ytnbpgoacooddjaa.Fr
end Go.Proofs.Ytnbpgoacooddjaa.Fr
namespace Go.Proofs.Ytnbpgoacooddjaa.En
open Go.Proofs.Ytnbpgoacooddjaa.Fr
open Go.ChangeShapes Go.WideShapes Go.ChangeAt Go.RowKit
set_option linter.unusedVariables false
set_option maxRecDepth 100000 in
set_option maxHeartbeats 2000000 in
theorem reg_y (v : Int) (w : World) : Calls Try.prog 168 #[.bool true, .int .i64 v] w fun e w' => e = .returned (.bool (wi v 0 31)) ∧ w' = w := by
  go_enter Try.func168, Try.ntmps168
  go_wp2
  all_goals
    go_ret
    exact ⟨ret_bool (by first | rfl | (simp [wi]; omega) | (simp [wi, *]; done) | (simp_all [wi]; omega)), rfl⟩
set_option maxRecDepth 100000 in
set_option maxHeartbeats 2000000 in
theorem reg_n (v : Int) (w : World) : Calls Try.prog 168 #[.bool false, .int .i64 v] w fun e w' => e = .returned (.bool (v == 0)) ∧ w' = w := by
  go_enter Try.func168, Try.ntmps168
  go_wp2
  all_goals
    go_ret
    exact ⟨ret_bool (by first | rfl | (simp []; omega) | (simp [*]; done) | (simp_all []; omega)), rfl⟩
set_option maxRecDepth 100000 in
set_option maxHeartbeats 2000000 in
theorem jumps_26 (v : Int) (w : World) : Calls Try.prog 198 #[.int .i64 v, .int .i64 26] w fun e w' => e = .returned (.bool (wm v (-134217728) 134217724 4)) ∧ w' = w := by
  have hs : wm v (-134217728) 134217724 4 = (decide ((-134217728 : Int) ≤ v) && decide (v ≤ 134217724) && (v.tmod 4 == 0)) := by
    rw [wm, tm4, wi, Bool.decide_and]
  have HS := Lib.hid hs
  clear hs
  by_cases hz : v.tmod 4 = 0
  · go_enter Try.func198, Try.ntmps198
    go_wp2
    all_goals
      go_ret
      exact ⟨ret_bool (by rw [HS.out]; first | (simp [hz]; done) | (simp [hz]; omega) | (simp_all; done) | (simp_all; omega)), rfl⟩
  · have hz' : (v.tmod 4 == 0) = false := by simpa using hz
    go_enter Try.func198, Try.ntmps198
    go_wp2
    all_goals
      go_ret
      exact ⟨ret_bool (by rw [HS.out, hz']; simp), rfl⟩
set_option maxRecDepth 100000 in
set_option maxHeartbeats 2000000 in
theorem jumps_19 (v : Int) (w : World) : Calls Try.prog 198 #[.int .i64 v, .int .i64 19] w fun e w' => e = .returned (.bool (wm v (-1048576) 1048572 4)) ∧ w' = w := by
  have hs : wm v (-1048576) 1048572 4 = (decide ((-1048576 : Int) ≤ v) && decide (v ≤ 1048572) && (v.tmod 4 == 0)) := by
    rw [wm, tm4, wi, Bool.decide_and]
  have HS := Lib.hid hs
  clear hs
  by_cases hz : v.tmod 4 = 0
  · go_enter Try.func198, Try.ntmps198
    go_wp2
    all_goals
      go_ret
      exact ⟨ret_bool (by rw [HS.out]; first | (simp [hz]; done) | (simp [hz]; omega) | (simp_all; done) | (simp_all; omega)), rfl⟩
  · have hz' : (v.tmod 4 == 0) = false := by simpa using hz
    go_enter Try.func198, Try.ntmps198
    go_wp2
    all_goals
      go_ret
      exact ⟨ret_bool (by rw [HS.out, hz']; simp), rfl⟩
theorem ret_er {a : Int} {b : Bool} (h : a = er b) : Ending.returned (.int .i64 a) = .returned (.int .i64 (er b)) := by rw [h]
set_option maxRecDepth 100000 in
set_option maxHeartbeats 2000000 in
theorem rck_d (op d n m a c i : Int) (fd fn fm fa fc fi : Bool) (w : World) (h0 : 0 ≤ op) (h1 : op ≤ 42) (h40 : ∀ w, Calls Try.prog 167 #[.int .i64 op] w fun e w' => e = .returned (.tuple #[.bool fd, .bool fn, .bool fm, .bool fa, .bool fc, .bool fi]) ∧ w' = w) (hd : ∀ w, Calls Try.prog 168 #[.bool fd, .int .i64 d] w fun e w' => e = .returned (.bool false) ∧ w' = w) :
    Calls Try.prog 83 #[.agg #[.int .i64 op, .int .i64 d, .int .i64 n, .int .i64 m, .int .i64 a, .int .i64 c, .int .i64 i]] w fun e w' => e = .returned (.int .i64 1) ∧ Below w.heap.size w w' := by
  have Hh40 := Lib.hid h40
  have Hhd := Lib.hid hd
  clear h40 hd
  go_enter Try.func83, Try.ntmps83
  go_wp2_with (first | (go_at_call 167; refine (Hh40.out _).mono ?_; rintro e w' ⟨rfl, rfl⟩) | (go_at_call 168; (with_reducible refine (Hhd.out _).mono ?_); rintro e w' ⟨rfl, rfl⟩))
  all_goals
    go_ret
    exact ⟨rfl, (Below.refl _ _).alloc (Nat.le_refl _) _⟩
set_option maxRecDepth 100000 in
set_option maxHeartbeats 2000000 in
theorem rck_n (op d n m a c i : Int) (fd fn fm fa fc fi : Bool) (w : World) (h0 : 0 ≤ op) (h1 : op ≤ 42) (h40 : ∀ w, Calls Try.prog 167 #[.int .i64 op] w fun e w' => e = .returned (.tuple #[.bool fd, .bool fn, .bool fm, .bool fa, .bool fc, .bool fi]) ∧ w' = w) (hd : ∀ w, Calls Try.prog 168 #[.bool fd, .int .i64 d] w fun e w' => e = .returned (.bool true) ∧ w' = w) (hn : ∀ w, Calls Try.prog 168 #[.bool fn, .int .i64 n] w fun e w' => e = .returned (.bool false) ∧ w' = w) :
    Calls Try.prog 83 #[.agg #[.int .i64 op, .int .i64 d, .int .i64 n, .int .i64 m, .int .i64 a, .int .i64 c, .int .i64 i]] w fun e w' => e = .returned (.int .i64 1) ∧ Below w.heap.size w w' := by
  have Hh40 := Lib.hid h40
  have Hhd := Lib.hid hd
  have Hhn := Lib.hid hn
  clear h40 hd hn
  go_enter Try.func83, Try.ntmps83
  go_wp2_with (first | (go_at_call 167; refine (Hh40.out _).mono ?_; rintro e w' ⟨rfl, rfl⟩) | (go_at_call 168; (with_reducible refine (Hhd.out _).mono ?_); rintro e w' ⟨rfl, rfl⟩) | (go_at_call 168; (with_reducible refine (Hhn.out _).mono ?_); rintro e w' ⟨rfl, rfl⟩))
  all_goals
    go_ret
    exact ⟨rfl, (Below.refl _ _).alloc (Nat.le_refl _) _⟩
set_option maxRecDepth 100000 in
set_option maxHeartbeats 2000000 in
theorem rck_m (op d n m a c i : Int) (fd fn fm fa fc fi : Bool) (w : World) (h0 : 0 ≤ op) (h1 : op ≤ 42) (h40 : ∀ w, Calls Try.prog 167 #[.int .i64 op] w fun e w' => e = .returned (.tuple #[.bool fd, .bool fn, .bool fm, .bool fa, .bool fc, .bool fi]) ∧ w' = w) (hd : ∀ w, Calls Try.prog 168 #[.bool fd, .int .i64 d] w fun e w' => e = .returned (.bool true) ∧ w' = w) (hn : ∀ w, Calls Try.prog 168 #[.bool fn, .int .i64 n] w fun e w' => e = .returned (.bool true) ∧ w' = w) (hm : ∀ w, Calls Try.prog 168 #[.bool fm, .int .i64 m] w fun e w' => e = .returned (.bool false) ∧ w' = w) :
    Calls Try.prog 83 #[.agg #[.int .i64 op, .int .i64 d, .int .i64 n, .int .i64 m, .int .i64 a, .int .i64 c, .int .i64 i]] w fun e w' => e = .returned (.int .i64 1) ∧ Below w.heap.size w w' := by
  have Hh40 := Lib.hid h40
  have Hhd := Lib.hid hd
  have Hhn := Lib.hid hn
  have Hhm := Lib.hid hm
  clear h40 hd hn hm
  go_enter Try.func83, Try.ntmps83
  go_wp2_with (first | (go_at_call 167; refine (Hh40.out _).mono ?_; rintro e w' ⟨rfl, rfl⟩) | (go_at_call 168; (with_reducible refine (Hhd.out _).mono ?_); rintro e w' ⟨rfl, rfl⟩) | (go_at_call 168; (with_reducible refine (Hhn.out _).mono ?_); rintro e w' ⟨rfl, rfl⟩) | (go_at_call 168; (with_reducible refine (Hhm.out _).mono ?_); rintro e w' ⟨rfl, rfl⟩))
  all_goals
    go_ret
    exact ⟨rfl, (Below.refl _ _).alloc (Nat.le_refl _) _⟩
set_option maxRecDepth 100000 in
set_option maxHeartbeats 2000000 in
theorem rck_a (op d n m a c i : Int) (fd fn fm fa fc fi : Bool) (w : World) (h0 : 0 ≤ op) (h1 : op ≤ 42) (h40 : ∀ w, Calls Try.prog 167 #[.int .i64 op] w fun e w' => e = .returned (.tuple #[.bool fd, .bool fn, .bool fm, .bool fa, .bool fc, .bool fi]) ∧ w' = w) (hd : ∀ w, Calls Try.prog 168 #[.bool fd, .int .i64 d] w fun e w' => e = .returned (.bool true) ∧ w' = w) (hn : ∀ w, Calls Try.prog 168 #[.bool fn, .int .i64 n] w fun e w' => e = .returned (.bool true) ∧ w' = w) (hm : ∀ w, Calls Try.prog 168 #[.bool fm, .int .i64 m] w fun e w' => e = .returned (.bool true) ∧ w' = w) (ha : ∀ w, Calls Try.prog 168 #[.bool fa, .int .i64 a] w fun e w' => e = .returned (.bool false) ∧ w' = w) :
    Calls Try.prog 83 #[.agg #[.int .i64 op, .int .i64 d, .int .i64 n, .int .i64 m, .int .i64 a, .int .i64 c, .int .i64 i]] w fun e w' => e = .returned (.int .i64 1) ∧ Below w.heap.size w w' := by
  have Hh40 := Lib.hid h40
  have Hhd := Lib.hid hd
  have Hhn := Lib.hid hn
  have Hhm := Lib.hid hm
  have Hha := Lib.hid ha
  clear h40 hd hn hm ha
  go_enter Try.func83, Try.ntmps83
  go_wp2_with (first | (go_at_call 167; refine (Hh40.out _).mono ?_; rintro e w' ⟨rfl, rfl⟩) | (go_at_call 168; (with_reducible refine (Hhd.out _).mono ?_); rintro e w' ⟨rfl, rfl⟩) | (go_at_call 168; (with_reducible refine (Hhn.out _).mono ?_); rintro e w' ⟨rfl, rfl⟩) | (go_at_call 168; (with_reducible refine (Hhm.out _).mono ?_); rintro e w' ⟨rfl, rfl⟩) | (go_at_call 168; (with_reducible refine (Hha.out _).mono ?_); rintro e w' ⟨rfl, rfl⟩))
  all_goals
    go_ret
    exact ⟨rfl, (Below.refl _ _).alloc (Nat.le_refl _) _⟩
set_option maxRecDepth 100000 in
set_option maxHeartbeats 2000000 in
theorem rck_i (op d n m a c i : Int) (fd fn fm fa fc fi : Bool) (w : World) (h0 : 0 ≤ op) (h1 : op ≤ 42) (h40 : ∀ w, Calls Try.prog 167 #[.int .i64 op] w fun e w' => e = .returned (.tuple #[.bool fd, .bool fn, .bool fm, .bool fa, .bool fc, .bool fi]) ∧ w' = w) (hd : ∀ w, Calls Try.prog 168 #[.bool fd, .int .i64 d] w fun e w' => e = .returned (.bool true) ∧ w' = w) (hn : ∀ w, Calls Try.prog 168 #[.bool fn, .int .i64 n] w fun e w' => e = .returned (.bool true) ∧ w' = w) (hm : ∀ w, Calls Try.prog 168 #[.bool fm, .int .i64 m] w fun e w' => e = .returned (.bool true) ∧ w' = w) (ha : ∀ w, Calls Try.prog 168 #[.bool fa, .int .i64 a] w fun e w' => e = .returned (.bool true) ∧ w' = w) (h42 : ∀ w, Calls Try.prog 169 #[.agg #[.int .i64 op, .int .i64 d, .int .i64 n, .int .i64 m, .int .i64 a, .int .i64 c, .int .i64 i]] w fun e w' => e = .returned (.bool false) ∧ Below w.heap.size w w') :
    Calls Try.prog 83 #[.agg #[.int .i64 op, .int .i64 d, .int .i64 n, .int .i64 m, .int .i64 a, .int .i64 c, .int .i64 i]] w fun e w' => e = .returned (.int .i64 1) ∧ Below w.heap.size w w' := by
  have Hh40 := Lib.hid h40
  have Hhd := Lib.hid hd
  have Hhn := Lib.hid hn
  have Hhm := Lib.hid hm
  have Hha := Lib.hid ha
  have Hh42 := Lib.hid h42
  clear h40 hd hn hm ha h42
  go_enter Try.func83, Try.ntmps83
  go_wp2_with (first | (go_at_call 167; refine (Hh40.out _).mono ?_; rintro e w' ⟨rfl, rfl⟩) | (go_at_call 168; (with_reducible refine (Hhd.out _).mono ?_); rintro e w' ⟨rfl, rfl⟩) | (go_at_call 168; (with_reducible refine (Hhn.out _).mono ?_); rintro e w' ⟨rfl, rfl⟩) | (go_at_call 168; (with_reducible refine (Hhm.out _).mono ?_); rintro e w' ⟨rfl, rfl⟩) | (go_at_call 168; (with_reducible refine (Hha.out _).mono ?_); rintro e w' ⟨rfl, rfl⟩) | (go_at_call 169; refine (Hh42.out _).mono ?_; rintro e w2 ⟨rfl, hb2⟩; have HB2 := Lib.hid (((Below.refl _ _).alloc (Nat.le_refl _) _).trans (hb2.mono (by simp)) : Below w.heap.size w w2); clear hb2))
  all_goals
    go_ret
    first | exact ⟨rfl, HB2.out⟩ | exact ⟨rfl, (Below.refl _ _).alloc (Nat.le_refl _) _⟩
set_option maxRecDepth 100000 in
set_option maxHeartbeats 2000000 in
theorem rfields_0 (w : World) : Calls Try.prog 167 #[.int .i64 0] w fun e w' => e = .returned (.tuple #[.bool false, .bool false, .bool false, .bool false, .bool false, .bool true]) ∧ w' = w := by
  go_enter Try.func167, Try.ntmps167
  go_wp2
  refine bodyPost_ret (v := .tuple #[.bool false, .bool false, .bool false, .bool false, .bool false, .bool true]) (by simp [results, Try.results167, go_sem]) rfl ⟨rfl, rfl⟩
set_option maxRecDepth 100000 in
set_option maxHeartbeats 2000000 in
theorem rimm_0 (d n m a c i : Int) (w : World) : Calls Try.prog 169 #[.agg #[.int .i64 0, .int .i64 d, .int .i64 n, .int .i64 m, .int .i64 a, .int .i64 c, .int .i64 i]] w fun e w' => e = .returned (.bool (wi i 0 65535)) ∧ Below w.heap.size w w' := by
  go_enter Try.func169, Try.ntmps169
  go_wp2
  all_goals
    go_ret
    exact ⟨ret_bool (by first | rfl | (simp [wi]; omega) | (simp [wi, *]; done) | (simp_all [wi]; omega)), (Below.refl _ _).alloc (Nat.le_refl _) _⟩
set_option maxRecDepth 100000 in
set_option maxHeartbeats 2000000 in
theorem rfields_1 (w : World) : Calls Try.prog 167 #[.int .i64 1] w fun e w' => e = .returned (.tuple #[.bool false, .bool false, .bool false, .bool false, .bool false, .bool false]) ∧ w' = w := by
  go_enter Try.func167, Try.ntmps167
  go_wp2
  refine bodyPost_ret (v := .tuple #[.bool false, .bool false, .bool false, .bool false, .bool false, .bool false]) (by simp [results, Try.results167, go_sem]) rfl ⟨rfl, rfl⟩
set_option maxRecDepth 100000 in
set_option maxHeartbeats 2000000 in
theorem rimm_1 (d n m a c i : Int) (w : World) : Calls Try.prog 169 #[.agg #[.int .i64 1, .int .i64 d, .int .i64 n, .int .i64 m, .int .i64 a, .int .i64 c, .int .i64 i]] w fun e w' => e = .returned (.bool (i == 0)) ∧ Below w.heap.size w w' := by
  go_enter Try.func169, Try.ntmps169
  go_wp2
  go_ret
  exact ⟨rfl, (Below.refl _ _).alloc (Nat.le_refl _) _⟩
set_option maxRecDepth 100000 in
set_option maxHeartbeats 2000000 in
theorem rfields_2 (w : World) : Calls Try.prog 167 #[.int .i64 2] w fun e w' => e = .returned (.tuple #[.bool true, .bool false, .bool true, .bool false, .bool false, .bool true]) ∧ w' = w := by
  go_enter Try.func167, Try.ntmps167
  go_wp2
  refine bodyPost_ret (v := .tuple #[.bool true, .bool false, .bool true, .bool false, .bool false, .bool true]) (by simp [results, Try.results167, go_sem]) rfl ⟨rfl, rfl⟩
set_option maxRecDepth 100000 in
set_option maxHeartbeats 2000000 in
theorem rimm_2 (d n m a c i : Int) (w : World) : Calls Try.prog 169 #[.agg #[.int .i64 2, .int .i64 d, .int .i64 n, .int .i64 m, .int .i64 a, .int .i64 c, .int .i64 i]] w fun e w' => e = .returned (.bool (wi i 0 65535)) ∧ Below w.heap.size w w' := by
  go_enter Try.func169, Try.ntmps169
  go_wp2
  all_goals
    go_ret
    exact ⟨ret_bool (by first | rfl | (simp [wi]; omega) | (simp [wi, *]; done) | (simp_all [wi]; omega)), (Below.refl _ _).alloc (Nat.le_refl _) _⟩
set_option maxRecDepth 100000 in
set_option maxHeartbeats 2000000 in
theorem rfields_3 (w : World) : Calls Try.prog 167 #[.int .i64 3] w fun e w' => e = .returned (.tuple #[.bool true, .bool false, .bool true, .bool false, .bool false, .bool true]) ∧ w' = w := by
  go_enter Try.func167, Try.ntmps167
  go_wp2
  refine bodyPost_ret (v := .tuple #[.bool true, .bool false, .bool true, .bool false, .bool false, .bool true]) (by simp [results, Try.results167, go_sem]) rfl ⟨rfl, rfl⟩
set_option maxRecDepth 100000 in
set_option maxHeartbeats 2000000 in
theorem rimm_3 (d n m a c i : Int) (w : World) : Calls Try.prog 169 #[.agg #[.int .i64 3, .int .i64 d, .int .i64 n, .int .i64 m, .int .i64 a, .int .i64 c, .int .i64 i]] w fun e w' => e = .returned (.bool (wi i 0 65535)) ∧ Below w.heap.size w w' := by
  go_enter Try.func169, Try.ntmps169
  go_wp2
  all_goals
    go_ret
    exact ⟨ret_bool (by first | rfl | (simp [wi]; omega) | (simp [wi, *]; done) | (simp_all [wi]; omega)), (Below.refl _ _).alloc (Nat.le_refl _) _⟩
set_option maxRecDepth 100000 in
set_option maxHeartbeats 2000000 in
theorem rfields_4 (w : World) : Calls Try.prog 167 #[.int .i64 4] w fun e w' => e = .returned (.tuple #[.bool true, .bool true, .bool false, .bool false, .bool false, .bool true]) ∧ w' = w := by
  go_enter Try.func167, Try.ntmps167
  go_wp2
  refine bodyPost_ret (v := .tuple #[.bool true, .bool true, .bool false, .bool false, .bool false, .bool true]) (by simp [results, Try.results167, go_sem]) rfl ⟨rfl, rfl⟩
set_option maxRecDepth 100000 in
set_option maxHeartbeats 2000000 in
theorem rimm_4 (d n m a c i : Int) (w : World) : Calls Try.prog 169 #[.agg #[.int .i64 4, .int .i64 d, .int .i64 n, .int .i64 m, .int .i64 a, .int .i64 c, .int .i64 i]] w fun e w' => e = .returned (.bool (wi i 0 4095)) ∧ Below w.heap.size w w' := by
  go_enter Try.func169, Try.ntmps169
  go_wp2
  all_goals
    go_ret
    exact ⟨ret_bool (by first | rfl | (simp [wi]; omega) | (simp [wi, *]; done) | (simp_all [wi]; omega)), (Below.refl _ _).alloc (Nat.le_refl _) _⟩
set_option maxRecDepth 100000 in
set_option maxHeartbeats 2000000 in
theorem rfields_5 (w : World) : Calls Try.prog 167 #[.int .i64 5] w fun e w' => e = .returned (.tuple #[.bool true, .bool true, .bool false, .bool false, .bool false, .bool true]) ∧ w' = w := by
  go_enter Try.func167, Try.ntmps167
  go_wp2
  refine bodyPost_ret (v := .tuple #[.bool true, .bool true, .bool false, .bool false, .bool false, .bool true]) (by simp [results, Try.results167, go_sem]) rfl ⟨rfl, rfl⟩
set_option maxRecDepth 100000 in
set_option maxHeartbeats 2000000 in
theorem rimm_5 (d n m a c i : Int) (w : World) : Calls Try.prog 169 #[.agg #[.int .i64 5, .int .i64 d, .int .i64 n, .int .i64 m, .int .i64 a, .int .i64 c, .int .i64 i]] w fun e w' => e = .returned (.bool (wi i 0 4095)) ∧ Below w.heap.size w w' := by
  go_enter Try.func169, Try.ntmps169
  go_wp2
  all_goals
    go_ret
    exact ⟨ret_bool (by first | rfl | (simp [wi]; omega) | (simp [wi, *]; done) | (simp_all [wi]; omega)), (Below.refl _ _).alloc (Nat.le_refl _) _⟩
set_option maxRecDepth 100000 in
set_option maxHeartbeats 2000000 in
theorem rfields_6 (w : World) : Calls Try.prog 167 #[.int .i64 6] w fun e w' => e = .returned (.tuple #[.bool true, .bool true, .bool false, .bool false, .bool false, .bool true]) ∧ w' = w := by
  go_enter Try.func167, Try.ntmps167
  go_wp2
  refine bodyPost_ret (v := .tuple #[.bool true, .bool true, .bool false, .bool false, .bool false, .bool true]) (by simp [results, Try.results167, go_sem]) rfl ⟨rfl, rfl⟩
set_option maxRecDepth 100000 in
set_option maxHeartbeats 2000000 in
theorem rimm_6 (d n m a c i : Int) (w : World) : Calls Try.prog 169 #[.agg #[.int .i64 6, .int .i64 d, .int .i64 n, .int .i64 m, .int .i64 a, .int .i64 c, .int .i64 i]] w fun e w' => e = .returned (.bool (wi i 0 4095)) ∧ Below w.heap.size w w' := by
  go_enter Try.func169, Try.ntmps169
  go_wp2
  all_goals
    go_ret
    exact ⟨ret_bool (by first | rfl | (simp [wi]; omega) | (simp [wi, *]; done) | (simp_all [wi]; omega)), (Below.refl _ _).alloc (Nat.le_refl _) _⟩
set_option maxRecDepth 100000 in
set_option maxHeartbeats 2000000 in
theorem rfields_7 (w : World) : Calls Try.prog 167 #[.int .i64 7] w fun e w' => e = .returned (.tuple #[.bool true, .bool true, .bool true, .bool false, .bool false, .bool false]) ∧ w' = w := by
  go_enter Try.func167, Try.ntmps167
  go_wp2
  refine bodyPost_ret (v := .tuple #[.bool true, .bool true, .bool true, .bool false, .bool false, .bool false]) (by simp [results, Try.results167, go_sem]) rfl ⟨rfl, rfl⟩
set_option maxRecDepth 100000 in
set_option maxHeartbeats 2000000 in
theorem rimm_7 (d n m a c i : Int) (w : World) : Calls Try.prog 169 #[.agg #[.int .i64 7, .int .i64 d, .int .i64 n, .int .i64 m, .int .i64 a, .int .i64 c, .int .i64 i]] w fun e w' => e = .returned (.bool (i == 0)) ∧ Below w.heap.size w w' := by
  go_enter Try.func169, Try.ntmps169
  go_wp2
  go_ret
  exact ⟨rfl, (Below.refl _ _).alloc (Nat.le_refl _) _⟩
set_option maxRecDepth 100000 in
set_option maxHeartbeats 2000000 in
theorem rfields_8 (w : World) : Calls Try.prog 167 #[.int .i64 8] w fun e w' => e = .returned (.tuple #[.bool true, .bool true, .bool true, .bool false, .bool false, .bool false]) ∧ w' = w := by
  go_enter Try.func167, Try.ntmps167
  go_wp2
  refine bodyPost_ret (v := .tuple #[.bool true, .bool true, .bool true, .bool false, .bool false, .bool false]) (by simp [results, Try.results167, go_sem]) rfl ⟨rfl, rfl⟩
set_option maxRecDepth 100000 in
set_option maxHeartbeats 2000000 in
theorem rimm_8 (d n m a c i : Int) (w : World) : Calls Try.prog 169 #[.agg #[.int .i64 8, .int .i64 d, .int .i64 n, .int .i64 m, .int .i64 a, .int .i64 c, .int .i64 i]] w fun e w' => e = .returned (.bool (i == 0)) ∧ Below w.heap.size w w' := by
  go_enter Try.func169, Try.ntmps169
  go_wp2
  go_ret
  exact ⟨rfl, (Below.refl _ _).alloc (Nat.le_refl _) _⟩
set_option maxRecDepth 100000 in
set_option maxHeartbeats 2000000 in
theorem rfields_9 (w : World) : Calls Try.prog 167 #[.int .i64 9] w fun e w' => e = .returned (.tuple #[.bool true, .bool true, .bool true, .bool false, .bool false, .bool false]) ∧ w' = w := by
  go_enter Try.func167, Try.ntmps167
  go_wp2
  refine bodyPost_ret (v := .tuple #[.bool true, .bool true, .bool true, .bool false, .bool false, .bool false]) (by simp [results, Try.results167, go_sem]) rfl ⟨rfl, rfl⟩
set_option maxRecDepth 100000 in
set_option maxHeartbeats 2000000 in
theorem rimm_9 (d n m a c i : Int) (w : World) : Calls Try.prog 169 #[.agg #[.int .i64 9, .int .i64 d, .int .i64 n, .int .i64 m, .int .i64 a, .int .i64 c, .int .i64 i]] w fun e w' => e = .returned (.bool (i == 0)) ∧ Below w.heap.size w w' := by
  go_enter Try.func169, Try.ntmps169
  go_wp2
  go_ret
  exact ⟨rfl, (Below.refl _ _).alloc (Nat.le_refl _) _⟩
set_option maxRecDepth 100000 in
set_option maxHeartbeats 2000000 in
theorem rfields_10 (w : World) : Calls Try.prog 167 #[.int .i64 10] w fun e w' => e = .returned (.tuple #[.bool true, .bool true, .bool true, .bool false, .bool false, .bool false]) ∧ w' = w := by
  go_enter Try.func167, Try.ntmps167
  go_wp2
  refine bodyPost_ret (v := .tuple #[.bool true, .bool true, .bool true, .bool false, .bool false, .bool false]) (by simp [results, Try.results167, go_sem]) rfl ⟨rfl, rfl⟩
set_option maxRecDepth 100000 in
set_option maxHeartbeats 2000000 in
theorem rimm_10 (d n m a c i : Int) (w : World) : Calls Try.prog 169 #[.agg #[.int .i64 10, .int .i64 d, .int .i64 n, .int .i64 m, .int .i64 a, .int .i64 c, .int .i64 i]] w fun e w' => e = .returned (.bool (i == 0)) ∧ Below w.heap.size w w' := by
  go_enter Try.func169, Try.ntmps169
  go_wp2
  go_ret
  exact ⟨rfl, (Below.refl _ _).alloc (Nat.le_refl _) _⟩
set_option maxRecDepth 100000 in
set_option maxHeartbeats 2000000 in
theorem rfields_11 (w : World) : Calls Try.prog 167 #[.int .i64 11] w fun e w' => e = .returned (.tuple #[.bool true, .bool true, .bool true, .bool false, .bool false, .bool false]) ∧ w' = w := by
  go_enter Try.func167, Try.ntmps167
  go_wp2
  refine bodyPost_ret (v := .tuple #[.bool true, .bool true, .bool true, .bool false, .bool false, .bool false]) (by simp [results, Try.results167, go_sem]) rfl ⟨rfl, rfl⟩
set_option maxRecDepth 100000 in
set_option maxHeartbeats 2000000 in
theorem rimm_11 (d n m a c i : Int) (w : World) : Calls Try.prog 169 #[.agg #[.int .i64 11, .int .i64 d, .int .i64 n, .int .i64 m, .int .i64 a, .int .i64 c, .int .i64 i]] w fun e w' => e = .returned (.bool (i == 0)) ∧ Below w.heap.size w w' := by
  go_enter Try.func169, Try.ntmps169
  go_wp2
  go_ret
  exact ⟨rfl, (Below.refl _ _).alloc (Nat.le_refl _) _⟩
set_option maxRecDepth 100000 in
set_option maxHeartbeats 2000000 in
theorem rfields_12 (w : World) : Calls Try.prog 167 #[.int .i64 12] w fun e w' => e = .returned (.tuple #[.bool true, .bool true, .bool true, .bool false, .bool false, .bool false]) ∧ w' = w := by
  go_enter Try.func167, Try.ntmps167
  go_wp2
  refine bodyPost_ret (v := .tuple #[.bool true, .bool true, .bool true, .bool false, .bool false, .bool false]) (by simp [results, Try.results167, go_sem]) rfl ⟨rfl, rfl⟩
set_option maxRecDepth 100000 in
set_option maxHeartbeats 2000000 in
theorem rimm_12 (d n m a c i : Int) (w : World) : Calls Try.prog 169 #[.agg #[.int .i64 12, .int .i64 d, .int .i64 n, .int .i64 m, .int .i64 a, .int .i64 c, .int .i64 i]] w fun e w' => e = .returned (.bool (i == 0)) ∧ Below w.heap.size w w' := by
  go_enter Try.func169, Try.ntmps169
  go_wp2
  go_ret
  exact ⟨rfl, (Below.refl _ _).alloc (Nat.le_refl _) _⟩
set_option maxRecDepth 100000 in
set_option maxHeartbeats 2000000 in
theorem rfields_13 (w : World) : Calls Try.prog 167 #[.int .i64 13] w fun e w' => e = .returned (.tuple #[.bool true, .bool true, .bool true, .bool true, .bool false, .bool false]) ∧ w' = w := by
  go_enter Try.func167, Try.ntmps167
  go_wp2
  refine bodyPost_ret (v := .tuple #[.bool true, .bool true, .bool true, .bool true, .bool false, .bool false]) (by simp [results, Try.results167, go_sem]) rfl ⟨rfl, rfl⟩
set_option maxRecDepth 100000 in
set_option maxHeartbeats 2000000 in
theorem rimm_13 (d n m a c i : Int) (w : World) : Calls Try.prog 169 #[.agg #[.int .i64 13, .int .i64 d, .int .i64 n, .int .i64 m, .int .i64 a, .int .i64 c, .int .i64 i]] w fun e w' => e = .returned (.bool (i == 0)) ∧ Below w.heap.size w w' := by
  go_enter Try.func169, Try.ntmps169
  go_wp2
  go_ret
  exact ⟨rfl, (Below.refl _ _).alloc (Nat.le_refl _) _⟩
set_option maxRecDepth 100000 in
set_option maxHeartbeats 2000000 in
theorem rfields_14 (w : World) : Calls Try.prog 167 #[.int .i64 14] w fun e w' => e = .returned (.tuple #[.bool true, .bool true, .bool true, .bool true, .bool false, .bool false]) ∧ w' = w := by
  go_enter Try.func167, Try.ntmps167
  go_wp2
  refine bodyPost_ret (v := .tuple #[.bool true, .bool true, .bool true, .bool true, .bool false, .bool false]) (by simp [results, Try.results167, go_sem]) rfl ⟨rfl, rfl⟩
set_option maxRecDepth 100000 in
set_option maxHeartbeats 2000000 in
theorem rimm_14 (d n m a c i : Int) (w : World) : Calls Try.prog 169 #[.agg #[.int .i64 14, .int .i64 d, .int .i64 n, .int .i64 m, .int .i64 a, .int .i64 c, .int .i64 i]] w fun e w' => e = .returned (.bool (i == 0)) ∧ Below w.heap.size w w' := by
  go_enter Try.func169, Try.ntmps169
  go_wp2
  go_ret
  exact ⟨rfl, (Below.refl _ _).alloc (Nat.le_refl _) _⟩
set_option maxRecDepth 100000 in
set_option maxHeartbeats 2000000 in
theorem rfields_15 (w : World) : Calls Try.prog 167 #[.int .i64 15] w fun e w' => e = .returned (.tuple #[.bool true, .bool true, .bool true, .bool false, .bool false, .bool false]) ∧ w' = w := by
  go_enter Try.func167, Try.ntmps167
  go_wp2
  refine bodyPost_ret (v := .tuple #[.bool true, .bool true, .bool true, .bool false, .bool false, .bool false]) (by simp [results, Try.results167, go_sem]) rfl ⟨rfl, rfl⟩
set_option maxRecDepth 100000 in
set_option maxHeartbeats 2000000 in
theorem rimm_15 (d n m a c i : Int) (w : World) : Calls Try.prog 169 #[.agg #[.int .i64 15, .int .i64 d, .int .i64 n, .int .i64 m, .int .i64 a, .int .i64 c, .int .i64 i]] w fun e w' => e = .returned (.bool (i == 0)) ∧ Below w.heap.size w w' := by
  go_enter Try.func169, Try.ntmps169
  go_wp2
  go_ret
  exact ⟨rfl, (Below.refl _ _).alloc (Nat.le_refl _) _⟩
set_option maxRecDepth 100000 in
set_option maxHeartbeats 2000000 in
theorem rfields_16 (w : World) : Calls Try.prog 167 #[.int .i64 16] w fun e w' => e = .returned (.tuple #[.bool true, .bool true, .bool true, .bool false, .bool false, .bool false]) ∧ w' = w := by
  go_enter Try.func167, Try.ntmps167
  go_wp2
  refine bodyPost_ret (v := .tuple #[.bool true, .bool true, .bool true, .bool false, .bool false, .bool false]) (by simp [results, Try.results167, go_sem]) rfl ⟨rfl, rfl⟩
set_option maxRecDepth 100000 in
set_option maxHeartbeats 2000000 in
theorem rimm_16 (d n m a c i : Int) (w : World) : Calls Try.prog 169 #[.agg #[.int .i64 16, .int .i64 d, .int .i64 n, .int .i64 m, .int .i64 a, .int .i64 c, .int .i64 i]] w fun e w' => e = .returned (.bool (i == 0)) ∧ Below w.heap.size w w' := by
  go_enter Try.func169, Try.ntmps169
  go_wp2
  go_ret
  exact ⟨rfl, (Below.refl _ _).alloc (Nat.le_refl _) _⟩
set_option maxRecDepth 100000 in
set_option maxHeartbeats 2000000 in
theorem rfields_17 (w : World) : Calls Try.prog 167 #[.int .i64 17] w fun e w' => e = .returned (.tuple #[.bool true, .bool true, .bool true, .bool false, .bool false, .bool false]) ∧ w' = w := by
  go_enter Try.func167, Try.ntmps167
  go_wp2
  refine bodyPost_ret (v := .tuple #[.bool true, .bool true, .bool true, .bool false, .bool false, .bool false]) (by simp [results, Try.results167, go_sem]) rfl ⟨rfl, rfl⟩
set_option maxRecDepth 100000 in
set_option maxHeartbeats 2000000 in
theorem rimm_17 (d n m a c i : Int) (w : World) : Calls Try.prog 169 #[.agg #[.int .i64 17, .int .i64 d, .int .i64 n, .int .i64 m, .int .i64 a, .int .i64 c, .int .i64 i]] w fun e w' => e = .returned (.bool (i == 0)) ∧ Below w.heap.size w w' := by
  go_enter Try.func169, Try.ntmps169
  go_wp2
  go_ret
  exact ⟨rfl, (Below.refl _ _).alloc (Nat.le_refl _) _⟩
set_option maxRecDepth 100000 in
set_option maxHeartbeats 2000000 in
theorem rfields_18 (w : World) : Calls Try.prog 167 #[.int .i64 18] w fun e w' => e = .returned (.tuple #[.bool true, .bool true, .bool true, .bool false, .bool false, .bool false]) ∧ w' = w := by
  go_enter Try.func167, Try.ntmps167
  go_wp2
  refine bodyPost_ret (v := .tuple #[.bool true, .bool true, .bool true, .bool false, .bool false, .bool false]) (by simp [results, Try.results167, go_sem]) rfl ⟨rfl, rfl⟩
set_option maxRecDepth 100000 in
set_option maxHeartbeats 2000000 in
theorem rimm_18 (d n m a c i : Int) (w : World) : Calls Try.prog 169 #[.agg #[.int .i64 18, .int .i64 d, .int .i64 n, .int .i64 m, .int .i64 a, .int .i64 c, .int .i64 i]] w fun e w' => e = .returned (.bool (i == 0)) ∧ Below w.heap.size w w' := by
  go_enter Try.func169, Try.ntmps169
  go_wp2
  go_ret
  exact ⟨rfl, (Below.refl _ _).alloc (Nat.le_refl _) _⟩
set_option maxRecDepth 100000 in
set_option maxHeartbeats 2000000 in
theorem rfields_19 (w : World) : Calls Try.prog 167 #[.int .i64 19] w fun e w' => e = .returned (.tuple #[.bool true, .bool true, .bool true, .bool false, .bool true, .bool false]) ∧ w' = w := by
  go_enter Try.func167, Try.ntmps167
  go_wp2
  refine bodyPost_ret (v := .tuple #[.bool true, .bool true, .bool true, .bool false, .bool true, .bool false]) (by simp [results, Try.results167, go_sem]) rfl ⟨rfl, rfl⟩
set_option maxRecDepth 100000 in
set_option maxHeartbeats 2000000 in
theorem rimm_19 (d n m a c i : Int) (w : World) : Calls Try.prog 169 #[.agg #[.int .i64 19, .int .i64 d, .int .i64 n, .int .i64 m, .int .i64 a, .int .i64 c, .int .i64 i]] w fun e w' => e = .returned (.bool (i == 0)) ∧ Below w.heap.size w w' := by
  go_enter Try.func169, Try.ntmps169
  go_wp2
  go_ret
  exact ⟨rfl, (Below.refl _ _).alloc (Nat.le_refl _) _⟩
set_option maxRecDepth 100000 in
set_option maxHeartbeats 2000000 in
theorem rfields_20 (w : World) : Calls Try.prog 167 #[.int .i64 20] w fun e w' => e = .returned (.tuple #[.bool false, .bool false, .bool false, .bool false, .bool false, .bool true]) ∧ w' = w := by
  go_enter Try.func167, Try.ntmps167
  go_wp2
  refine bodyPost_ret (v := .tuple #[.bool false, .bool false, .bool false, .bool false, .bool false, .bool true]) (by simp [results, Try.results167, go_sem]) rfl ⟨rfl, rfl⟩
set_option maxRecDepth 100000 in
set_option maxHeartbeats 2000000 in
theorem rimm_20 (d n m a c i : Int) (w : World) : Calls Try.prog 169 #[.agg #[.int .i64 20, .int .i64 d, .int .i64 n, .int .i64 m, .int .i64 a, .int .i64 c, .int .i64 i]] w fun e w' => e = .returned (.bool (wm i (-134217728) 134217724 4)) ∧ Below w.heap.size w w' := by
  go_enter Try.func169, Try.ntmps169
  go_wp2_with (go_at_call 198; refine (jumps_26 _ _).mono ?_; rintro e w' ⟨rfl, rfl⟩)
  go_ret
  exact ⟨rfl, (Below.refl _ _).alloc (Nat.le_refl _) _⟩
set_option maxRecDepth 100000 in
set_option maxHeartbeats 2000000 in
theorem rfields_21 (w : World) : Calls Try.prog 167 #[.int .i64 21] w fun e w' => e = .returned (.tuple #[.bool false, .bool false, .bool false, .bool false, .bool true, .bool true]) ∧ w' = w := by
  go_enter Try.func167, Try.ntmps167
  go_wp2
  refine bodyPost_ret (v := .tuple #[.bool false, .bool false, .bool false, .bool false, .bool true, .bool true]) (by simp [results, Try.results167, go_sem]) rfl ⟨rfl, rfl⟩
set_option maxRecDepth 100000 in
set_option maxHeartbeats 2000000 in
theorem rimm_21 (d n m a c i : Int) (w : World) : Calls Try.prog 169 #[.agg #[.int .i64 21, .int .i64 d, .int .i64 n, .int .i64 m, .int .i64 a, .int .i64 c, .int .i64 i]] w fun e w' => e = .returned (.bool (wm i (-1048576) 1048572 4)) ∧ Below w.heap.size w w' := by
  go_enter Try.func169, Try.ntmps169
  go_wp2_with (go_at_call 198; refine (jumps_19 _ _).mono ?_; rintro e w' ⟨rfl, rfl⟩)
  go_ret
  exact ⟨rfl, (Below.refl _ _).alloc (Nat.le_refl _) _⟩
set_option maxRecDepth 100000 in
set_option maxHeartbeats 2000000 in
theorem rfields_22 (w : World) : Calls Try.prog 167 #[.int .i64 22] w fun e w' => e = .returned (.tuple #[.bool true, .bool false, .bool false, .bool false, .bool false, .bool true]) ∧ w' = w := by
  go_enter Try.func167, Try.ntmps167
  go_wp2
  refine bodyPost_ret (v := .tuple #[.bool true, .bool false, .bool false, .bool false, .bool false, .bool true]) (by simp [results, Try.results167, go_sem]) rfl ⟨rfl, rfl⟩
set_option maxRecDepth 100000 in
set_option maxHeartbeats 2000000 in
theorem rimm_22 (d n m a c i : Int) (w : World) : Calls Try.prog 169 #[.agg #[.int .i64 22, .int .i64 d, .int .i64 n, .int .i64 m, .int .i64 a, .int .i64 c, .int .i64 i]] w fun e w' => e = .returned (.bool (wm i (-1048576) 1048572 4)) ∧ Below w.heap.size w w' := by
  go_enter Try.func169, Try.ntmps169
  go_wp2_with (go_at_call 198; refine (jumps_19 _ _).mono ?_; rintro e w' ⟨rfl, rfl⟩)
  go_ret
  exact ⟨rfl, (Below.refl _ _).alloc (Nat.le_refl _) _⟩
set_option maxRecDepth 100000 in
set_option maxHeartbeats 2000000 in
theorem rfields_23 (w : World) : Calls Try.prog 167 #[.int .i64 23] w fun e w' => e = .returned (.tuple #[.bool true, .bool false, .bool false, .bool false, .bool false, .bool true]) ∧ w' = w := by
  go_enter Try.func167, Try.ntmps167
  go_wp2
  refine bodyPost_ret (v := .tuple #[.bool true, .bool false, .bool false, .bool false, .bool false, .bool true]) (by simp [results, Try.results167, go_sem]) rfl ⟨rfl, rfl⟩
set_option maxRecDepth 100000 in
set_option maxHeartbeats 2000000 in
theorem rimm_23 (d n m a c i : Int) (w : World) : Calls Try.prog 169 #[.agg #[.int .i64 23, .int .i64 d, .int .i64 n, .int .i64 m, .int .i64 a, .int .i64 c, .int .i64 i]] w fun e w' => e = .returned (.bool (wm i (-1048576) 1048572 4)) ∧ Below w.heap.size w w' := by
  go_enter Try.func169, Try.ntmps169
  go_wp2_with (go_at_call 198; refine (jumps_19 _ _).mono ?_; rintro e w' ⟨rfl, rfl⟩)
  go_ret
  exact ⟨rfl, (Below.refl _ _).alloc (Nat.le_refl _) _⟩
set_option maxRecDepth 100000 in
set_option maxHeartbeats 2000000 in
theorem rfields_24 (w : World) : Calls Try.prog 167 #[.int .i64 24] w fun e w' => e = .returned (.tuple #[.bool false, .bool false, .bool false, .bool false, .bool false, .bool true]) ∧ w' = w := by
  go_enter Try.func167, Try.ntmps167
  go_wp2
  refine bodyPost_ret (v := .tuple #[.bool false, .bool false, .bool false, .bool false, .bool false, .bool true]) (by simp [results, Try.results167, go_sem]) rfl ⟨rfl, rfl⟩
set_option maxRecDepth 100000 in
set_option maxHeartbeats 2000000 in
theorem rimm_24 (d n m a c i : Int) (w : World) : Calls Try.prog 169 #[.agg #[.int .i64 24, .int .i64 d, .int .i64 n, .int .i64 m, .int .i64 a, .int .i64 c, .int .i64 i]] w fun e w' => e = .returned (.bool (wm i (-134217728) 134217724 4)) ∧ Below w.heap.size w w' := by
  go_enter Try.func169, Try.ntmps169
  go_wp2_with (go_at_call 198; refine (jumps_26 _ _).mono ?_; rintro e w' ⟨rfl, rfl⟩)
  go_ret
  exact ⟨rfl, (Below.refl _ _).alloc (Nat.le_refl _) _⟩
set_option maxRecDepth 100000 in
set_option maxHeartbeats 2000000 in
theorem rfields_25 (w : World) : Calls Try.prog 167 #[.int .i64 25] w fun e w' => e = .returned (.tuple #[.bool false, .bool true, .bool false, .bool false, .bool false, .bool false]) ∧ w' = w := by
  go_enter Try.func167, Try.ntmps167
  go_wp2
  refine bodyPost_ret (v := .tuple #[.bool false, .bool true, .bool false, .bool false, .bool false, .bool false]) (by simp [results, Try.results167, go_sem]) rfl ⟨rfl, rfl⟩
set_option maxRecDepth 100000 in
set_option maxHeartbeats 2000000 in
theorem rimm_25 (d n m a c i : Int) (w : World) : Calls Try.prog 169 #[.agg #[.int .i64 25, .int .i64 d, .int .i64 n, .int .i64 m, .int .i64 a, .int .i64 c, .int .i64 i]] w fun e w' => e = .returned (.bool (i == 0)) ∧ Below w.heap.size w w' := by
  go_enter Try.func169, Try.ntmps169
  go_wp2
  go_ret
  exact ⟨rfl, (Below.refl _ _).alloc (Nat.le_refl _) _⟩
set_option maxRecDepth 100000 in
set_option maxHeartbeats 2000000 in
theorem rfields_26 (w : World) : Calls Try.prog 167 #[.int .i64 26] w fun e w' => e = .returned (.tuple #[.bool false, .bool true, .bool false, .bool false, .bool false, .bool false]) ∧ w' = w := by
  go_enter Try.func167, Try.ntmps167
  go_wp2
  refine bodyPost_ret (v := .tuple #[.bool false, .bool true, .bool false, .bool false, .bool false, .bool false]) (by simp [results, Try.results167, go_sem]) rfl ⟨rfl, rfl⟩
set_option maxRecDepth 100000 in
set_option maxHeartbeats 2000000 in
theorem rimm_26 (d n m a c i : Int) (w : World) : Calls Try.prog 169 #[.agg #[.int .i64 26, .int .i64 d, .int .i64 n, .int .i64 m, .int .i64 a, .int .i64 c, .int .i64 i]] w fun e w' => e = .returned (.bool (i == 0)) ∧ Below w.heap.size w w' := by
  go_enter Try.func169, Try.ntmps169
  go_wp2
  go_ret
  exact ⟨rfl, (Below.refl _ _).alloc (Nat.le_refl _) _⟩
set_option maxRecDepth 100000 in
set_option maxHeartbeats 2000000 in
theorem rfields_27 (w : World) : Calls Try.prog 167 #[.int .i64 27] w fun e w' => e = .returned (.tuple #[.bool false, .bool true, .bool false, .bool false, .bool false, .bool false]) ∧ w' = w := by
  go_enter Try.func167, Try.ntmps167
  go_wp2
  refine bodyPost_ret (v := .tuple #[.bool false, .bool true, .bool false, .bool false, .bool false, .bool false]) (by simp [results, Try.results167, go_sem]) rfl ⟨rfl, rfl⟩
set_option maxRecDepth 100000 in
set_option maxHeartbeats 2000000 in
theorem rimm_27 (d n m a c i : Int) (w : World) : Calls Try.prog 169 #[.agg #[.int .i64 27, .int .i64 d, .int .i64 n, .int .i64 m, .int .i64 a, .int .i64 c, .int .i64 i]] w fun e w' => e = .returned (.bool (i == 0)) ∧ Below w.heap.size w w' := by
  go_enter Try.func169, Try.ntmps169
  go_wp2
  go_ret
  exact ⟨rfl, (Below.refl _ _).alloc (Nat.le_refl _) _⟩
set_option maxRecDepth 100000 in
set_option maxHeartbeats 2000000 in
theorem rfields_28 (w : World) : Calls Try.prog 167 #[.int .i64 28] w fun e w' => e = .returned (.tuple #[.bool true, .bool true, .bool false, .bool false, .bool false, .bool true]) ∧ w' = w := by
  go_enter Try.func167, Try.ntmps167
  go_wp2
  refine bodyPost_ret (v := .tuple #[.bool true, .bool true, .bool false, .bool false, .bool false, .bool true]) (by simp [results, Try.results167, go_sem]) rfl ⟨rfl, rfl⟩
set_option maxRecDepth 100000 in
set_option maxHeartbeats 2000000 in
theorem rimm_28 (d n m a c i : Int) (w : World) : Calls Try.prog 169 #[.agg #[.int .i64 28, .int .i64 d, .int .i64 n, .int .i64 m, .int .i64 a, .int .i64 c, .int .i64 i]] w fun e w' => e = .returned (.bool (wm i 0 32760 8)) ∧ Below w.heap.size w w' := by
  by_cases hb : 0 ≤ i ∧ i ≤ 32760
  · have hw : wi i 0 32760 = true := by simpa [wi] using hb
    obtain ⟨hb1, hb2⟩ := hb
    go_enter Try.func169, Try.ntmps169
    go_wp2
    go_ret
    exact ⟨ret_bool (by rw [wm, hw, Bool.true_and]), (Below.refl _ _).alloc (Nat.le_refl _) _⟩
  · have hw : wi i 0 32760 = false := by simpa [wi] using hb
    have HB := Lib.hid hb
    clear hb
    have hf : false = wm i 0 32760 8 := by rw [wm, hw, Bool.false_and]
    have HF := Lib.hid hf
    clear hf
    go_enter Try.func169, Try.ntmps169
    go_wp2
    all_goals
      go_ret
      first
        | exact ⟨ret_bool HF.out, (Below.refl _ _).alloc (Nat.le_refl _) _⟩
        | (exfalso; have := HB.out; omega)
set_option maxRecDepth 100000 in
set_option maxHeartbeats 2000000 in
theorem rfields_29 (w : World) : Calls Try.prog 167 #[.int .i64 29] w fun e w' => e = .returned (.tuple #[.bool true, .bool true, .bool false, .bool false, .bool false, .bool true]) ∧ w' = w := by
  go_enter Try.func167, Try.ntmps167
  go_wp2
  refine bodyPost_ret (v := .tuple #[.bool true, .bool true, .bool false, .bool false, .bool false, .bool true]) (by simp [results, Try.results167, go_sem]) rfl ⟨rfl, rfl⟩
set_option maxRecDepth 100000 in
set_option maxHeartbeats 2000000 in
theorem rimm_29 (d n m a c i : Int) (w : World) : Calls Try.prog 169 #[.agg #[.int .i64 29, .int .i64 d, .int .i64 n, .int .i64 m, .int .i64 a, .int .i64 c, .int .i64 i]] w fun e w' => e = .returned (.bool (wm i 0 32760 8)) ∧ Below w.heap.size w w' := by
  by_cases hb : 0 ≤ i ∧ i ≤ 32760
  · have hw : wi i 0 32760 = true := by simpa [wi] using hb
    obtain ⟨hb1, hb2⟩ := hb
    go_enter Try.func169, Try.ntmps169
    go_wp2
    go_ret
    exact ⟨ret_bool (by rw [wm, hw, Bool.true_and]), (Below.refl _ _).alloc (Nat.le_refl _) _⟩
  · have hw : wi i 0 32760 = false := by simpa [wi] using hb
    have HB := Lib.hid hb
    clear hb
    have hf : false = wm i 0 32760 8 := by rw [wm, hw, Bool.false_and]
    have HF := Lib.hid hf
    clear hf
    go_enter Try.func169, Try.ntmps169
    go_wp2
    all_goals
      go_ret
      first
        | exact ⟨ret_bool HF.out, (Below.refl _ _).alloc (Nat.le_refl _) _⟩
        | (exfalso; have := HB.out; omega)
set_option maxRecDepth 100000 in
set_option maxHeartbeats 2000000 in
theorem rfields_30 (w : World) : Calls Try.prog 167 #[.int .i64 30] w fun e w' => e = .returned (.tuple #[.bool true, .bool true, .bool false, .bool false, .bool false, .bool true]) ∧ w' = w := by
  go_enter Try.func167, Try.ntmps167
  go_wp2
  refine bodyPost_ret (v := .tuple #[.bool true, .bool true, .bool false, .bool false, .bool false, .bool true]) (by simp [results, Try.results167, go_sem]) rfl ⟨rfl, rfl⟩
set_option maxRecDepth 100000 in
set_option maxHeartbeats 2000000 in
theorem rimm_30 (d n m a c i : Int) (w : World) : Calls Try.prog 169 #[.agg #[.int .i64 30, .int .i64 d, .int .i64 n, .int .i64 m, .int .i64 a, .int .i64 c, .int .i64 i]] w fun e w' => e = .returned (.bool (wi i 0 4095)) ∧ Below w.heap.size w w' := by
  go_enter Try.func169, Try.ntmps169
  go_wp2
  all_goals
    go_ret
    exact ⟨ret_bool (by first | rfl | (simp [wi]; omega) | (simp [wi, *]; done) | (simp_all [wi]; omega)), (Below.refl _ _).alloc (Nat.le_refl _) _⟩
set_option maxRecDepth 100000 in
set_option maxHeartbeats 2000000 in
theorem rfields_31 (w : World) : Calls Try.prog 167 #[.int .i64 31] w fun e w' => e = .returned (.tuple #[.bool true, .bool true, .bool true, .bool false, .bool false, .bool false]) ∧ w' = w := by
  go_enter Try.func167, Try.ntmps167
  go_wp2
  refine bodyPost_ret (v := .tuple #[.bool true, .bool true, .bool true, .bool false, .bool false, .bool false]) (by simp [results, Try.results167, go_sem]) rfl ⟨rfl, rfl⟩
set_option maxRecDepth 100000 in
set_option maxHeartbeats 2000000 in
theorem rimm_31 (d n m a c i : Int) (w : World) : Calls Try.prog 169 #[.agg #[.int .i64 31, .int .i64 d, .int .i64 n, .int .i64 m, .int .i64 a, .int .i64 c, .int .i64 i]] w fun e w' => e = .returned (.bool (i == 0)) ∧ Below w.heap.size w w' := by
  go_enter Try.func169, Try.ntmps169
  go_wp2
  go_ret
  exact ⟨rfl, (Below.refl _ _).alloc (Nat.le_refl _) _⟩
set_option maxRecDepth 100000 in
set_option maxHeartbeats 2000000 in
theorem rfields_32 (w : World) : Calls Try.prog 167 #[.int .i64 32] w fun e w' => e = .returned (.tuple #[.bool true, .bool true, .bool true, .bool false, .bool false, .bool false]) ∧ w' = w := by
  go_enter Try.func167, Try.ntmps167
  go_wp2
  refine bodyPost_ret (v := .tuple #[.bool true, .bool true, .bool true, .bool false, .bool false, .bool false]) (by simp [results, Try.results167, go_sem]) rfl ⟨rfl, rfl⟩
set_option maxRecDepth 100000 in
set_option maxHeartbeats 2000000 in
theorem rimm_32 (d n m a c i : Int) (w : World) : Calls Try.prog 169 #[.agg #[.int .i64 32, .int .i64 d, .int .i64 n, .int .i64 m, .int .i64 a, .int .i64 c, .int .i64 i]] w fun e w' => e = .returned (.bool (i == 0)) ∧ Below w.heap.size w w' := by
  go_enter Try.func169, Try.ntmps169
  go_wp2
  go_ret
  exact ⟨rfl, (Below.refl _ _).alloc (Nat.le_refl _) _⟩
set_option maxRecDepth 100000 in
set_option maxHeartbeats 2000000 in
theorem rfields_33 (w : World) : Calls Try.prog 167 #[.int .i64 33] w fun e w' => e = .returned (.tuple #[.bool true, .bool true, .bool false, .bool false, .bool false, .bool false]) ∧ w' = w := by
  go_enter Try.func167, Try.ntmps167
  go_wp2
  refine bodyPost_ret (v := .tuple #[.bool true, .bool true, .bool false, .bool false, .bool false, .bool false]) (by simp [results, Try.results167, go_sem]) rfl ⟨rfl, rfl⟩
set_option maxRecDepth 100000 in
set_option maxHeartbeats 2000000 in
theorem rimm_33 (d n m a c i : Int) (w : World) : Calls Try.prog 169 #[.agg #[.int .i64 33, .int .i64 d, .int .i64 n, .int .i64 m, .int .i64 a, .int .i64 c, .int .i64 i]] w fun e w' => e = .returned (.bool (i == 0)) ∧ Below w.heap.size w w' := by
  go_enter Try.func169, Try.ntmps169
  go_wp2
  go_ret
  exact ⟨rfl, (Below.refl _ _).alloc (Nat.le_refl _) _⟩
set_option maxRecDepth 100000 in
set_option maxHeartbeats 2000000 in
theorem rfields_34 (w : World) : Calls Try.prog 167 #[.int .i64 34] w fun e w' => e = .returned (.tuple #[.bool true, .bool true, .bool false, .bool false, .bool false, .bool false]) ∧ w' = w := by
  go_enter Try.func167, Try.ntmps167
  go_wp2
  refine bodyPost_ret (v := .tuple #[.bool true, .bool true, .bool false, .bool false, .bool false, .bool false]) (by simp [results, Try.results167, go_sem]) rfl ⟨rfl, rfl⟩
set_option maxRecDepth 100000 in
set_option maxHeartbeats 2000000 in
theorem rimm_34 (d n m a c i : Int) (w : World) : Calls Try.prog 169 #[.agg #[.int .i64 34, .int .i64 d, .int .i64 n, .int .i64 m, .int .i64 a, .int .i64 c, .int .i64 i]] w fun e w' => e = .returned (.bool (i == 0)) ∧ Below w.heap.size w w' := by
  go_enter Try.func169, Try.ntmps169
  go_wp2
  go_ret
  exact ⟨rfl, (Below.refl _ _).alloc (Nat.le_refl _) _⟩
set_option maxRecDepth 100000 in
set_option maxHeartbeats 2000000 in
theorem rfields_35 (w : World) : Calls Try.prog 167 #[.int .i64 35] w fun e w' => e = .returned (.tuple #[.bool true, .bool true, .bool false, .bool false, .bool false, .bool false]) ∧ w' = w := by
  go_enter Try.func167, Try.ntmps167
  go_wp2
  refine bodyPost_ret (v := .tuple #[.bool true, .bool true, .bool false, .bool false, .bool false, .bool false]) (by simp [results, Try.results167, go_sem]) rfl ⟨rfl, rfl⟩
set_option maxRecDepth 100000 in
set_option maxHeartbeats 2000000 in
theorem rimm_35 (d n m a c i : Int) (w : World) : Calls Try.prog 169 #[.agg #[.int .i64 35, .int .i64 d, .int .i64 n, .int .i64 m, .int .i64 a, .int .i64 c, .int .i64 i]] w fun e w' => e = .returned (.bool (i == 0)) ∧ Below w.heap.size w w' := by
  go_enter Try.func169, Try.ntmps169
  go_wp2
  go_ret
  exact ⟨rfl, (Below.refl _ _).alloc (Nat.le_refl _) _⟩
set_option maxRecDepth 100000 in
set_option maxHeartbeats 2000000 in
theorem rfields_36 (w : World) : Calls Try.prog 167 #[.int .i64 36] w fun e w' => e = .returned (.tuple #[.bool true, .bool true, .bool true, .bool false, .bool false, .bool false]) ∧ w' = w := by
  go_enter Try.func167, Try.ntmps167
  go_wp2
  refine bodyPost_ret (v := .tuple #[.bool true, .bool true, .bool true, .bool false, .bool false, .bool false]) (by simp [results, Try.results167, go_sem]) rfl ⟨rfl, rfl⟩
set_option maxRecDepth 100000 in
set_option maxHeartbeats 2000000 in
theorem rimm_36 (d n m a c i : Int) (w : World) : Calls Try.prog 169 #[.agg #[.int .i64 36, .int .i64 d, .int .i64 n, .int .i64 m, .int .i64 a, .int .i64 c, .int .i64 i]] w fun e w' => e = .returned (.bool (i == 0)) ∧ Below w.heap.size w w' := by
  go_enter Try.func169, Try.ntmps169
  go_wp2
  go_ret
  exact ⟨rfl, (Below.refl _ _).alloc (Nat.le_refl _) _⟩
set_option maxRecDepth 100000 in
set_option maxHeartbeats 2000000 in
theorem rfields_37 (w : World) : Calls Try.prog 167 #[.int .i64 37] w fun e w' => e = .returned (.tuple #[.bool false, .bool false, .bool false, .bool false, .bool false, .bool true]) ∧ w' = w := by
  go_enter Try.func167, Try.ntmps167
  go_wp2
  refine bodyPost_ret (v := .tuple #[.bool false, .bool false, .bool false, .bool false, .bool false, .bool true]) (by simp [results, Try.results167, go_sem]) rfl ⟨rfl, rfl⟩
set_option maxRecDepth 100000 in
set_option maxHeartbeats 2000000 in
theorem rimm_37 (d n m a c i : Int) (w : World) : Calls Try.prog 169 #[.agg #[.int .i64 37, .int .i64 d, .int .i64 n, .int .i64 m, .int .i64 a, .int .i64 c, .int .i64 i]] w fun e w' => e = .returned (.bool (wi i 0 2)) ∧ Below w.heap.size w w' := by
  go_enter Try.func169, Try.ntmps169
  go_wp2
  all_goals
    go_ret
    exact ⟨ret_bool (by first | rfl | (simp [wi]; omega) | (simp [wi, *]; done) | (simp_all [wi]; omega)), (Below.refl _ _).alloc (Nat.le_refl _) _⟩
set_option maxRecDepth 100000 in
set_option maxHeartbeats 2000000 in
theorem rfields_38 (w : World) : Calls Try.prog 167 #[.int .i64 38] w fun e w' => e = .returned (.tuple #[.bool false, .bool false, .bool false, .bool false, .bool false, .bool false]) ∧ w' = w := by
  go_enter Try.func167, Try.ntmps167
  go_wp2
  refine bodyPost_ret (v := .tuple #[.bool false, .bool false, .bool false, .bool false, .bool false, .bool false]) (by simp [results, Try.results167, go_sem]) rfl ⟨rfl, rfl⟩
set_option maxRecDepth 100000 in
set_option maxHeartbeats 2000000 in
theorem rimm_38 (d n m a c i : Int) (w : World) : Calls Try.prog 169 #[.agg #[.int .i64 38, .int .i64 d, .int .i64 n, .int .i64 m, .int .i64 a, .int .i64 c, .int .i64 i]] w fun e w' => e = .returned (.bool (i == 0)) ∧ Below w.heap.size w w' := by
  go_enter Try.func169, Try.ntmps169
  go_wp2
  go_ret
  exact ⟨rfl, (Below.refl _ _).alloc (Nat.le_refl _) _⟩
set_option maxRecDepth 100000 in
set_option maxHeartbeats 2000000 in
theorem rfields_39 (w : World) : Calls Try.prog 167 #[.int .i64 39] w fun e w' => e = .returned (.tuple #[.bool false, .bool false, .bool false, .bool false, .bool false, .bool false]) ∧ w' = w := by
  go_enter Try.func167, Try.ntmps167
  go_wp2
  refine bodyPost_ret (v := .tuple #[.bool false, .bool false, .bool false, .bool false, .bool false, .bool false]) (by simp [results, Try.results167, go_sem]) rfl ⟨rfl, rfl⟩
set_option maxRecDepth 100000 in
set_option maxHeartbeats 2000000 in
theorem rimm_39 (d n m a c i : Int) (w : World) : Calls Try.prog 169 #[.agg #[.int .i64 39, .int .i64 d, .int .i64 n, .int .i64 m, .int .i64 a, .int .i64 c, .int .i64 i]] w fun e w' => e = .returned (.bool (i == 0)) ∧ Below w.heap.size w w' := by
  go_enter Try.func169, Try.ntmps169
  go_wp2
  go_ret
  exact ⟨rfl, (Below.refl _ _).alloc (Nat.le_refl _) _⟩
set_option maxRecDepth 100000 in
set_option maxHeartbeats 2000000 in
theorem rfields_40 (w : World) : Calls Try.prog 167 #[.int .i64 40] w fun e w' => e = .returned (.tuple #[.bool false, .bool true, .bool false, .bool false, .bool false, .bool false]) ∧ w' = w := by
  go_enter Try.func167, Try.ntmps167
  go_wp2
  refine bodyPost_ret (v := .tuple #[.bool false, .bool true, .bool false, .bool false, .bool false, .bool false]) (by simp [results, Try.results167, go_sem]) rfl ⟨rfl, rfl⟩
set_option maxRecDepth 100000 in
set_option maxHeartbeats 2000000 in
theorem rimm_40 (d n m a c i : Int) (w : World) : Calls Try.prog 169 #[.agg #[.int .i64 40, .int .i64 d, .int .i64 n, .int .i64 m, .int .i64 a, .int .i64 c, .int .i64 i]] w fun e w' => e = .returned (.bool (i == 0)) ∧ Below w.heap.size w w' := by
  go_enter Try.func169, Try.ntmps169
  go_wp2
  go_ret
  exact ⟨rfl, (Below.refl _ _).alloc (Nat.le_refl _) _⟩
set_option maxRecDepth 100000 in
set_option maxHeartbeats 2000000 in
theorem rfields_41 (w : World) : Calls Try.prog 167 #[.int .i64 41] w fun e w' => e = .returned (.tuple #[.bool false, .bool true, .bool false, .bool false, .bool false, .bool false]) ∧ w' = w := by
  go_enter Try.func167, Try.ntmps167
  go_wp2
  refine bodyPost_ret (v := .tuple #[.bool false, .bool true, .bool false, .bool false, .bool false, .bool false]) (by simp [results, Try.results167, go_sem]) rfl ⟨rfl, rfl⟩
set_option maxRecDepth 100000 in
set_option maxHeartbeats 2000000 in
theorem rimm_41 (d n m a c i : Int) (w : World) : Calls Try.prog 169 #[.agg #[.int .i64 41, .int .i64 d, .int .i64 n, .int .i64 m, .int .i64 a, .int .i64 c, .int .i64 i]] w fun e w' => e = .returned (.bool (i == 0)) ∧ Below w.heap.size w w' := by
  go_enter Try.func169, Try.ntmps169
  go_wp2
  go_ret
  exact ⟨rfl, (Below.refl _ _).alloc (Nat.le_refl _) _⟩
set_option maxRecDepth 100000 in
set_option maxHeartbeats 2000000 in
theorem rfields_42 (w : World) : Calls Try.prog 167 #[.int .i64 42] w fun e w' => e = .returned (.tuple #[.bool false, .bool false, .bool false, .bool false, .bool false, .bool true]) ∧ w' = w := by
  go_enter Try.func167, Try.ntmps167
  go_wp2
  refine bodyPost_ret (v := .tuple #[.bool false, .bool false, .bool false, .bool false, .bool false, .bool true]) (by simp [results, Try.results167, go_sem]) rfl ⟨rfl, rfl⟩
set_option maxRecDepth 100000 in
set_option maxHeartbeats 2000000 in
theorem rimm_42 (d n m a c i : Int) (w : World) : Calls Try.prog 169 #[.agg #[.int .i64 42, .int .i64 d, .int .i64 n, .int .i64 m, .int .i64 a, .int .i64 c, .int .i64 i]] w fun e w' => e = .returned (.bool (wi i 0 65535)) ∧ Below w.heap.size w w' := by
  go_enter Try.func169, Try.ntmps169
  go_wp2
  all_goals
    go_ret
    exact ⟨ret_bool (by first | rfl | (simp [wi]; omega) | (simp [wi, *]; done) | (simp_all [wi]; omega)), (Below.refl _ _).alloc (Nat.le_refl _) _⟩
end Go.Proofs.Ytnbpgoacooddjaa.En
