import Derived.Test.YtejdlhafdnpcmaaKb
import Derived.Test.YtejdlhafdnpcmaaKc
import Derived.Test.YtejdlhafdnpcmaaKd
namespace Go.Proofs.Ytejdlhafdnpcmaa
open Go.RowKit
set_option linter.unusedVariables false
theorem a64n_in (op d n m a c i : Int) (w : World) (h : op < 0 ∨ 42 < op) : Calls Try.prog 12 #[.agg #[.int .i64 op, .int .i64 d, .int .i64 n, .int .i64 m, .int .i64 a, .int .i64 c, .int .i64 i]] w (RowP [] w) :=
  in_make op d n m a c i _ w fun w => (registers_nil op d n m a c i 44 w (fun W => (check_non op d n m a c i 0 W (fun w => isop_n op w h)))).mono fun e w' h => ⟨_, h.1, World.ownsRow_nil _ _ _ _, fun _ => rfl, h.2⟩
theorem a64n_out (op d n m a c i : Int) (w : World) (h : op < 0 ∨ 42 < op) : Calls Try.prog 14 #[.agg #[.int .i64 op, .int .i64 d, .int .i64 n, .int .i64 m, .int .i64 a, .int .i64 c, .int .i64 i]] w (RowP [] w) :=
  out_make op d n m a c i _ w fun w => (registers_nil op d n m a c i 47 w (fun W => (check_non op d n m a c i 0 W (fun w => isop_n op w h)))).mono fun e w' h => ⟨_, h.1, World.ownsRow_nil _ _ _ _, fun _ => rfl, h.2⟩
theorem spOr_good (op d n m a x : Int) (h0 : 0 ≤ x) (h1 : x ≤ 31) (h : x = d ∨ x = n ∨ x = m ∨ x = a) : good op d n m a (spOr x) := by
  unfold spOr good
  split
  · exact ⟨by omega, by omega, by omega, fun h => by omega⟩
  · rename_i hx
    exact ⟨h0, by omega, hx, fun _ => by omega⟩
theorem store_0 (w : World) : Calls Try.prog 22 #[.int .i64 0] w fun e w' => e = .returned (.bool false) ∧ w' = w := by
  go_enter Try.func22, Try.ntmps22
  go_wp2
  go_ret
  exact ⟨rfl, rfl⟩
theorem branch_0 (w : World) : Calls Try.prog 24 #[.int .i64 0] w fun e w' => e = .returned (.bool false) ∧ w' = w := by
  go_enter Try.func24, Try.ntmps24
  go_wp2
  go_ret
  exact ⟨rfl, rfl⟩
theorem kin_0 (d n m a c i : Int) (w : World) : Calls Try.prog 5 #[.agg #[.int .i64 0, .int .i64 d, .int .i64 n, .int .i64 m, .int .i64 a, .int .i64 c, .int .i64 i]] w fun e w' => e = .returned (.bool true) ∧ Below w.heap.size w w' := by
  rcases h : ok_0 d n m a c i
  · exact kin_n 0 d n m a c i w (fun w => by have := check_0 d n m a c i w; rw [h] at this; exact this) (fun w => inn_0 d n m a c i w h) (fun w => outn_0 d n m a c i w h)
  · have h' := h
    refine kin_yd 0 d n m a c i [] [] (by simp) (by simp) (fun x hx => ?_) w (fun w => by have := check_0 d n m a c i w; rw [h] at this; exact this) (fun w => in_0 d n m a c i w h) (fun w => out_0 d n m a c i w h) memory_0 load_0 store_0 branch_0
    simp [puts] at hx
theorem store_1 (w : World) : Calls Try.prog 22 #[.int .i64 1] w fun e w' => e = .returned (.bool false) ∧ w' = w := by
  go_enter Try.func22, Try.ntmps22
  go_wp2
  go_ret
  exact ⟨rfl, rfl⟩
theorem branch_1 (w : World) : Calls Try.prog 24 #[.int .i64 1] w fun e w' => e = .returned (.bool false) ∧ w' = w := by
  go_enter Try.func24, Try.ntmps24
  go_wp2
  go_ret
  exact ⟨rfl, rfl⟩
theorem kin_1 (d n m a c i : Int) (w : World) : Calls Try.prog 5 #[.agg #[.int .i64 1, .int .i64 d, .int .i64 n, .int .i64 m, .int .i64 a, .int .i64 c, .int .i64 i]] w fun e w' => e = .returned (.bool true) ∧ Below w.heap.size w w' := by
  rcases h : ok_1 d n m a c i
  · exact kin_n 1 d n m a c i w (fun w => by have := check_1 d n m a c i w; rw [h] at this; exact this) (fun w => inn_1 d n m a c i w h) (fun w => outn_1 d n m a c i w h)
  · have h' := h
    refine kin_yd 1 d n m a c i [] [] (by simp) (by simp) (fun x hx => ?_) w (fun w => by have := check_1 d n m a c i w; rw [h] at this; exact this) (fun w => in_1 d n m a c i w h) (fun w => out_1 d n m a c i w h) memory_1 load_1 store_1 branch_1
    simp [puts] at hx
theorem store_2 (w : World) : Calls Try.prog 22 #[.int .i64 2] w fun e w' => e = .returned (.bool false) ∧ w' = w := by
  go_enter Try.func22, Try.ntmps22
  go_wp2
  go_ret
  exact ⟨rfl, rfl⟩
theorem branch_2 (w : World) : Calls Try.prog 24 #[.int .i64 2] w fun e w' => e = .returned (.bool false) ∧ w' = w := by
  go_enter Try.func24, Try.ntmps24
  go_wp2
  go_ret
  exact ⟨rfl, rfl⟩
theorem kin_2 (d n m a c i : Int) (w : World) : Calls Try.prog 5 #[.agg #[.int .i64 2, .int .i64 d, .int .i64 n, .int .i64 m, .int .i64 a, .int .i64 c, .int .i64 i]] w fun e w' => e = .returned (.bool true) ∧ Below w.heap.size w w' := by
  rcases h : ok_2 d n m a c i
  · exact kin_n 2 d n m a c i w (fun w => by have := check_2 d n m a c i w; rw [h] at this; exact this) (fun w => inn_2 d n m a c i w h) (fun w => outn_2 d n m a c i w h)
  · have h' := h
    have hr : 0 ≤ d ∧ d ≤ 31 := by
      simp [ok_2, wi] at h'
      omega
    refine kin_yd 2 d n m a c i [] [d] (by simp) (by simp) (fun x hx => ?_) w (fun w => by have := check_2 d n m a c i w; rw [h] at this; exact this) (fun w => in_2 d n m a c i w h) (fun w => out_2 d n m a c i w h) memory_2 load_2 store_2 branch_2
    simp only [List.mem_append, mem_puts, List.mem_cons, List.not_mem_nil, or_false, false_or, and_false] at hx
    unfold good; omega
theorem store_3 (w : World) : Calls Try.prog 22 #[.int .i64 3] w fun e w' => e = .returned (.bool false) ∧ w' = w := by
  go_enter Try.func22, Try.ntmps22
  go_wp2
  go_ret
  exact ⟨rfl, rfl⟩
theorem branch_3 (w : World) : Calls Try.prog 24 #[.int .i64 3] w fun e w' => e = .returned (.bool false) ∧ w' = w := by
  go_enter Try.func24, Try.ntmps24
  go_wp2
  go_ret
  exact ⟨rfl, rfl⟩
theorem kin_3 (d n m a c i : Int) (w : World) : Calls Try.prog 5 #[.agg #[.int .i64 3, .int .i64 d, .int .i64 n, .int .i64 m, .int .i64 a, .int .i64 c, .int .i64 i]] w fun e w' => e = .returned (.bool true) ∧ Below w.heap.size w w' := by
  rcases h : ok_3 d n m a c i
  · exact kin_n 3 d n m a c i w (fun w => by have := check_3 d n m a c i w; rw [h] at this; exact this) (fun w => inn_3 d n m a c i w h) (fun w => outn_3 d n m a c i w h)
  · have h' := h
    have hr : 0 ≤ d ∧ d ≤ 31 := by
      simp [ok_3, wi] at h'
      omega
    refine kin_yd 3 d n m a c i [d] [d] (by simp) (by simp) (fun x hx => ?_) w (fun w => by have := check_3 d n m a c i w; rw [h] at this; exact this) (fun w => in_3 d n m a c i w h) (fun w => out_3 d n m a c i w h) memory_3 load_3 store_3 branch_3
    simp only [List.mem_append, mem_puts, List.mem_cons, List.not_mem_nil, or_false] at hx
    unfold good; omega
theorem store_4 (w : World) : Calls Try.prog 22 #[.int .i64 4] w fun e w' => e = .returned (.bool false) ∧ w' = w := by
  go_enter Try.func22, Try.ntmps22
  go_wp2
  go_ret
  exact ⟨rfl, rfl⟩
theorem branch_4 (w : World) : Calls Try.prog 24 #[.int .i64 4] w fun e w' => e = .returned (.bool false) ∧ w' = w := by
  go_enter Try.func24, Try.ntmps24
  go_wp2
  go_ret
  exact ⟨rfl, rfl⟩
theorem kin_4 (d n m a c i : Int) (w : World) : Calls Try.prog 5 #[.agg #[.int .i64 4, .int .i64 d, .int .i64 n, .int .i64 m, .int .i64 a, .int .i64 c, .int .i64 i]] w fun e w' => e = .returned (.bool true) ∧ Below w.heap.size w w' := by
  rcases h : ok_4 d n m a c i
  · exact kin_n 4 d n m a c i w (fun w => by have := check_4 d n m a c i w; rw [h] at this; exact this) (fun w => inn_4 d n m a c i w h) (fun w => outn_4 d n m a c i w h)
  · have h' := h
    have hr : 0 ≤ d ∧ d ≤ 31 ∧ 0 ≤ n ∧ n ≤ 31 := by
      simp [ok_4, wi] at h'
      omega
    refine kin_yd 4 d n m a c i [(spOr n)] [(spOr d)] (by simp) (by simp) (fun x hx => ?_) w (fun w => by have := check_4 d n m a c i w; rw [h] at this; exact this) (fun w => in_4 d n m a c i w h) (fun w => out_4 d n m a c i w h) memory_4 load_4 store_4 branch_4
    simp only [List.mem_append, mem_puts, List.mem_cons, List.not_mem_nil, or_false] at hx
    have hs0 := spOr_good 4 d n m a d (by omega) (by omega) (by simp)
    have hs1 := spOr_good 4 d n m a n (by omega) (by omega) (by simp)
    by_cases hq : x = (spOr d) ∨ x = (spOr n)
    · rcases hq with rfl | rfl
      · exact hs0
      · exact hs1
    · unfold good; omega
theorem store_5 (w : World) : Calls Try.prog 22 #[.int .i64 5] w fun e w' => e = .returned (.bool false) ∧ w' = w := by
  go_enter Try.func22, Try.ntmps22
  go_wp2
  go_ret
  exact ⟨rfl, rfl⟩
theorem branch_5 (w : World) : Calls Try.prog 24 #[.int .i64 5] w fun e w' => e = .returned (.bool false) ∧ w' = w := by
  go_enter Try.func24, Try.ntmps24
  go_wp2
  go_ret
  exact ⟨rfl, rfl⟩
theorem kin_5 (d n m a c i : Int) (w : World) : Calls Try.prog 5 #[.agg #[.int .i64 5, .int .i64 d, .int .i64 n, .int .i64 m, .int .i64 a, .int .i64 c, .int .i64 i]] w fun e w' => e = .returned (.bool true) ∧ Below w.heap.size w w' := by
  rcases h : ok_5 d n m a c i
  · exact kin_n 5 d n m a c i w (fun w => by have := check_5 d n m a c i w; rw [h] at this; exact this) (fun w => inn_5 d n m a c i w h) (fun w => outn_5 d n m a c i w h)
  · have h' := h
    have hr : 0 ≤ d ∧ d ≤ 31 ∧ 0 ≤ n ∧ n ≤ 31 := by
      simp [ok_5, wi] at h'
      omega
    refine kin_yd 5 d n m a c i [(spOr n)] [(spOr d)] (by simp) (by simp) (fun x hx => ?_) w (fun w => by have := check_5 d n m a c i w; rw [h] at this; exact this) (fun w => in_5 d n m a c i w h) (fun w => out_5 d n m a c i w h) memory_5 load_5 store_5 branch_5
    simp only [List.mem_append, mem_puts, List.mem_cons, List.not_mem_nil, or_false] at hx
    have hs0 := spOr_good 5 d n m a d (by omega) (by omega) (by simp)
    have hs1 := spOr_good 5 d n m a n (by omega) (by omega) (by simp)
    by_cases hq : x = (spOr d) ∨ x = (spOr n)
    · rcases hq with rfl | rfl
      · exact hs0
      · exact hs1
    · unfold good; omega
theorem store_6 (w : World) : Calls Try.prog 22 #[.int .i64 6] w fun e w' => e = .returned (.bool false) ∧ w' = w := by
  go_enter Try.func22, Try.ntmps22
  go_wp2
  go_ret
  exact ⟨rfl, rfl⟩
theorem branch_6 (w : World) : Calls Try.prog 24 #[.int .i64 6] w fun e w' => e = .returned (.bool false) ∧ w' = w := by
  go_enter Try.func24, Try.ntmps24
  go_wp2
  go_ret
  exact ⟨rfl, rfl⟩
theorem kin_6 (d n m a c i : Int) (w : World) : Calls Try.prog 5 #[.agg #[.int .i64 6, .int .i64 d, .int .i64 n, .int .i64 m, .int .i64 a, .int .i64 c, .int .i64 i]] w fun e w' => e = .returned (.bool true) ∧ Below w.heap.size w w' := by
  rcases h : ok_6 d n m a c i
  · exact kin_n 6 d n m a c i w (fun w => by have := check_6 d n m a c i w; rw [h] at this; exact this) (fun w => inn_6 d n m a c i w h) (fun w => outn_6 d n m a c i w h)
  · have h' := h
    have hr : 0 ≤ d ∧ d ≤ 31 ∧ 0 ≤ n ∧ n ≤ 31 := by
      simp [ok_6, wi] at h'
      omega
    refine kin_yd 6 d n m a c i [(spOr n)] [d, 33] (by simp) (by simp) (fun x hx => ?_) w (fun w => by have := check_6 d n m a c i w; rw [h] at this; exact this) (fun w => in_6 d n m a c i w h) (fun w => out_6 d n m a c i w h) memory_6 load_6 store_6 branch_6
    simp only [List.mem_append, mem_puts, List.mem_cons, List.not_mem_nil, or_false] at hx
    have hs0 := spOr_good 6 d n m a n (by omega) (by omega) (by simp)
    by_cases hq : x = (spOr n)
    · subst hq
      exact hs0
    · unfold good; omega
theorem store_7 (w : World) : Calls Try.prog 22 #[.int .i64 7] w fun e w' => e = .returned (.bool false) ∧ w' = w := by
  go_enter Try.func22, Try.ntmps22
  go_wp2
  go_ret
  exact ⟨rfl, rfl⟩
theorem branch_7 (w : World) : Calls Try.prog 24 #[.int .i64 7] w fun e w' => e = .returned (.bool false) ∧ w' = w := by
  go_enter Try.func24, Try.ntmps24
  go_wp2
  go_ret
  exact ⟨rfl, rfl⟩
theorem kin_7 (d n m a c i : Int) (w : World) : Calls Try.prog 5 #[.agg #[.int .i64 7, .int .i64 d, .int .i64 n, .int .i64 m, .int .i64 a, .int .i64 c, .int .i64 i]] w fun e w' => e = .returned (.bool true) ∧ Below w.heap.size w w' := by
  rcases h : ok_7 d n m a c i
  · exact kin_n 7 d n m a c i w (fun w => by have := check_7 d n m a c i w; rw [h] at this; exact this) (fun w => inn_7 d n m a c i w h) (fun w => outn_7 d n m a c i w h)
  · have h' := h
    have hr : 0 ≤ d ∧ d ≤ 31 ∧ 0 ≤ n ∧ n ≤ 31 ∧ 0 ≤ m ∧ m ≤ 31 := by
      simp [ok_7, wi] at h'
      omega
    refine kin_yd 7 d n m a c i [n, m] [d] (by simp) (by simp) (fun x hx => ?_) w (fun w => by have := check_7 d n m a c i w; rw [h] at this; exact this) (fun w => in_7 d n m a c i w h) (fun w => out_7 d n m a c i w h) memory_7 load_7 store_7 branch_7
    simp only [List.mem_append, mem_puts, List.mem_cons, List.not_mem_nil, or_false] at hx
    unfold good; omega
theorem store_8 (w : World) : Calls Try.prog 22 #[.int .i64 8] w fun e w' => e = .returned (.bool false) ∧ w' = w := by
  go_enter Try.func22, Try.ntmps22
  go_wp2
  go_ret
  exact ⟨rfl, rfl⟩
theorem branch_8 (w : World) : Calls Try.prog 24 #[.int .i64 8] w fun e w' => e = .returned (.bool false) ∧ w' = w := by
  go_enter Try.func24, Try.ntmps24
  go_wp2
  go_ret
  exact ⟨rfl, rfl⟩
theorem kin_8 (d n m a c i : Int) (w : World) : Calls Try.prog 5 #[.agg #[.int .i64 8, .int .i64 d, .int .i64 n, .int .i64 m, .int .i64 a, .int .i64 c, .int .i64 i]] w fun e w' => e = .returned (.bool true) ∧ Below w.heap.size w w' := by
  rcases h : ok_8 d n m a c i
  · exact kin_n 8 d n m a c i w (fun w => by have := check_8 d n m a c i w; rw [h] at this; exact this) (fun w => inn_8 d n m a c i w h) (fun w => outn_8 d n m a c i w h)
  · have h' := h
    have hr : 0 ≤ d ∧ d ≤ 31 ∧ 0 ≤ n ∧ n ≤ 31 ∧ 0 ≤ m ∧ m ≤ 31 := by
      simp [ok_8, wi] at h'
      omega
    refine kin_yd 8 d n m a c i [n, m] [d] (by simp) (by simp) (fun x hx => ?_) w (fun w => by have := check_8 d n m a c i w; rw [h] at this; exact this) (fun w => in_8 d n m a c i w h) (fun w => out_8 d n m a c i w h) memory_8 load_8 store_8 branch_8
    simp only [List.mem_append, mem_puts, List.mem_cons, List.not_mem_nil, or_false] at hx
    unfold good; omega
theorem store_9 (w : World) : Calls Try.prog 22 #[.int .i64 9] w fun e w' => e = .returned (.bool false) ∧ w' = w := by
  go_enter Try.func22, Try.ntmps22
  go_wp2
  go_ret
  exact ⟨rfl, rfl⟩
theorem branch_9 (w : World) : Calls Try.prog 24 #[.int .i64 9] w fun e w' => e = .returned (.bool false) ∧ w' = w := by
  go_enter Try.func24, Try.ntmps24
  go_wp2
  go_ret
  exact ⟨rfl, rfl⟩
theorem kin_9 (d n m a c i : Int) (w : World) : Calls Try.prog 5 #[.agg #[.int .i64 9, .int .i64 d, .int .i64 n, .int .i64 m, .int .i64 a, .int .i64 c, .int .i64 i]] w fun e w' => e = .returned (.bool true) ∧ Below w.heap.size w w' := by
  rcases h : ok_9 d n m a c i
  · exact kin_n 9 d n m a c i w (fun w => by have := check_9 d n m a c i w; rw [h] at this; exact this) (fun w => inn_9 d n m a c i w h) (fun w => outn_9 d n m a c i w h)
  · have h' := h
    have hr : 0 ≤ d ∧ d ≤ 31 ∧ 0 ≤ n ∧ n ≤ 31 ∧ 0 ≤ m ∧ m ≤ 31 := by
      simp [ok_9, wi] at h'
      omega
    refine kin_yd 9 d n m a c i [n, m] [d, 33] (by simp) (by simp) (fun x hx => ?_) w (fun w => by have := check_9 d n m a c i w; rw [h] at this; exact this) (fun w => in_9 d n m a c i w h) (fun w => out_9 d n m a c i w h) memory_9 load_9 store_9 branch_9
    simp only [List.mem_append, mem_puts, List.mem_cons, List.not_mem_nil, or_false] at hx
    unfold good; omega
theorem store_10 (w : World) : Calls Try.prog 22 #[.int .i64 10] w fun e w' => e = .returned (.bool false) ∧ w' = w := by
  go_enter Try.func22, Try.ntmps22
  go_wp2
  go_ret
  exact ⟨rfl, rfl⟩
theorem branch_10 (w : World) : Calls Try.prog 24 #[.int .i64 10] w fun e w' => e = .returned (.bool false) ∧ w' = w := by
  go_enter Try.func24, Try.ntmps24
  go_wp2
  go_ret
  exact ⟨rfl, rfl⟩
theorem kin_10 (d n m a c i : Int) (w : World) : Calls Try.prog 5 #[.agg #[.int .i64 10, .int .i64 d, .int .i64 n, .int .i64 m, .int .i64 a, .int .i64 c, .int .i64 i]] w fun e w' => e = .returned (.bool true) ∧ Below w.heap.size w w' := by
  rcases h : ok_10 d n m a c i
  · exact kin_n 10 d n m a c i w (fun w => by have := check_10 d n m a c i w; rw [h] at this; exact this) (fun w => inn_10 d n m a c i w h) (fun w => outn_10 d n m a c i w h)
  · have h' := h
    have hr : 0 ≤ d ∧ d ≤ 31 ∧ 0 ≤ n ∧ n ≤ 31 ∧ 0 ≤ m ∧ m ≤ 31 := by
      simp [ok_10, wi] at h'
      omega
    refine kin_yd 10 d n m a c i [n, m] [d] (by simp) (by simp) (fun x hx => ?_) w (fun w => by have := check_10 d n m a c i w; rw [h] at this; exact this) (fun w => in_10 d n m a c i w h) (fun w => out_10 d n m a c i w h) memory_10 load_10 store_10 branch_10
    simp only [List.mem_append, mem_puts, List.mem_cons, List.not_mem_nil, or_false] at hx
    unfold good; omega
theorem store_11 (w : World) : Calls Try.prog 22 #[.int .i64 11] w fun e w' => e = .returned (.bool false) ∧ w' = w := by
  go_enter Try.func22, Try.ntmps22
  go_wp2
  go_ret
  exact ⟨rfl, rfl⟩
theorem branch_11 (w : World) : Calls Try.prog 24 #[.int .i64 11] w fun e w' => e = .returned (.bool false) ∧ w' = w := by
  go_enter Try.func24, Try.ntmps24
  go_wp2
  go_ret
  exact ⟨rfl, rfl⟩
theorem kin_11 (d n m a c i : Int) (w : World) : Calls Try.prog 5 #[.agg #[.int .i64 11, .int .i64 d, .int .i64 n, .int .i64 m, .int .i64 a, .int .i64 c, .int .i64 i]] w fun e w' => e = .returned (.bool true) ∧ Below w.heap.size w w' := by
  rcases h : ok_11 d n m a c i
  · exact kin_n 11 d n m a c i w (fun w => by have := check_11 d n m a c i w; rw [h] at this; exact this) (fun w => inn_11 d n m a c i w h) (fun w => outn_11 d n m a c i w h)
  · have h' := h
    have hr : 0 ≤ d ∧ d ≤ 31 ∧ 0 ≤ n ∧ n ≤ 31 ∧ 0 ≤ m ∧ m ≤ 31 := by
      simp [ok_11, wi] at h'
      omega
    refine kin_yd 11 d n m a c i [n, m] [d] (by simp) (by simp) (fun x hx => ?_) w (fun w => by have := check_11 d n m a c i w; rw [h] at this; exact this) (fun w => in_11 d n m a c i w h) (fun w => out_11 d n m a c i w h) memory_11 load_11 store_11 branch_11
    simp only [List.mem_append, mem_puts, List.mem_cons, List.not_mem_nil, or_false] at hx
    unfold good; omega
theorem store_12 (w : World) : Calls Try.prog 22 #[.int .i64 12] w fun e w' => e = .returned (.bool false) ∧ w' = w := by
  go_enter Try.func22, Try.ntmps22
  go_wp2
  go_ret
  exact ⟨rfl, rfl⟩
theorem branch_12 (w : World) : Calls Try.prog 24 #[.int .i64 12] w fun e w' => e = .returned (.bool false) ∧ w' = w := by
  go_enter Try.func24, Try.ntmps24
  go_wp2
  go_ret
  exact ⟨rfl, rfl⟩
theorem kin_12 (d n m a c i : Int) (w : World) : Calls Try.prog 5 #[.agg #[.int .i64 12, .int .i64 d, .int .i64 n, .int .i64 m, .int .i64 a, .int .i64 c, .int .i64 i]] w fun e w' => e = .returned (.bool true) ∧ Below w.heap.size w w' := by
  rcases h : ok_12 d n m a c i
  · exact kin_n 12 d n m a c i w (fun w => by have := check_12 d n m a c i w; rw [h] at this; exact this) (fun w => inn_12 d n m a c i w h) (fun w => outn_12 d n m a c i w h)
  · have h' := h
    have hr : 0 ≤ d ∧ d ≤ 31 ∧ 0 ≤ n ∧ n ≤ 31 ∧ 0 ≤ m ∧ m ≤ 31 := by
      simp [ok_12, wi] at h'
      omega
    refine kin_yd 12 d n m a c i [n, m] [d] (by simp) (by simp) (fun x hx => ?_) w (fun w => by have := check_12 d n m a c i w; rw [h] at this; exact this) (fun w => in_12 d n m a c i w h) (fun w => out_12 d n m a c i w h) memory_12 load_12 store_12 branch_12
    simp only [List.mem_append, mem_puts, List.mem_cons, List.not_mem_nil, or_false] at hx
    unfold good; omega
theorem store_13 (w : World) : Calls Try.prog 22 #[.int .i64 13] w fun e w' => e = .returned (.bool false) ∧ w' = w := by
  go_enter Try.func22, Try.ntmps22
  go_wp2
  go_ret
  exact ⟨rfl, rfl⟩
theorem branch_13 (w : World) : Calls Try.prog 24 #[.int .i64 13] w fun e w' => e = .returned (.bool false) ∧ w' = w := by
  go_enter Try.func24, Try.ntmps24
  go_wp2
  go_ret
  exact ⟨rfl, rfl⟩
theorem kin_13 (d n m a c i : Int) (w : World) : Calls Try.prog 5 #[.agg #[.int .i64 13, .int .i64 d, .int .i64 n, .int .i64 m, .int .i64 a, .int .i64 c, .int .i64 i]] w fun e w' => e = .returned (.bool true) ∧ Below w.heap.size w w' := by
  rcases h : ok_13 d n m a c i
  · exact kin_n 13 d n m a c i w (fun w => by have := check_13 d n m a c i w; rw [h] at this; exact this) (fun w => inn_13 d n m a c i w h) (fun w => outn_13 d n m a c i w h)
  · have h' := h
    have hr : 0 ≤ d ∧ d ≤ 31 ∧ 0 ≤ n ∧ n ≤ 31 ∧ 0 ≤ m ∧ m ≤ 31 ∧ 0 ≤ a ∧ a ≤ 31 := by
      simp [ok_13, wi] at h'
      omega
    refine kin_yd 13 d n m a c i [n, m, a] [d] (by simp) (by simp) (fun x hx => ?_) w (fun w => by have := check_13 d n m a c i w; rw [h] at this; exact this) (fun w => in_13 d n m a c i w h) (fun w => out_13 d n m a c i w h) memory_13 load_13 store_13 branch_13
    simp only [List.mem_append, mem_puts, List.mem_cons, List.not_mem_nil, or_false] at hx
    unfold good; omega
theorem store_14 (w : World) : Calls Try.prog 22 #[.int .i64 14] w fun e w' => e = .returned (.bool false) ∧ w' = w := by
  go_enter Try.func22, Try.ntmps22
  go_wp2
  go_ret
  exact ⟨rfl, rfl⟩
theorem branch_14 (w : World) : Calls Try.prog 24 #[.int .i64 14] w fun e w' => e = .returned (.bool false) ∧ w' = w := by
  go_enter Try.func24, Try.ntmps24
  go_wp2
  go_ret
  exact ⟨rfl, rfl⟩
theorem kin_14 (d n m a c i : Int) (w : World) : Calls Try.prog 5 #[.agg #[.int .i64 14, .int .i64 d, .int .i64 n, .int .i64 m, .int .i64 a, .int .i64 c, .int .i64 i]] w fun e w' => e = .returned (.bool true) ∧ Below w.heap.size w w' := by
  rcases h : ok_14 d n m a c i
  · exact kin_n 14 d n m a c i w (fun w => by have := check_14 d n m a c i w; rw [h] at this; exact this) (fun w => inn_14 d n m a c i w h) (fun w => outn_14 d n m a c i w h)
  · have h' := h
    have hr : 0 ≤ d ∧ d ≤ 31 ∧ 0 ≤ n ∧ n ≤ 31 ∧ 0 ≤ m ∧ m ≤ 31 ∧ 0 ≤ a ∧ a ≤ 31 := by
      simp [ok_14, wi] at h'
      omega
    refine kin_yd 14 d n m a c i [n, m, a] [d] (by simp) (by simp) (fun x hx => ?_) w (fun w => by have := check_14 d n m a c i w; rw [h] at this; exact this) (fun w => in_14 d n m a c i w h) (fun w => out_14 d n m a c i w h) memory_14 load_14 store_14 branch_14
    simp only [List.mem_append, mem_puts, List.mem_cons, List.not_mem_nil, or_false] at hx
    unfold good; omega
theorem store_15 (w : World) : Calls Try.prog 22 #[.int .i64 15] w fun e w' => e = .returned (.bool false) ∧ w' = w := by
  go_enter Try.func22, Try.ntmps22
  go_wp2
  go_ret
  exact ⟨rfl, rfl⟩
theorem branch_15 (w : World) : Calls Try.prog 24 #[.int .i64 15] w fun e w' => e = .returned (.bool false) ∧ w' = w := by
  go_enter Try.func24, Try.ntmps24
  go_wp2
  go_ret
  exact ⟨rfl, rfl⟩
theorem kin_15 (d n m a c i : Int) (w : World) : Calls Try.prog 5 #[.agg #[.int .i64 15, .int .i64 d, .int .i64 n, .int .i64 m, .int .i64 a, .int .i64 c, .int .i64 i]] w fun e w' => e = .returned (.bool true) ∧ Below w.heap.size w w' := by
  rcases h : ok_15 d n m a c i
  · exact kin_n 15 d n m a c i w (fun w => by have := check_15 d n m a c i w; rw [h] at this; exact this) (fun w => inn_15 d n m a c i w h) (fun w => outn_15 d n m a c i w h)
  · have h' := h
    have hr : 0 ≤ d ∧ d ≤ 31 ∧ 0 ≤ n ∧ n ≤ 31 ∧ 0 ≤ m ∧ m ≤ 31 := by
      simp [ok_15, wi] at h'
      omega
    refine kin_yd 15 d n m a c i [n, m] [d] (by simp) (by simp) (fun x hx => ?_) w (fun w => by have := check_15 d n m a c i w; rw [h] at this; exact this) (fun w => in_15 d n m a c i w h) (fun w => out_15 d n m a c i w h) memory_15 load_15 store_15 branch_15
    simp only [List.mem_append, mem_puts, List.mem_cons, List.not_mem_nil, or_false] at hx
    unfold good; omega
theorem store_16 (w : World) : Calls Try.prog 22 #[.int .i64 16] w fun e w' => e = .returned (.bool false) ∧ w' = w := by
  go_enter Try.func22, Try.ntmps22
  go_wp2
  go_ret
  exact ⟨rfl, rfl⟩
theorem branch_16 (w : World) : Calls Try.prog 24 #[.int .i64 16] w fun e w' => e = .returned (.bool false) ∧ w' = w := by
  go_enter Try.func24, Try.ntmps24
  go_wp2
  go_ret
  exact ⟨rfl, rfl⟩
theorem kin_16 (d n m a c i : Int) (w : World) : Calls Try.prog 5 #[.agg #[.int .i64 16, .int .i64 d, .int .i64 n, .int .i64 m, .int .i64 a, .int .i64 c, .int .i64 i]] w fun e w' => e = .returned (.bool true) ∧ Below w.heap.size w w' := by
  rcases h : ok_16 d n m a c i
  · exact kin_n 16 d n m a c i w (fun w => by have := check_16 d n m a c i w; rw [h] at this; exact this) (fun w => inn_16 d n m a c i w h) (fun w => outn_16 d n m a c i w h)
  · have h' := h
    have hr : 0 ≤ d ∧ d ≤ 31 ∧ 0 ≤ n ∧ n ≤ 31 ∧ 0 ≤ m ∧ m ≤ 31 := by
      simp [ok_16, wi] at h'
      omega
    refine kin_yd 16 d n m a c i [n, m] [d] (by simp) (by simp) (fun x hx => ?_) w (fun w => by have := check_16 d n m a c i w; rw [h] at this; exact this) (fun w => in_16 d n m a c i w h) (fun w => out_16 d n m a c i w h) memory_16 load_16 store_16 branch_16
    simp only [List.mem_append, mem_puts, List.mem_cons, List.not_mem_nil, or_false] at hx
    unfold good; omega
theorem store_17 (w : World) : Calls Try.prog 22 #[.int .i64 17] w fun e w' => e = .returned (.bool false) ∧ w' = w := by
  go_enter Try.func22, Try.ntmps22
  go_wp2
  go_ret
  exact ⟨rfl, rfl⟩
theorem branch_17 (w : World) : Calls Try.prog 24 #[.int .i64 17] w fun e w' => e = .returned (.bool false) ∧ w' = w := by
  go_enter Try.func24, Try.ntmps24
  go_wp2
  go_ret
  exact ⟨rfl, rfl⟩
theorem kin_17 (d n m a c i : Int) (w : World) : Calls Try.prog 5 #[.agg #[.int .i64 17, .int .i64 d, .int .i64 n, .int .i64 m, .int .i64 a, .int .i64 c, .int .i64 i]] w fun e w' => e = .returned (.bool true) ∧ Below w.heap.size w w' := by
  rcases h : ok_17 d n m a c i
  · exact kin_n 17 d n m a c i w (fun w => by have := check_17 d n m a c i w; rw [h] at this; exact this) (fun w => inn_17 d n m a c i w h) (fun w => outn_17 d n m a c i w h)
  · have h' := h
    have hr : 0 ≤ d ∧ d ≤ 31 ∧ 0 ≤ n ∧ n ≤ 31 ∧ 0 ≤ m ∧ m ≤ 31 := by
      simp [ok_17, wi] at h'
      omega
    refine kin_yd 17 d n m a c i [n, m] [d] (by simp) (by simp) (fun x hx => ?_) w (fun w => by have := check_17 d n m a c i w; rw [h] at this; exact this) (fun w => in_17 d n m a c i w h) (fun w => out_17 d n m a c i w h) memory_17 load_17 store_17 branch_17
    simp only [List.mem_append, mem_puts, List.mem_cons, List.not_mem_nil, or_false] at hx
    unfold good; omega
theorem store_18 (w : World) : Calls Try.prog 22 #[.int .i64 18] w fun e w' => e = .returned (.bool false) ∧ w' = w := by
  go_enter Try.func22, Try.ntmps22
  go_wp2
  go_ret
  exact ⟨rfl, rfl⟩
theorem branch_18 (w : World) : Calls Try.prog 24 #[.int .i64 18] w fun e w' => e = .returned (.bool false) ∧ w' = w := by
  go_enter Try.func24, Try.ntmps24
  go_wp2
  go_ret
  exact ⟨rfl, rfl⟩
theorem kin_18 (d n m a c i : Int) (w : World) : Calls Try.prog 5 #[.agg #[.int .i64 18, .int .i64 d, .int .i64 n, .int .i64 m, .int .i64 a, .int .i64 c, .int .i64 i]] w fun e w' => e = .returned (.bool true) ∧ Below w.heap.size w w' := by
  rcases h : ok_18 d n m a c i
  · exact kin_n 18 d n m a c i w (fun w => by have := check_18 d n m a c i w; rw [h] at this; exact this) (fun w => inn_18 d n m a c i w h) (fun w => outn_18 d n m a c i w h)
  · have h' := h
    have hr : 0 ≤ d ∧ d ≤ 31 ∧ 0 ≤ n ∧ n ≤ 31 ∧ 0 ≤ m ∧ m ≤ 31 := by
      simp [ok_18, wi] at h'
      omega
    refine kin_yd 18 d n m a c i [n, m] [d] (by simp) (by simp) (fun x hx => ?_) w (fun w => by have := check_18 d n m a c i w; rw [h] at this; exact this) (fun w => in_18 d n m a c i w h) (fun w => out_18 d n m a c i w h) memory_18 load_18 store_18 branch_18
    simp only [List.mem_append, mem_puts, List.mem_cons, List.not_mem_nil, or_false] at hx
    unfold good; omega
theorem store_19 (w : World) : Calls Try.prog 22 #[.int .i64 19] w fun e w' => e = .returned (.bool false) ∧ w' = w := by
  go_enter Try.func22, Try.ntmps22
  go_wp2
  go_ret
  exact ⟨rfl, rfl⟩
theorem branch_19 (w : World) : Calls Try.prog 24 #[.int .i64 19] w fun e w' => e = .returned (.bool false) ∧ w' = w := by
  go_enter Try.func24, Try.ntmps24
  go_wp2
  go_ret
  exact ⟨rfl, rfl⟩
theorem kin_19 (d n m a c i : Int) (w : World) : Calls Try.prog 5 #[.agg #[.int .i64 19, .int .i64 d, .int .i64 n, .int .i64 m, .int .i64 a, .int .i64 c, .int .i64 i]] w fun e w' => e = .returned (.bool true) ∧ Below w.heap.size w w' := by
  rcases h : ok_19 d n m a c i
  · exact kin_n 19 d n m a c i w (fun w => by have := check_19 d n m a c i w; rw [h] at this; exact this) (fun w => inn_19 d n m a c i w h) (fun w => outn_19 d n m a c i w h)
  · have h' := h
    have hr : 0 ≤ d ∧ d ≤ 31 ∧ 0 ≤ n ∧ n ≤ 31 ∧ 0 ≤ m ∧ m ≤ 31 := by
      simp [ok_19, wi] at h'
      omega
    refine kin_yd 19 d n m a c i [n, m, 33] [d] (by simp) (by simp) (fun x hx => ?_) w (fun w => by have := check_19 d n m a c i w; rw [h] at this; exact this) (fun w => in_19 d n m a c i w h) (fun w => out_19 d n m a c i w h) memory_19 load_19 store_19 branch_19
    simp only [List.mem_append, mem_puts, List.mem_cons, List.not_mem_nil, or_false] at hx
    unfold good; omega
theorem store_20 (w : World) : Calls Try.prog 22 #[.int .i64 20] w fun e w' => e = .returned (.bool false) ∧ w' = w := by
  go_enter Try.func22, Try.ntmps22
  go_wp2
  go_ret
  exact ⟨rfl, rfl⟩
theorem branch_20 (w : World) : Calls Try.prog 24 #[.int .i64 20] w fun e w' => e = .returned (.bool true) ∧ w' = w := by
  go_enter Try.func24, Try.ntmps24
  go_wp2
  go_ret
  exact ⟨rfl, rfl⟩
theorem kin_20 (d n m a c i : Int) (w : World) : Calls Try.prog 5 #[.agg #[.int .i64 20, .int .i64 d, .int .i64 n, .int .i64 m, .int .i64 a, .int .i64 c, .int .i64 i]] w fun e w' => e = .returned (.bool true) ∧ Below w.heap.size w w' := by
  rcases h : ok_20 d n m a c i
  · exact kin_n 20 d n m a c i w (fun w => by have := check_20 d n m a c i w; rw [h] at this; exact this) (fun w => inn_20 d n m a c i w h) (fun w => outn_20 d n m a c i w h)
  · have h' := h
    refine kin_yc 20 d n m a c i [] [] (by simp) (by simp) (fun x hx => ?_) w (fun w => by have := check_20 d n m a c i w; rw [h] at this; exact this) (fun w => in_20 d n m a c i w h) (fun w => out_20 d n m a c i w h) memory_20 load_20 store_20 branch_20
    simp [puts] at hx
theorem store_21 (w : World) : Calls Try.prog 22 #[.int .i64 21] w fun e w' => e = .returned (.bool false) ∧ w' = w := by
  go_enter Try.func22, Try.ntmps22
  go_wp2
  go_ret
  exact ⟨rfl, rfl⟩
theorem branch_21 (w : World) : Calls Try.prog 24 #[.int .i64 21] w fun e w' => e = .returned (.bool true) ∧ w' = w := by
  go_enter Try.func24, Try.ntmps24
  go_wp2
  go_ret
  exact ⟨rfl, rfl⟩
theorem kin_21 (d n m a c i : Int) (w : World) : Calls Try.prog 5 #[.agg #[.int .i64 21, .int .i64 d, .int .i64 n, .int .i64 m, .int .i64 a, .int .i64 c, .int .i64 i]] w fun e w' => e = .returned (.bool true) ∧ Below w.heap.size w w' := by
  rcases h : ok_21 d n m a c i
  · exact kin_n 21 d n m a c i w (fun w => by have := check_21 d n m a c i w; rw [h] at this; exact this) (fun w => inn_21 d n m a c i w h) (fun w => outn_21 d n m a c i w h)
  · have h' := h
    refine kin_yc 21 d n m a c i [33] [] (by simp) (by simp) (fun x hx => ?_) w (fun w => by have := check_21 d n m a c i w; rw [h] at this; exact this) (fun w => in_21 d n m a c i w h) (fun w => out_21 d n m a c i w h) memory_21 load_21 store_21 branch_21
    simp only [List.mem_append, mem_puts, List.mem_cons, List.not_mem_nil, or_false, and_false] at hx
    unfold good; omega
theorem store_22 (w : World) : Calls Try.prog 22 #[.int .i64 22] w fun e w' => e = .returned (.bool false) ∧ w' = w := by
  go_enter Try.func22, Try.ntmps22
  go_wp2
  go_ret
  exact ⟨rfl, rfl⟩
theorem branch_22 (w : World) : Calls Try.prog 24 #[.int .i64 22] w fun e w' => e = .returned (.bool true) ∧ w' = w := by
  go_enter Try.func24, Try.ntmps24
  go_wp2
  go_ret
  exact ⟨rfl, rfl⟩
theorem kin_22 (d n m a c i : Int) (w : World) : Calls Try.prog 5 #[.agg #[.int .i64 22, .int .i64 d, .int .i64 n, .int .i64 m, .int .i64 a, .int .i64 c, .int .i64 i]] w fun e w' => e = .returned (.bool true) ∧ Below w.heap.size w w' := by
  rcases h : ok_22 d n m a c i
  · exact kin_n 22 d n m a c i w (fun w => by have := check_22 d n m a c i w; rw [h] at this; exact this) (fun w => inn_22 d n m a c i w h) (fun w => outn_22 d n m a c i w h)
  · have h' := h
    have hr : 0 ≤ d ∧ d ≤ 31 := by
      simp [ok_22, wi] at h'
      omega
    refine kin_yc 22 d n m a c i [d] [] (by simp) (by simp) (fun x hx => ?_) w (fun w => by have := check_22 d n m a c i w; rw [h] at this; exact this) (fun w => in_22 d n m a c i w h) (fun w => out_22 d n m a c i w h) memory_22 load_22 store_22 branch_22
    simp only [List.mem_append, mem_puts, List.mem_cons, List.not_mem_nil, or_false, and_false] at hx
    unfold good; omega
theorem store_23 (w : World) : Calls Try.prog 22 #[.int .i64 23] w fun e w' => e = .returned (.bool false) ∧ w' = w := by
  go_enter Try.func22, Try.ntmps22
  go_wp2
  go_ret
  exact ⟨rfl, rfl⟩
theorem branch_23 (w : World) : Calls Try.prog 24 #[.int .i64 23] w fun e w' => e = .returned (.bool true) ∧ w' = w := by
  go_enter Try.func24, Try.ntmps24
  go_wp2
  go_ret
  exact ⟨rfl, rfl⟩
theorem kin_23 (d n m a c i : Int) (w : World) : Calls Try.prog 5 #[.agg #[.int .i64 23, .int .i64 d, .int .i64 n, .int .i64 m, .int .i64 a, .int .i64 c, .int .i64 i]] w fun e w' => e = .returned (.bool true) ∧ Below w.heap.size w w' := by
  rcases h : ok_23 d n m a c i
  · exact kin_n 23 d n m a c i w (fun w => by have := check_23 d n m a c i w; rw [h] at this; exact this) (fun w => inn_23 d n m a c i w h) (fun w => outn_23 d n m a c i w h)
  · have h' := h
    have hr : 0 ≤ d ∧ d ≤ 31 := by
      simp [ok_23, wi] at h'
      omega
    refine kin_yc 23 d n m a c i [d] [] (by simp) (by simp) (fun x hx => ?_) w (fun w => by have := check_23 d n m a c i w; rw [h] at this; exact this) (fun w => in_23 d n m a c i w h) (fun w => out_23 d n m a c i w h) memory_23 load_23 store_23 branch_23
    simp only [List.mem_append, mem_puts, List.mem_cons, List.not_mem_nil, or_false, and_false] at hx
    unfold good; omega
theorem store_24 (w : World) : Calls Try.prog 22 #[.int .i64 24] w fun e w' => e = .returned (.bool false) ∧ w' = w := by
  go_enter Try.func22, Try.ntmps22
  go_wp2
  go_ret
  exact ⟨rfl, rfl⟩
theorem branch_24 (w : World) : Calls Try.prog 24 #[.int .i64 24] w fun e w' => e = .returned (.bool true) ∧ w' = w := by
  go_enter Try.func24, Try.ntmps24
  go_wp2
  go_ret
  exact ⟨rfl, rfl⟩
theorem kin_24 (d n m a c i : Int) (w : World) : Calls Try.prog 5 #[.agg #[.int .i64 24, .int .i64 d, .int .i64 n, .int .i64 m, .int .i64 a, .int .i64 c, .int .i64 i]] w fun e w' => e = .returned (.bool true) ∧ Below w.heap.size w w' := by
  rcases h : ok_24 d n m a c i
  · exact kin_n 24 d n m a c i w (fun w => by have := check_24 d n m a c i w; rw [h] at this; exact this) (fun w => inn_24 d n m a c i w h) (fun w => outn_24 d n m a c i w h)
  · have h' := h
    refine kin_yc 24 d n m a c i [] [30] (by simp) (by simp) (fun x hx => ?_) w (fun w => by have := check_24 d n m a c i w; rw [h] at this; exact this) (fun w => in_24 d n m a c i w h) (fun w => out_24 d n m a c i w h) memory_24 load_24 store_24 branch_24
    simp only [List.mem_append, mem_puts, List.mem_cons, List.not_mem_nil, or_false, false_or, and_false] at hx
    unfold good; omega
theorem store_25 (w : World) : Calls Try.prog 22 #[.int .i64 25] w fun e w' => e = .returned (.bool false) ∧ w' = w := by
  go_enter Try.func22, Try.ntmps22
  go_wp2
  go_ret
  exact ⟨rfl, rfl⟩
theorem branch_25 (w : World) : Calls Try.prog 24 #[.int .i64 25] w fun e w' => e = .returned (.bool true) ∧ w' = w := by
  go_enter Try.func24, Try.ntmps24
  go_wp2
  go_ret
  exact ⟨rfl, rfl⟩
theorem kin_25 (d n m a c i : Int) (w : World) : Calls Try.prog 5 #[.agg #[.int .i64 25, .int .i64 d, .int .i64 n, .int .i64 m, .int .i64 a, .int .i64 c, .int .i64 i]] w fun e w' => e = .returned (.bool true) ∧ Below w.heap.size w w' := by
  rcases h : ok_25 d n m a c i
  · exact kin_n 25 d n m a c i w (fun w => by have := check_25 d n m a c i w; rw [h] at this; exact this) (fun w => inn_25 d n m a c i w h) (fun w => outn_25 d n m a c i w h)
  · have h' := h
    have hr : 0 ≤ n ∧ n ≤ 31 := by
      simp [ok_25, wi] at h'
      omega
    refine kin_yc 25 d n m a c i [n] [] (by simp) (by simp) (fun x hx => ?_) w (fun w => by have := check_25 d n m a c i w; rw [h] at this; exact this) (fun w => in_25 d n m a c i w h) (fun w => out_25 d n m a c i w h) memory_25 load_25 store_25 branch_25
    simp only [List.mem_append, mem_puts, List.mem_cons, List.not_mem_nil, or_false, and_false] at hx
    unfold good; omega
theorem store_26 (w : World) : Calls Try.prog 22 #[.int .i64 26] w fun e w' => e = .returned (.bool false) ∧ w' = w := by
  go_enter Try.func22, Try.ntmps22
  go_wp2
  go_ret
  exact ⟨rfl, rfl⟩
theorem branch_26 (w : World) : Calls Try.prog 24 #[.int .i64 26] w fun e w' => e = .returned (.bool true) ∧ w' = w := by
  go_enter Try.func24, Try.ntmps24
  go_wp2
  go_ret
  exact ⟨rfl, rfl⟩
theorem kin_26 (d n m a c i : Int) (w : World) : Calls Try.prog 5 #[.agg #[.int .i64 26, .int .i64 d, .int .i64 n, .int .i64 m, .int .i64 a, .int .i64 c, .int .i64 i]] w fun e w' => e = .returned (.bool true) ∧ Below w.heap.size w w' := by
  rcases h : ok_26 d n m a c i
  · exact kin_n 26 d n m a c i w (fun w => by have := check_26 d n m a c i w; rw [h] at this; exact this) (fun w => inn_26 d n m a c i w h) (fun w => outn_26 d n m a c i w h)
  · have h' := h
    have hr : 0 ≤ n ∧ n ≤ 31 := by
      simp [ok_26, wi] at h'
      omega
    refine kin_yc 26 d n m a c i [n] [30] (by simp) (by simp) (fun x hx => ?_) w (fun w => by have := check_26 d n m a c i w; rw [h] at this; exact this) (fun w => in_26 d n m a c i w h) (fun w => out_26 d n m a c i w h) memory_26 load_26 store_26 branch_26
    simp only [List.mem_append, mem_puts, List.mem_cons, List.not_mem_nil, or_false] at hx
    unfold good; omega
theorem store_27 (w : World) : Calls Try.prog 22 #[.int .i64 27] w fun e w' => e = .returned (.bool false) ∧ w' = w := by
  go_enter Try.func22, Try.ntmps22
  go_wp2
  go_ret
  exact ⟨rfl, rfl⟩
theorem branch_27 (w : World) : Calls Try.prog 24 #[.int .i64 27] w fun e w' => e = .returned (.bool true) ∧ w' = w := by
  go_enter Try.func24, Try.ntmps24
  go_wp2
  go_ret
  exact ⟨rfl, rfl⟩
theorem kin_27 (d n m a c i : Int) (w : World) : Calls Try.prog 5 #[.agg #[.int .i64 27, .int .i64 d, .int .i64 n, .int .i64 m, .int .i64 a, .int .i64 c, .int .i64 i]] w fun e w' => e = .returned (.bool true) ∧ Below w.heap.size w w' := by
  rcases h : ok_27 d n m a c i
  · exact kin_n 27 d n m a c i w (fun w => by have := check_27 d n m a c i w; rw [h] at this; exact this) (fun w => inn_27 d n m a c i w h) (fun w => outn_27 d n m a c i w h)
  · have h' := h
    have hr : 0 ≤ n ∧ n ≤ 31 := by
      simp [ok_27, wi] at h'
      omega
    refine kin_yc 27 d n m a c i [n] [] (by simp) (by simp) (fun x hx => ?_) w (fun w => by have := check_27 d n m a c i w; rw [h] at this; exact this) (fun w => in_27 d n m a c i w h) (fun w => out_27 d n m a c i w h) memory_27 load_27 store_27 branch_27
    simp only [List.mem_append, mem_puts, List.mem_cons, List.not_mem_nil, or_false, and_false] at hx
    unfold good; omega
theorem store_28 (w : World) : Calls Try.prog 22 #[.int .i64 28] w fun e w' => e = .returned (.bool false) ∧ w' = w := by
  go_enter Try.func22, Try.ntmps22
  go_wp2
  go_ret
  exact ⟨rfl, rfl⟩
theorem branch_28 (w : World) : Calls Try.prog 24 #[.int .i64 28] w fun e w' => e = .returned (.bool false) ∧ w' = w := by
  go_enter Try.func24, Try.ntmps24
  go_wp2
  go_ret
  exact ⟨rfl, rfl⟩
theorem kin_28 (d n m a c i : Int) (w : World) : Calls Try.prog 5 #[.agg #[.int .i64 28, .int .i64 d, .int .i64 n, .int .i64 m, .int .i64 a, .int .i64 c, .int .i64 i]] w fun e w' => e = .returned (.bool true) ∧ Below w.heap.size w w' := by
  rcases h : ok_28 d n m a c i
  · exact kin_n 28 d n m a c i w (fun w => by have := check_28 d n m a c i w; rw [h] at this; exact this) (fun w => inn_28 d n m a c i w h) (fun w => outn_28 d n m a c i w h)
  · have h' := h
    have hr : 0 ≤ d ∧ d ≤ 31 ∧ 0 ≤ n ∧ n ≤ 31 := by
      simp [ok_28, wi] at h'
      omega
    refine kin_ya 28 d n m a c i [(spOr n)] [d] (by simp) (by simp) (fun x hx => ?_) w (fun w => by have := check_28 d n m a c i w; rw [h] at this; exact this) (fun w => in_28 d n m a c i w h) (fun w => out_28 d n m a c i w h) memory_28 load_28 store_28 branch_28
    simp only [List.mem_append, mem_puts, List.mem_cons, List.not_mem_nil, or_false] at hx
    have hs0 := spOr_good 28 d n m a n (by omega) (by omega) (by simp)
    by_cases hq : x = (spOr n)
    · subst hq
      exact hs0
    · unfold good; omega
theorem store_29 (w : World) : Calls Try.prog 22 #[.int .i64 29] w fun e w' => e = .returned (.bool true) ∧ w' = w := by
  go_enter Try.func22, Try.ntmps22
  go_wp2
  go_ret
  exact ⟨rfl, rfl⟩
theorem branch_29 (w : World) : Calls Try.prog 24 #[.int .i64 29] w fun e w' => e = .returned (.bool false) ∧ w' = w := by
  go_enter Try.func24, Try.ntmps24
  go_wp2
  go_ret
  exact ⟨rfl, rfl⟩
theorem kin_29 (d n m a c i : Int) (w : World) : Calls Try.prog 5 #[.agg #[.int .i64 29, .int .i64 d, .int .i64 n, .int .i64 m, .int .i64 a, .int .i64 c, .int .i64 i]] w fun e w' => e = .returned (.bool true) ∧ Below w.heap.size w w' := by
  rcases h : ok_29 d n m a c i
  · exact kin_n 29 d n m a c i w (fun w => by have := check_29 d n m a c i w; rw [h] at this; exact this) (fun w => inn_29 d n m a c i w h) (fun w => outn_29 d n m a c i w h)
  · have h' := h
    have hr : 0 ≤ d ∧ d ≤ 31 ∧ 0 ≤ n ∧ n ≤ 31 := by
      simp [ok_29, wi] at h'
      omega
    refine kin_yb 29 d n m a c i [d, (spOr n)] [] (by simp) (by simp) (fun x hx => ?_) w (fun w => by have := check_29 d n m a c i w; rw [h] at this; exact this) (fun w => in_29 d n m a c i w h) (fun w => out_29 d n m a c i w h) memory_29 load_29 store_29 branch_29
    simp only [List.mem_append, mem_puts, List.mem_cons, List.not_mem_nil, or_false, and_false] at hx
    have hs0 := spOr_good 29 d n m a n (by omega) (by omega) (by simp)
    by_cases hq : x = (spOr n)
    · subst hq
      exact hs0
    · unfold good; omega
theorem store_30 (w : World) : Calls Try.prog 22 #[.int .i64 30] w fun e w' => e = .returned (.bool false) ∧ w' = w := by
  go_enter Try.func22, Try.ntmps22
  go_wp2
  go_ret
  exact ⟨rfl, rfl⟩
theorem branch_30 (w : World) : Calls Try.prog 24 #[.int .i64 30] w fun e w' => e = .returned (.bool false) ∧ w' = w := by
  go_enter Try.func24, Try.ntmps24
  go_wp2
  go_ret
  exact ⟨rfl, rfl⟩
theorem kin_30 (d n m a c i : Int) (w : World) : Calls Try.prog 5 #[.agg #[.int .i64 30, .int .i64 d, .int .i64 n, .int .i64 m, .int .i64 a, .int .i64 c, .int .i64 i]] w fun e w' => e = .returned (.bool true) ∧ Below w.heap.size w w' := by
  rcases h : ok_30 d n m a c i
  · exact kin_n 30 d n m a c i w (fun w => by have := check_30 d n m a c i w; rw [h] at this; exact this) (fun w => inn_30 d n m a c i w h) (fun w => outn_30 d n m a c i w h)
  · have h' := h
    have hr : 0 ≤ d ∧ d ≤ 31 ∧ 0 ≤ n ∧ n ≤ 31 := by
      simp [ok_30, wi] at h'
      omega
    refine kin_ya 30 d n m a c i [(spOr n)] [d] (by simp) (by simp) (fun x hx => ?_) w (fun w => by have := check_30 d n m a c i w; rw [h] at this; exact this) (fun w => in_30 d n m a c i w h) (fun w => out_30 d n m a c i w h) memory_30 load_30 store_30 branch_30
    simp only [List.mem_append, mem_puts, List.mem_cons, List.not_mem_nil, or_false] at hx
    have hs0 := spOr_good 30 d n m a n (by omega) (by omega) (by simp)
    by_cases hq : x = (spOr n)
    · subst hq
      exact hs0
    · unfold good; omega
theorem store_31 (w : World) : Calls Try.prog 22 #[.int .i64 31] w fun e w' => e = .returned (.bool false) ∧ w' = w := by
  go_enter Try.func22, Try.ntmps22
  go_wp2
  go_ret
  exact ⟨rfl, rfl⟩
theorem branch_31 (w : World) : Calls Try.prog 24 #[.int .i64 31] w fun e w' => e = .returned (.bool false) ∧ w' = w := by
  go_enter Try.func24, Try.ntmps24
  go_wp2
  go_ret
  exact ⟨rfl, rfl⟩
theorem kin_31 (d n m a c i : Int) (w : World) : Calls Try.prog 5 #[.agg #[.int .i64 31, .int .i64 d, .int .i64 n, .int .i64 m, .int .i64 a, .int .i64 c, .int .i64 i]] w fun e w' => e = .returned (.bool true) ∧ Below w.heap.size w w' := by
  rcases h : ok_31 d n m a c i
  · exact kin_n 31 d n m a c i w (fun w => by have := check_31 d n m a c i w; rw [h] at this; exact this) (fun w => inn_31 d n m a c i w h) (fun w => outn_31 d n m a c i w h)
  · have h' := h
    have hr : 0 ≤ d ∧ d ≤ 31 ∧ 0 ≤ n ∧ n ≤ 31 ∧ 0 ≤ m ∧ m ≤ 31 := by
      simp [ok_31, wi] at h'
      omega
    refine kin_ya 31 d n m a c i [(spOr n), m] [d] (by simp) (by simp) (fun x hx => ?_) w (fun w => by have := check_31 d n m a c i w; rw [h] at this; exact this) (fun w => in_31 d n m a c i w h) (fun w => out_31 d n m a c i w h) memory_31 load_31 store_31 branch_31
    simp only [List.mem_append, mem_puts, List.mem_cons, List.not_mem_nil, or_false] at hx
    have hs0 := spOr_good 31 d n m a n (by omega) (by omega) (by simp)
    by_cases hq : x = (spOr n)
    · subst hq
      exact hs0
    · unfold good; omega
theorem store_32 (w : World) : Calls Try.prog 22 #[.int .i64 32] w fun e w' => e = .returned (.bool true) ∧ w' = w := by
  go_enter Try.func22, Try.ntmps22
  go_wp2
  go_ret
  exact ⟨rfl, rfl⟩
theorem branch_32 (w : World) : Calls Try.prog 24 #[.int .i64 32] w fun e w' => e = .returned (.bool false) ∧ w' = w := by
  go_enter Try.func24, Try.ntmps24
  go_wp2
  go_ret
  exact ⟨rfl, rfl⟩
theorem kin_32 (d n m a c i : Int) (w : World) : Calls Try.prog 5 #[.agg #[.int .i64 32, .int .i64 d, .int .i64 n, .int .i64 m, .int .i64 a, .int .i64 c, .int .i64 i]] w fun e w' => e = .returned (.bool true) ∧ Below w.heap.size w w' := by
  rcases h : ok_32 d n m a c i
  · exact kin_n 32 d n m a c i w (fun w => by have := check_32 d n m a c i w; rw [h] at this; exact this) (fun w => inn_32 d n m a c i w h) (fun w => outn_32 d n m a c i w h)
  · have h' := h
    have hr : 0 ≤ d ∧ d ≤ 31 ∧ 0 ≤ n ∧ n ≤ 31 ∧ 0 ≤ m ∧ m ≤ 31 := by
      simp [ok_32, wi] at h'
      omega
    refine kin_yb 32 d n m a c i [d, (spOr n), m] [] (by simp) (by simp) (fun x hx => ?_) w (fun w => by have := check_32 d n m a c i w; rw [h] at this; exact this) (fun w => in_32 d n m a c i w h) (fun w => out_32 d n m a c i w h) memory_32 load_32 store_32 branch_32
    simp only [List.mem_append, mem_puts, List.mem_cons, List.not_mem_nil, or_false, and_false] at hx
    have hs0 := spOr_good 32 d n m a n (by omega) (by omega) (by simp)
    by_cases hq : x = (spOr n)
    · subst hq
      exact hs0
    · unfold good; omega
theorem store_33 (w : World) : Calls Try.prog 22 #[.int .i64 33] w fun e w' => e = .returned (.bool false) ∧ w' = w := by
  go_enter Try.func22, Try.ntmps22
  go_wp2
  go_ret
  exact ⟨rfl, rfl⟩
theorem branch_33 (w : World) : Calls Try.prog 24 #[.int .i64 33] w fun e w' => e = .returned (.bool false) ∧ w' = w := by
  go_enter Try.func24, Try.ntmps24
  go_wp2
  go_ret
  exact ⟨rfl, rfl⟩
theorem kin_33 (d n m a c i : Int) (w : World) : Calls Try.prog 5 #[.agg #[.int .i64 33, .int .i64 d, .int .i64 n, .int .i64 m, .int .i64 a, .int .i64 c, .int .i64 i]] w fun e w' => e = .returned (.bool true) ∧ Below w.heap.size w w' := by
  rcases h : ok_33 d n m a c i
  · exact kin_n 33 d n m a c i w (fun w => by have := check_33 d n m a c i w; rw [h] at this; exact this) (fun w => inn_33 d n m a c i w h) (fun w => outn_33 d n m a c i w h)
  · have h' := h
    have hr : 0 ≤ d ∧ d ≤ 31 ∧ 0 ≤ n ∧ n ≤ 31 := by
      simp [ok_33, wi] at h'
      omega
    refine kin_ya 33 d n m a c i [(spOr n)] [d] (by simp) (by simp) (fun x hx => ?_) w (fun w => by have := check_33 d n m a c i w; rw [h] at this; exact this) (fun w => in_33 d n m a c i w h) (fun w => out_33 d n m a c i w h) memory_33 load_33 store_33 branch_33
    simp only [List.mem_append, mem_puts, List.mem_cons, List.not_mem_nil, or_false] at hx
    have hs0 := spOr_good 33 d n m a n (by omega) (by omega) (by simp)
    by_cases hq : x = (spOr n)
    · subst hq
      exact hs0
    · unfold good; omega
theorem store_34 (w : World) : Calls Try.prog 22 #[.int .i64 34] w fun e w' => e = .returned (.bool true) ∧ w' = w := by
  go_enter Try.func22, Try.ntmps22
  go_wp2
  go_ret
  exact ⟨rfl, rfl⟩
theorem branch_34 (w : World) : Calls Try.prog 24 #[.int .i64 34] w fun e w' => e = .returned (.bool false) ∧ w' = w := by
  go_enter Try.func24, Try.ntmps24
  go_wp2
  go_ret
  exact ⟨rfl, rfl⟩
theorem kin_34 (d n m a c i : Int) (w : World) : Calls Try.prog 5 #[.agg #[.int .i64 34, .int .i64 d, .int .i64 n, .int .i64 m, .int .i64 a, .int .i64 c, .int .i64 i]] w fun e w' => e = .returned (.bool true) ∧ Below w.heap.size w w' := by
  rcases h : ok_34 d n m a c i
  · exact kin_n 34 d n m a c i w (fun w => by have := check_34 d n m a c i w; rw [h] at this; exact this) (fun w => inn_34 d n m a c i w h) (fun w => outn_34 d n m a c i w h)
  · have h' := h
    have hr : 0 ≤ d ∧ d ≤ 31 ∧ 0 ≤ n ∧ n ≤ 31 := by
      simp [ok_34, wi] at h'
      omega
    refine kin_yb 34 d n m a c i [d, (spOr n)] [] (by simp) (by simp) (fun x hx => ?_) w (fun w => by have := check_34 d n m a c i w; rw [h] at this; exact this) (fun w => in_34 d n m a c i w h) (fun w => out_34 d n m a c i w h) memory_34 load_34 store_34 branch_34
    simp only [List.mem_append, mem_puts, List.mem_cons, List.not_mem_nil, or_false, and_false] at hx
    have hs0 := spOr_good 34 d n m a n (by omega) (by omega) (by simp)
    by_cases hq : x = (spOr n)
    · subst hq
      exact hs0
    · unfold good; omega
theorem store_35 (w : World) : Calls Try.prog 22 #[.int .i64 35] w fun e w' => e = .returned (.bool false) ∧ w' = w := by
  go_enter Try.func22, Try.ntmps22
  go_wp2
  go_ret
  exact ⟨rfl, rfl⟩
theorem branch_35 (w : World) : Calls Try.prog 24 #[.int .i64 35] w fun e w' => e = .returned (.bool false) ∧ w' = w := by
  go_enter Try.func24, Try.ntmps24
  go_wp2
  go_ret
  exact ⟨rfl, rfl⟩
theorem kin_35 (d n m a c i : Int) (w : World) : Calls Try.prog 5 #[.agg #[.int .i64 35, .int .i64 d, .int .i64 n, .int .i64 m, .int .i64 a, .int .i64 c, .int .i64 i]] w fun e w' => e = .returned (.bool true) ∧ Below w.heap.size w w' := by
  rcases h : ok_35 d n m a c i
  · exact kin_n 35 d n m a c i w (fun w => by have := check_35 d n m a c i w; rw [h] at this; exact this) (fun w => inn_35 d n m a c i w h) (fun w => outn_35 d n m a c i w h)
  · have h' := h
    have hr : 0 ≤ d ∧ d ≤ 31 ∧ 0 ≤ n ∧ n ≤ 31 := by
      simp [ok_35, wi] at h'
      omega
    refine kin_ya 35 d n m a c i [(spOr n)] [d] (by simp) (by simp) (fun x hx => ?_) w (fun w => by have := check_35 d n m a c i w; rw [h] at this; exact this) (fun w => in_35 d n m a c i w h) (fun w => out_35 d n m a c i w h) memory_35 load_35 store_35 branch_35
    simp only [List.mem_append, mem_puts, List.mem_cons, List.not_mem_nil, or_false] at hx
    have hs0 := spOr_good 35 d n m a n (by omega) (by omega) (by simp)
    by_cases hq : x = (spOr n)
    · subst hq
      exact hs0
    · unfold good; omega
theorem store_36 (w : World) : Calls Try.prog 22 #[.int .i64 36] w fun e w' => e = .returned (.bool true) ∧ w' = w := by
  go_enter Try.func22, Try.ntmps22
  go_wp2
  go_ret
  exact ⟨rfl, rfl⟩
theorem branch_36 (w : World) : Calls Try.prog 24 #[.int .i64 36] w fun e w' => e = .returned (.bool false) ∧ w' = w := by
  go_enter Try.func24, Try.ntmps24
  go_wp2
  go_ret
  exact ⟨rfl, rfl⟩
theorem kin_36 (d n m a c i : Int) (w : World) : Calls Try.prog 5 #[.agg #[.int .i64 36, .int .i64 d, .int .i64 n, .int .i64 m, .int .i64 a, .int .i64 c, .int .i64 i]] w fun e w' => e = .returned (.bool true) ∧ Below w.heap.size w w' := by
  rcases h : ok_36 d n m a c i
  · exact kin_n 36 d n m a c i w (fun w => by have := check_36 d n m a c i w; rw [h] at this; exact this) (fun w => inn_36 d n m a c i w h) (fun w => outn_36 d n m a c i w h)
  · have h' := h
    have hr : 0 ≤ d ∧ d ≤ 31 ∧ 0 ≤ n ∧ n ≤ 31 ∧ 0 ≤ m ∧ m ≤ 31 := by
      simp [ok_36, wi] at h'
      omega
    refine kin_yb 36 d n m a c i [(spOr n), m] [d] (by simp) (by simp) (fun x hx => ?_) w (fun w => by have := check_36 d n m a c i w; rw [h] at this; exact this) (fun w => in_36 d n m a c i w h) (fun w => out_36 d n m a c i w h) memory_36 load_36 store_36 branch_36
    simp only [List.mem_append, mem_puts, List.mem_cons, List.not_mem_nil, or_false] at hx
    have hs0 := spOr_good 36 d n m a n (by omega) (by omega) (by simp)
    by_cases hq : x = (spOr n)
    · subst hq
      exact hs0
    · unfold good; omega
theorem store_37 (w : World) : Calls Try.prog 22 #[.int .i64 37] w fun e w' => e = .returned (.bool false) ∧ w' = w := by
  go_enter Try.func22, Try.ntmps22
  go_wp2
  go_ret
  exact ⟨rfl, rfl⟩
theorem branch_37 (w : World) : Calls Try.prog 24 #[.int .i64 37] w fun e w' => e = .returned (.bool false) ∧ w' = w := by
  go_enter Try.func24, Try.ntmps24
  go_wp2
  go_ret
  exact ⟨rfl, rfl⟩
theorem kin_37 (d n m a c i : Int) (w : World) : Calls Try.prog 5 #[.agg #[.int .i64 37, .int .i64 d, .int .i64 n, .int .i64 m, .int .i64 a, .int .i64 c, .int .i64 i]] w fun e w' => e = .returned (.bool true) ∧ Below w.heap.size w w' := by
  rcases h : ok_37 d n m a c i
  · exact kin_n 37 d n m a c i w (fun w => by have := check_37 d n m a c i w; rw [h] at this; exact this) (fun w => inn_37 d n m a c i w h) (fun w => outn_37 d n m a c i w h)
  · have h' := h
    refine kin_yd 37 d n m a c i [] [] (by simp) (by simp) (fun x hx => ?_) w (fun w => by have := check_37 d n m a c i w; rw [h] at this; exact this) (fun w => in_37 d n m a c i w h) (fun w => out_37 d n m a c i w h) memory_37 load_37 store_37 branch_37
    simp [puts] at hx
theorem store_38 (w : World) : Calls Try.prog 22 #[.int .i64 38] w fun e w' => e = .returned (.bool false) ∧ w' = w := by
  go_enter Try.func22, Try.ntmps22
  go_wp2
  go_ret
  exact ⟨rfl, rfl⟩
theorem branch_38 (w : World) : Calls Try.prog 24 #[.int .i64 38] w fun e w' => e = .returned (.bool false) ∧ w' = w := by
  go_enter Try.func24, Try.ntmps24
  go_wp2
  go_ret
  exact ⟨rfl, rfl⟩
theorem kin_38 (d n m a c i : Int) (w : World) : Calls Try.prog 5 #[.agg #[.int .i64 38, .int .i64 d, .int .i64 n, .int .i64 m, .int .i64 a, .int .i64 c, .int .i64 i]] w fun e w' => e = .returned (.bool true) ∧ Below w.heap.size w w' := by
  rcases h : ok_38 d n m a c i
  · exact kin_n 38 d n m a c i w (fun w => by have := check_38 d n m a c i w; rw [h] at this; exact this) (fun w => inn_38 d n m a c i w h) (fun w => outn_38 d n m a c i w h)
  · have h' := h
    refine kin_yd 38 d n m a c i [] [] (by simp) (by simp) (fun x hx => ?_) w (fun w => by have := check_38 d n m a c i w; rw [h] at this; exact this) (fun w => in_38 d n m a c i w h) (fun w => out_38 d n m a c i w h) memory_38 load_38 store_38 branch_38
    simp [puts] at hx
theorem store_39 (w : World) : Calls Try.prog 22 #[.int .i64 39] w fun e w' => e = .returned (.bool false) ∧ w' = w := by
  go_enter Try.func22, Try.ntmps22
  go_wp2
  go_ret
  exact ⟨rfl, rfl⟩
theorem branch_39 (w : World) : Calls Try.prog 24 #[.int .i64 39] w fun e w' => e = .returned (.bool false) ∧ w' = w := by
  go_enter Try.func24, Try.ntmps24
  go_wp2
  go_ret
  exact ⟨rfl, rfl⟩
theorem kin_39 (d n m a c i : Int) (w : World) : Calls Try.prog 5 #[.agg #[.int .i64 39, .int .i64 d, .int .i64 n, .int .i64 m, .int .i64 a, .int .i64 c, .int .i64 i]] w fun e w' => e = .returned (.bool true) ∧ Below w.heap.size w w' := by
  rcases h : ok_39 d n m a c i
  · exact kin_n 39 d n m a c i w (fun w => by have := check_39 d n m a c i w; rw [h] at this; exact this) (fun w => inn_39 d n m a c i w h) (fun w => outn_39 d n m a c i w h)
  · have h' := h
    refine kin_yd 39 d n m a c i [] [] (by simp) (by simp) (fun x hx => ?_) w (fun w => by have := check_39 d n m a c i w; rw [h] at this; exact this) (fun w => in_39 d n m a c i w h) (fun w => out_39 d n m a c i w h) memory_39 load_39 store_39 branch_39
    simp [puts] at hx
theorem store_40 (w : World) : Calls Try.prog 22 #[.int .i64 40] w fun e w' => e = .returned (.bool false) ∧ w' = w := by
  go_enter Try.func22, Try.ntmps22
  go_wp2
  go_ret
  exact ⟨rfl, rfl⟩
theorem branch_40 (w : World) : Calls Try.prog 24 #[.int .i64 40] w fun e w' => e = .returned (.bool false) ∧ w' = w := by
  go_enter Try.func24, Try.ntmps24
  go_wp2
  go_ret
  exact ⟨rfl, rfl⟩
theorem kin_40 (d n m a c i : Int) (w : World) : Calls Try.prog 5 #[.agg #[.int .i64 40, .int .i64 d, .int .i64 n, .int .i64 m, .int .i64 a, .int .i64 c, .int .i64 i]] w fun e w' => e = .returned (.bool true) ∧ Below w.heap.size w w' := by
  rcases h : ok_40 d n m a c i
  · exact kin_n 40 d n m a c i w (fun w => by have := check_40 d n m a c i w; rw [h] at this; exact this) (fun w => inn_40 d n m a c i w h) (fun w => outn_40 d n m a c i w h)
  · have h' := h
    have hr : 0 ≤ n ∧ n ≤ 31 := by
      simp [ok_40, wi] at h'
      omega
    refine kin_yd 40 d n m a c i [n] [] (by simp) (by simp) (fun x hx => ?_) w (fun w => by have := check_40 d n m a c i w; rw [h] at this; exact this) (fun w => in_40 d n m a c i w h) (fun w => out_40 d n m a c i w h) memory_40 load_40 store_40 branch_40
    simp only [List.mem_append, mem_puts, List.mem_cons, List.not_mem_nil, or_false, and_false] at hx
    unfold good; omega
theorem store_41 (w : World) : Calls Try.prog 22 #[.int .i64 41] w fun e w' => e = .returned (.bool false) ∧ w' = w := by
  go_enter Try.func22, Try.ntmps22
  go_wp2
  go_ret
  exact ⟨rfl, rfl⟩
theorem branch_41 (w : World) : Calls Try.prog 24 #[.int .i64 41] w fun e w' => e = .returned (.bool false) ∧ w' = w := by
  go_enter Try.func24, Try.ntmps24
  go_wp2
  go_ret
  exact ⟨rfl, rfl⟩
theorem kin_41 (d n m a c i : Int) (w : World) : Calls Try.prog 5 #[.agg #[.int .i64 41, .int .i64 d, .int .i64 n, .int .i64 m, .int .i64 a, .int .i64 c, .int .i64 i]] w fun e w' => e = .returned (.bool true) ∧ Below w.heap.size w w' := by
  rcases h : ok_41 d n m a c i
  · exact kin_n 41 d n m a c i w (fun w => by have := check_41 d n m a c i w; rw [h] at this; exact this) (fun w => inn_41 d n m a c i w h) (fun w => outn_41 d n m a c i w h)
  · have h' := h
    have hr : 0 ≤ n ∧ n ≤ 31 := by
      simp [ok_41, wi] at h'
      omega
    refine kin_yd 41 d n m a c i [n] [] (by simp) (by simp) (fun x hx => ?_) w (fun w => by have := check_41 d n m a c i w; rw [h] at this; exact this) (fun w => in_41 d n m a c i w h) (fun w => out_41 d n m a c i w h) memory_41 load_41 store_41 branch_41
    simp only [List.mem_append, mem_puts, List.mem_cons, List.not_mem_nil, or_false, and_false] at hx
    unfold good; omega
theorem store_42 (w : World) : Calls Try.prog 22 #[.int .i64 42] w fun e w' => e = .returned (.bool false) ∧ w' = w := by
  go_enter Try.func22, Try.ntmps22
  go_wp2
  go_ret
  exact ⟨rfl, rfl⟩
theorem branch_42 (w : World) : Calls Try.prog 24 #[.int .i64 42] w fun e w' => e = .returned (.bool false) ∧ w' = w := by
  go_enter Try.func24, Try.ntmps24
  go_wp2
  go_ret
  exact ⟨rfl, rfl⟩
theorem kin_42 (d n m a c i : Int) (w : World) : Calls Try.prog 5 #[.agg #[.int .i64 42, .int .i64 d, .int .i64 n, .int .i64 m, .int .i64 a, .int .i64 c, .int .i64 i]] w fun e w' => e = .returned (.bool true) ∧ Below w.heap.size w w' := by
  rcases h : ok_42 d n m a c i
  · exact kin_n 42 d n m a c i w (fun w => by have := check_42 d n m a c i w; rw [h] at this; exact this) (fun w => inn_42 d n m a c i w h) (fun w => outn_42 d n m a c i w h)
  · have h' := h
    refine kin_yd 42 d n m a c i [] [] (by simp) (by simp) (fun x hx => ?_) w (fun w => by have := check_42 d n m a c i w; rw [h] at this; exact this) (fun w => in_42 d n m a c i w h) (fun w => out_42 d n m a c i w h) memory_42 load_42 store_42 branch_42
    simp [puts] at hx
theorem kin_any (op d n m a c i : Int) (w : World) : Calls Try.prog 5 #[.agg #[.int .i64 op, .int .i64 d, .int .i64 n, .int .i64 m, .int .i64 a, .int .i64 c, .int .i64 i]] w fun e w' => e = .returned (.bool true) ∧ Below w.heap.size w w' := by
  by_cases h : 0 ≤ op ∧ op ≤ 42
  · have : op = 0 ∨ op = 1 ∨ op = 2 ∨ op = 3 ∨ op = 4 ∨ op = 5 ∨ op = 6 ∨ op = 7 ∨ op = 8 ∨ op = 9 ∨ op = 10 ∨ op = 11 ∨ op = 12 ∨ op = 13 ∨ op = 14 ∨ op = 15 ∨ op = 16 ∨ op = 17 ∨ op = 18 ∨ op = 19 ∨ op = 20 ∨ op = 21 ∨ op = 22 ∨ op = 23 ∨ op = 24 ∨ op = 25 ∨ op = 26 ∨ op = 27 ∨ op = 28 ∨ op = 29 ∨ op = 30 ∨ op = 31 ∨ op = 32 ∨ op = 33 ∨ op = 34 ∨ op = 35 ∨ op = 36 ∨ op = 37 ∨ op = 38 ∨ op = 39 ∨ op = 40 ∨ op = 41 ∨ op = 42 := by omega
    rcases this with rfl | rfl | rfl | rfl | rfl | rfl | rfl | rfl | rfl | rfl | rfl | rfl | rfl | rfl | rfl | rfl | rfl | rfl | rfl | rfl | rfl | rfl | rfl | rfl | rfl | rfl | rfl | rfl | rfl | rfl | rfl | rfl | rfl | rfl | rfl | rfl | rfl | rfl | rfl | rfl | rfl | rfl | rfl
    · exact kin_0 d n m a c i w
    · exact kin_1 d n m a c i w
    · exact kin_2 d n m a c i w
    · exact kin_3 d n m a c i w
    · exact kin_4 d n m a c i w
    · exact kin_5 d n m a c i w
    · exact kin_6 d n m a c i w
    · exact kin_7 d n m a c i w
    · exact kin_8 d n m a c i w
    · exact kin_9 d n m a c i w
    · exact kin_10 d n m a c i w
    · exact kin_11 d n m a c i w
    · exact kin_12 d n m a c i w
    · exact kin_13 d n m a c i w
    · exact kin_14 d n m a c i w
    · exact kin_15 d n m a c i w
    · exact kin_16 d n m a c i w
    · exact kin_17 d n m a c i w
    · exact kin_18 d n m a c i w
    · exact kin_19 d n m a c i w
    · exact kin_20 d n m a c i w
    · exact kin_21 d n m a c i w
    · exact kin_22 d n m a c i w
    · exact kin_23 d n m a c i w
    · exact kin_24 d n m a c i w
    · exact kin_25 d n m a c i w
    · exact kin_26 d n m a c i w
    · exact kin_27 d n m a c i w
    · exact kin_28 d n m a c i w
    · exact kin_29 d n m a c i w
    · exact kin_30 d n m a c i w
    · exact kin_31 d n m a c i w
    · exact kin_32 d n m a c i w
    · exact kin_33 d n m a c i w
    · exact kin_34 d n m a c i w
    · exact kin_35 d n m a c i w
    · exact kin_36 d n m a c i w
    · exact kin_37 d n m a c i w
    · exact kin_38 d n m a c i w
    · exact kin_39 d n m a c i w
    · exact kin_40 d n m a c i w
    · exact kin_41 d n m a c i w
    · exact kin_42 d n m a c i w
  · exact kin_n op d n m a c i w (fun w => check_non op d n m a c i 0 w (fun w => isop_n op w (by omega))) (fun w => a64n_in op d n m a c i w (by omega)) (fun w => a64n_out op d n m a c i w (by omega))
end Go.Proofs.Ytejdlhafdnpcmaa
