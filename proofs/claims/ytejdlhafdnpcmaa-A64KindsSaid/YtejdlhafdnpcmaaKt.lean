import Derived.Test.YtejdlhafdnpcmaaKs
import Derived.Test.YtejdlhafdnpcmaaKm
import Derived.Test.YtejdlhafdnpcmaaRfL
import Derived.Test.YtejdlhafdnpcmaaNa
import Derived.Test.YtejdlhafdnpcmaaNb
import Derived.Test.YtejdlhafdnpcmaaNc
import Derived.Test.YtejdlhafdnpcmaaNd
namespace Go.Proofs.Ytejdlhafdnpcmaa
open Go.RowKit
set_option linter.unusedVariables false
theorem rstore_0 (w : World) : Calls Try.prog 23 #[.int .i64 0] w fun e w' => e = .returned (.bool false) ∧ w' = w := by
  go_enter Try.func23, Try.ntmps23
  go_wp2
  go_ret
  exact ⟨rfl, rfl⟩
theorem rbranch_0 (w : World) : Calls Try.prog 25 #[.int .i64 0] w fun e w' => e = .returned (.bool false) ∧ w' = w := by
  go_enter Try.func25, Try.ntmps25
  go_wp2
  go_ret
  exact ⟨rfl, rfl⟩
theorem known_0 (w : World) : Calls Try.prog 26 #[.int .i64 0] w fun e w' => e = .returned (.bool true) ∧ w' = w := by
  go_enter Try.func26, Try.ntmps26
  go_wp2_with (go_at_call 24; refine (branch_0 _).mono ?_; rintro e w' ⟨rfl, rfl⟩)
  go_ret
  exact ⟨rfl, rfl⟩
theorem rknown_0 (w : World) : Calls Try.prog 27 #[.int .i64 0] w fun e w' => e = .returned (.bool true) ∧ w' = w := by
  go_enter Try.func27, Try.ntmps27
  go_wp2_with (go_at_call 25; refine (rbranch_0 _).mono ?_; rintro e w' ⟨rfl, rfl⟩)
  go_ret
  exact ⟨rfl, rfl⟩
theorem kinds_0 (stop : Int) (w : World) : Calls Try.prog 4 #[.int .i64 0, .int .i64 stop] w fun e w' => e = .returned (.bool true) ∧ Below w.heap.size w w' :=
  kinds_y 0 stop false false false false true w (by decide) (by decide) memory_0 rmem_0 load_0 rload_0 store_0 rstore_0 branch_0 rbranch_0 known_0 rknown_0 rname_0
theorem rstore_1 (w : World) : Calls Try.prog 23 #[.int .i64 1] w fun e w' => e = .returned (.bool false) ∧ w' = w := by
  go_enter Try.func23, Try.ntmps23
  go_wp2
  go_ret
  exact ⟨rfl, rfl⟩
theorem rbranch_1 (w : World) : Calls Try.prog 25 #[.int .i64 1] w fun e w' => e = .returned (.bool false) ∧ w' = w := by
  go_enter Try.func25, Try.ntmps25
  go_wp2
  go_ret
  exact ⟨rfl, rfl⟩
theorem known_1 (w : World) : Calls Try.prog 26 #[.int .i64 1] w fun e w' => e = .returned (.bool true) ∧ w' = w := by
  go_enter Try.func26, Try.ntmps26
  go_wp2_with (go_at_call 24; refine (branch_1 _).mono ?_; rintro e w' ⟨rfl, rfl⟩)
  go_ret
  exact ⟨rfl, rfl⟩
theorem rknown_1 (w : World) : Calls Try.prog 27 #[.int .i64 1] w fun e w' => e = .returned (.bool true) ∧ w' = w := by
  go_enter Try.func27, Try.ntmps27
  go_wp2_with (go_at_call 25; refine (rbranch_1 _).mono ?_; rintro e w' ⟨rfl, rfl⟩)
  go_ret
  exact ⟨rfl, rfl⟩
theorem kinds_1 (stop : Int) (w : World) : Calls Try.prog 4 #[.int .i64 1, .int .i64 stop] w fun e w' => e = .returned (.bool true) ∧ Below w.heap.size w w' :=
  kinds_y 1 stop false false false false true w (by decide) (by decide) memory_1 rmem_1 load_1 rload_1 store_1 rstore_1 branch_1 rbranch_1 known_1 rknown_1 rname_1
theorem rstore_2 (w : World) : Calls Try.prog 23 #[.int .i64 2] w fun e w' => e = .returned (.bool false) ∧ w' = w := by
  go_enter Try.func23, Try.ntmps23
  go_wp2
  go_ret
  exact ⟨rfl, rfl⟩
theorem rbranch_2 (w : World) : Calls Try.prog 25 #[.int .i64 2] w fun e w' => e = .returned (.bool false) ∧ w' = w := by
  go_enter Try.func25, Try.ntmps25
  go_wp2
  go_ret
  exact ⟨rfl, rfl⟩
theorem known_2 (w : World) : Calls Try.prog 26 #[.int .i64 2] w fun e w' => e = .returned (.bool true) ∧ w' = w := by
  go_enter Try.func26, Try.ntmps26
  go_wp2_with (go_at_call 24; refine (branch_2 _).mono ?_; rintro e w' ⟨rfl, rfl⟩)
  go_ret
  exact ⟨rfl, rfl⟩
theorem rknown_2 (w : World) : Calls Try.prog 27 #[.int .i64 2] w fun e w' => e = .returned (.bool true) ∧ w' = w := by
  go_enter Try.func27, Try.ntmps27
  go_wp2_with (go_at_call 25; refine (rbranch_2 _).mono ?_; rintro e w' ⟨rfl, rfl⟩)
  go_ret
  exact ⟨rfl, rfl⟩
theorem kinds_2 (stop : Int) (w : World) : Calls Try.prog 4 #[.int .i64 2, .int .i64 stop] w fun e w' => e = .returned (.bool true) ∧ Below w.heap.size w w' :=
  kinds_y 2 stop false false false false true w (by decide) (by decide) memory_2 rmem_2 load_2 rload_2 store_2 rstore_2 branch_2 rbranch_2 known_2 rknown_2 rname_2
theorem rstore_3 (w : World) : Calls Try.prog 23 #[.int .i64 3] w fun e w' => e = .returned (.bool false) ∧ w' = w := by
  go_enter Try.func23, Try.ntmps23
  go_wp2
  go_ret
  exact ⟨rfl, rfl⟩
theorem rbranch_3 (w : World) : Calls Try.prog 25 #[.int .i64 3] w fun e w' => e = .returned (.bool false) ∧ w' = w := by
  go_enter Try.func25, Try.ntmps25
  go_wp2
  go_ret
  exact ⟨rfl, rfl⟩
theorem known_3 (w : World) : Calls Try.prog 26 #[.int .i64 3] w fun e w' => e = .returned (.bool true) ∧ w' = w := by
  go_enter Try.func26, Try.ntmps26
  go_wp2_with (go_at_call 24; refine (branch_3 _).mono ?_; rintro e w' ⟨rfl, rfl⟩)
  go_ret
  exact ⟨rfl, rfl⟩
theorem rknown_3 (w : World) : Calls Try.prog 27 #[.int .i64 3] w fun e w' => e = .returned (.bool true) ∧ w' = w := by
  go_enter Try.func27, Try.ntmps27
  go_wp2_with (go_at_call 25; refine (rbranch_3 _).mono ?_; rintro e w' ⟨rfl, rfl⟩)
  go_ret
  exact ⟨rfl, rfl⟩
theorem kinds_3 (stop : Int) (w : World) : Calls Try.prog 4 #[.int .i64 3, .int .i64 stop] w fun e w' => e = .returned (.bool true) ∧ Below w.heap.size w w' :=
  kinds_y 3 stop false false false false true w (by decide) (by decide) memory_3 rmem_3 load_3 rload_3 store_3 rstore_3 branch_3 rbranch_3 known_3 rknown_3 rname_3
theorem rstore_4 (w : World) : Calls Try.prog 23 #[.int .i64 4] w fun e w' => e = .returned (.bool false) ∧ w' = w := by
  go_enter Try.func23, Try.ntmps23
  go_wp2
  go_ret
  exact ⟨rfl, rfl⟩
theorem rbranch_4 (w : World) : Calls Try.prog 25 #[.int .i64 4] w fun e w' => e = .returned (.bool false) ∧ w' = w := by
  go_enter Try.func25, Try.ntmps25
  go_wp2
  go_ret
  exact ⟨rfl, rfl⟩
theorem known_4 (w : World) : Calls Try.prog 26 #[.int .i64 4] w fun e w' => e = .returned (.bool true) ∧ w' = w := by
  go_enter Try.func26, Try.ntmps26
  go_wp2_with (go_at_call 24; refine (branch_4 _).mono ?_; rintro e w' ⟨rfl, rfl⟩)
  go_ret
  exact ⟨rfl, rfl⟩
theorem rknown_4 (w : World) : Calls Try.prog 27 #[.int .i64 4] w fun e w' => e = .returned (.bool true) ∧ w' = w := by
  go_enter Try.func27, Try.ntmps27
  go_wp2_with (go_at_call 25; refine (rbranch_4 _).mono ?_; rintro e w' ⟨rfl, rfl⟩)
  go_ret
  exact ⟨rfl, rfl⟩
theorem kinds_4 (stop : Int) (w : World) : Calls Try.prog 4 #[.int .i64 4, .int .i64 stop] w fun e w' => e = .returned (.bool true) ∧ Below w.heap.size w w' :=
  kinds_y 4 stop false false false false true w (by decide) (by decide) memory_4 rmem_4 load_4 rload_4 store_4 rstore_4 branch_4 rbranch_4 known_4 rknown_4 rname_4
theorem rstore_5 (w : World) : Calls Try.prog 23 #[.int .i64 5] w fun e w' => e = .returned (.bool false) ∧ w' = w := by
  go_enter Try.func23, Try.ntmps23
  go_wp2
  go_ret
  exact ⟨rfl, rfl⟩
theorem rbranch_5 (w : World) : Calls Try.prog 25 #[.int .i64 5] w fun e w' => e = .returned (.bool false) ∧ w' = w := by
  go_enter Try.func25, Try.ntmps25
  go_wp2
  go_ret
  exact ⟨rfl, rfl⟩
theorem known_5 (w : World) : Calls Try.prog 26 #[.int .i64 5] w fun e w' => e = .returned (.bool true) ∧ w' = w := by
  go_enter Try.func26, Try.ntmps26
  go_wp2_with (go_at_call 24; refine (branch_5 _).mono ?_; rintro e w' ⟨rfl, rfl⟩)
  go_ret
  exact ⟨rfl, rfl⟩
theorem rknown_5 (w : World) : Calls Try.prog 27 #[.int .i64 5] w fun e w' => e = .returned (.bool true) ∧ w' = w := by
  go_enter Try.func27, Try.ntmps27
  go_wp2_with (go_at_call 25; refine (rbranch_5 _).mono ?_; rintro e w' ⟨rfl, rfl⟩)
  go_ret
  exact ⟨rfl, rfl⟩
theorem kinds_5 (stop : Int) (w : World) : Calls Try.prog 4 #[.int .i64 5, .int .i64 stop] w fun e w' => e = .returned (.bool true) ∧ Below w.heap.size w w' :=
  kinds_y 5 stop false false false false true w (by decide) (by decide) memory_5 rmem_5 load_5 rload_5 store_5 rstore_5 branch_5 rbranch_5 known_5 rknown_5 rname_5
theorem rstore_6 (w : World) : Calls Try.prog 23 #[.int .i64 6] w fun e w' => e = .returned (.bool false) ∧ w' = w := by
  go_enter Try.func23, Try.ntmps23
  go_wp2
  go_ret
  exact ⟨rfl, rfl⟩
theorem rbranch_6 (w : World) : Calls Try.prog 25 #[.int .i64 6] w fun e w' => e = .returned (.bool false) ∧ w' = w := by
  go_enter Try.func25, Try.ntmps25
  go_wp2
  go_ret
  exact ⟨rfl, rfl⟩
theorem known_6 (w : World) : Calls Try.prog 26 #[.int .i64 6] w fun e w' => e = .returned (.bool true) ∧ w' = w := by
  go_enter Try.func26, Try.ntmps26
  go_wp2_with (go_at_call 24; refine (branch_6 _).mono ?_; rintro e w' ⟨rfl, rfl⟩)
  go_ret
  exact ⟨rfl, rfl⟩
theorem rknown_6 (w : World) : Calls Try.prog 27 #[.int .i64 6] w fun e w' => e = .returned (.bool true) ∧ w' = w := by
  go_enter Try.func27, Try.ntmps27
  go_wp2_with (go_at_call 25; refine (rbranch_6 _).mono ?_; rintro e w' ⟨rfl, rfl⟩)
  go_ret
  exact ⟨rfl, rfl⟩
theorem kinds_6 (stop : Int) (w : World) : Calls Try.prog 4 #[.int .i64 6, .int .i64 stop] w fun e w' => e = .returned (.bool true) ∧ Below w.heap.size w w' :=
  kinds_y 6 stop false false false false true w (by decide) (by decide) memory_6 rmem_6 load_6 rload_6 store_6 rstore_6 branch_6 rbranch_6 known_6 rknown_6 rname_6
theorem rstore_7 (w : World) : Calls Try.prog 23 #[.int .i64 7] w fun e w' => e = .returned (.bool false) ∧ w' = w := by
  go_enter Try.func23, Try.ntmps23
  go_wp2
  go_ret
  exact ⟨rfl, rfl⟩
theorem rbranch_7 (w : World) : Calls Try.prog 25 #[.int .i64 7] w fun e w' => e = .returned (.bool false) ∧ w' = w := by
  go_enter Try.func25, Try.ntmps25
  go_wp2
  go_ret
  exact ⟨rfl, rfl⟩
theorem known_7 (w : World) : Calls Try.prog 26 #[.int .i64 7] w fun e w' => e = .returned (.bool true) ∧ w' = w := by
  go_enter Try.func26, Try.ntmps26
  go_wp2_with (go_at_call 24; refine (branch_7 _).mono ?_; rintro e w' ⟨rfl, rfl⟩)
  go_ret
  exact ⟨rfl, rfl⟩
theorem rknown_7 (w : World) : Calls Try.prog 27 #[.int .i64 7] w fun e w' => e = .returned (.bool true) ∧ w' = w := by
  go_enter Try.func27, Try.ntmps27
  go_wp2_with (go_at_call 25; refine (rbranch_7 _).mono ?_; rintro e w' ⟨rfl, rfl⟩)
  go_ret
  exact ⟨rfl, rfl⟩
theorem kinds_7 (stop : Int) (w : World) : Calls Try.prog 4 #[.int .i64 7, .int .i64 stop] w fun e w' => e = .returned (.bool true) ∧ Below w.heap.size w w' :=
  kinds_y 7 stop false false false false true w (by decide) (by decide) memory_7 rmem_7 load_7 rload_7 store_7 rstore_7 branch_7 rbranch_7 known_7 rknown_7 rname_7
theorem rstore_8 (w : World) : Calls Try.prog 23 #[.int .i64 8] w fun e w' => e = .returned (.bool false) ∧ w' = w := by
  go_enter Try.func23, Try.ntmps23
  go_wp2
  go_ret
  exact ⟨rfl, rfl⟩
theorem rbranch_8 (w : World) : Calls Try.prog 25 #[.int .i64 8] w fun e w' => e = .returned (.bool false) ∧ w' = w := by
  go_enter Try.func25, Try.ntmps25
  go_wp2
  go_ret
  exact ⟨rfl, rfl⟩
theorem known_8 (w : World) : Calls Try.prog 26 #[.int .i64 8] w fun e w' => e = .returned (.bool true) ∧ w' = w := by
  go_enter Try.func26, Try.ntmps26
  go_wp2_with (go_at_call 24; refine (branch_8 _).mono ?_; rintro e w' ⟨rfl, rfl⟩)
  go_ret
  exact ⟨rfl, rfl⟩
theorem rknown_8 (w : World) : Calls Try.prog 27 #[.int .i64 8] w fun e w' => e = .returned (.bool true) ∧ w' = w := by
  go_enter Try.func27, Try.ntmps27
  go_wp2_with (go_at_call 25; refine (rbranch_8 _).mono ?_; rintro e w' ⟨rfl, rfl⟩)
  go_ret
  exact ⟨rfl, rfl⟩
theorem kinds_8 (stop : Int) (w : World) : Calls Try.prog 4 #[.int .i64 8, .int .i64 stop] w fun e w' => e = .returned (.bool true) ∧ Below w.heap.size w w' :=
  kinds_y 8 stop false false false false true w (by decide) (by decide) memory_8 rmem_8 load_8 rload_8 store_8 rstore_8 branch_8 rbranch_8 known_8 rknown_8 rname_8
theorem rstore_9 (w : World) : Calls Try.prog 23 #[.int .i64 9] w fun e w' => e = .returned (.bool false) ∧ w' = w := by
  go_enter Try.func23, Try.ntmps23
  go_wp2
  go_ret
  exact ⟨rfl, rfl⟩
theorem rbranch_9 (w : World) : Calls Try.prog 25 #[.int .i64 9] w fun e w' => e = .returned (.bool false) ∧ w' = w := by
  go_enter Try.func25, Try.ntmps25
  go_wp2
  go_ret
  exact ⟨rfl, rfl⟩
theorem known_9 (w : World) : Calls Try.prog 26 #[.int .i64 9] w fun e w' => e = .returned (.bool true) ∧ w' = w := by
  go_enter Try.func26, Try.ntmps26
  go_wp2_with (go_at_call 24; refine (branch_9 _).mono ?_; rintro e w' ⟨rfl, rfl⟩)
  go_ret
  exact ⟨rfl, rfl⟩
theorem rknown_9 (w : World) : Calls Try.prog 27 #[.int .i64 9] w fun e w' => e = .returned (.bool true) ∧ w' = w := by
  go_enter Try.func27, Try.ntmps27
  go_wp2_with (go_at_call 25; refine (rbranch_9 _).mono ?_; rintro e w' ⟨rfl, rfl⟩)
  go_ret
  exact ⟨rfl, rfl⟩
theorem kinds_9 (stop : Int) (w : World) : Calls Try.prog 4 #[.int .i64 9, .int .i64 stop] w fun e w' => e = .returned (.bool true) ∧ Below w.heap.size w w' :=
  kinds_y 9 stop false false false false true w (by decide) (by decide) memory_9 rmem_9 load_9 rload_9 store_9 rstore_9 branch_9 rbranch_9 known_9 rknown_9 rname_9
theorem rstore_10 (w : World) : Calls Try.prog 23 #[.int .i64 10] w fun e w' => e = .returned (.bool false) ∧ w' = w := by
  go_enter Try.func23, Try.ntmps23
  go_wp2
  go_ret
  exact ⟨rfl, rfl⟩
theorem rbranch_10 (w : World) : Calls Try.prog 25 #[.int .i64 10] w fun e w' => e = .returned (.bool false) ∧ w' = w := by
  go_enter Try.func25, Try.ntmps25
  go_wp2
  go_ret
  exact ⟨rfl, rfl⟩
theorem known_10 (w : World) : Calls Try.prog 26 #[.int .i64 10] w fun e w' => e = .returned (.bool true) ∧ w' = w := by
  go_enter Try.func26, Try.ntmps26
  go_wp2_with (go_at_call 24; refine (branch_10 _).mono ?_; rintro e w' ⟨rfl, rfl⟩)
  go_ret
  exact ⟨rfl, rfl⟩
theorem rknown_10 (w : World) : Calls Try.prog 27 #[.int .i64 10] w fun e w' => e = .returned (.bool true) ∧ w' = w := by
  go_enter Try.func27, Try.ntmps27
  go_wp2_with (go_at_call 25; refine (rbranch_10 _).mono ?_; rintro e w' ⟨rfl, rfl⟩)
  go_ret
  exact ⟨rfl, rfl⟩
theorem kinds_10 (stop : Int) (w : World) : Calls Try.prog 4 #[.int .i64 10, .int .i64 stop] w fun e w' => e = .returned (.bool true) ∧ Below w.heap.size w w' :=
  kinds_y 10 stop false false false false true w (by decide) (by decide) memory_10 rmem_10 load_10 rload_10 store_10 rstore_10 branch_10 rbranch_10 known_10 rknown_10 rname_10
theorem rstore_11 (w : World) : Calls Try.prog 23 #[.int .i64 11] w fun e w' => e = .returned (.bool false) ∧ w' = w := by
  go_enter Try.func23, Try.ntmps23
  go_wp2
  go_ret
  exact ⟨rfl, rfl⟩
theorem rbranch_11 (w : World) : Calls Try.prog 25 #[.int .i64 11] w fun e w' => e = .returned (.bool false) ∧ w' = w := by
  go_enter Try.func25, Try.ntmps25
  go_wp2
  go_ret
  exact ⟨rfl, rfl⟩
theorem known_11 (w : World) : Calls Try.prog 26 #[.int .i64 11] w fun e w' => e = .returned (.bool true) ∧ w' = w := by
  go_enter Try.func26, Try.ntmps26
  go_wp2_with (go_at_call 24; refine (branch_11 _).mono ?_; rintro e w' ⟨rfl, rfl⟩)
  go_ret
  exact ⟨rfl, rfl⟩
theorem rknown_11 (w : World) : Calls Try.prog 27 #[.int .i64 11] w fun e w' => e = .returned (.bool true) ∧ w' = w := by
  go_enter Try.func27, Try.ntmps27
  go_wp2_with (go_at_call 25; refine (rbranch_11 _).mono ?_; rintro e w' ⟨rfl, rfl⟩)
  go_ret
  exact ⟨rfl, rfl⟩
theorem kinds_11 (stop : Int) (w : World) : Calls Try.prog 4 #[.int .i64 11, .int .i64 stop] w fun e w' => e = .returned (.bool true) ∧ Below w.heap.size w w' :=
  kinds_y 11 stop false false false false true w (by decide) (by decide) memory_11 rmem_11 load_11 rload_11 store_11 rstore_11 branch_11 rbranch_11 known_11 rknown_11 rname_11
theorem rstore_12 (w : World) : Calls Try.prog 23 #[.int .i64 12] w fun e w' => e = .returned (.bool false) ∧ w' = w := by
  go_enter Try.func23, Try.ntmps23
  go_wp2
  go_ret
  exact ⟨rfl, rfl⟩
theorem rbranch_12 (w : World) : Calls Try.prog 25 #[.int .i64 12] w fun e w' => e = .returned (.bool false) ∧ w' = w := by
  go_enter Try.func25, Try.ntmps25
  go_wp2
  go_ret
  exact ⟨rfl, rfl⟩
theorem known_12 (w : World) : Calls Try.prog 26 #[.int .i64 12] w fun e w' => e = .returned (.bool true) ∧ w' = w := by
  go_enter Try.func26, Try.ntmps26
  go_wp2_with (go_at_call 24; refine (branch_12 _).mono ?_; rintro e w' ⟨rfl, rfl⟩)
  go_ret
  exact ⟨rfl, rfl⟩
theorem rknown_12 (w : World) : Calls Try.prog 27 #[.int .i64 12] w fun e w' => e = .returned (.bool true) ∧ w' = w := by
  go_enter Try.func27, Try.ntmps27
  go_wp2_with (go_at_call 25; refine (rbranch_12 _).mono ?_; rintro e w' ⟨rfl, rfl⟩)
  go_ret
  exact ⟨rfl, rfl⟩
theorem kinds_12 (stop : Int) (w : World) : Calls Try.prog 4 #[.int .i64 12, .int .i64 stop] w fun e w' => e = .returned (.bool true) ∧ Below w.heap.size w w' :=
  kinds_y 12 stop false false false false true w (by decide) (by decide) memory_12 rmem_12 load_12 rload_12 store_12 rstore_12 branch_12 rbranch_12 known_12 rknown_12 rname_12
theorem rstore_13 (w : World) : Calls Try.prog 23 #[.int .i64 13] w fun e w' => e = .returned (.bool false) ∧ w' = w := by
  go_enter Try.func23, Try.ntmps23
  go_wp2
  go_ret
  exact ⟨rfl, rfl⟩
theorem rbranch_13 (w : World) : Calls Try.prog 25 #[.int .i64 13] w fun e w' => e = .returned (.bool false) ∧ w' = w := by
  go_enter Try.func25, Try.ntmps25
  go_wp2
  go_ret
  exact ⟨rfl, rfl⟩
theorem known_13 (w : World) : Calls Try.prog 26 #[.int .i64 13] w fun e w' => e = .returned (.bool true) ∧ w' = w := by
  go_enter Try.func26, Try.ntmps26
  go_wp2_with (go_at_call 24; refine (branch_13 _).mono ?_; rintro e w' ⟨rfl, rfl⟩)
  go_ret
  exact ⟨rfl, rfl⟩
theorem rknown_13 (w : World) : Calls Try.prog 27 #[.int .i64 13] w fun e w' => e = .returned (.bool true) ∧ w' = w := by
  go_enter Try.func27, Try.ntmps27
  go_wp2_with (go_at_call 25; refine (rbranch_13 _).mono ?_; rintro e w' ⟨rfl, rfl⟩)
  go_ret
  exact ⟨rfl, rfl⟩
theorem kinds_13 (stop : Int) (w : World) : Calls Try.prog 4 #[.int .i64 13, .int .i64 stop] w fun e w' => e = .returned (.bool true) ∧ Below w.heap.size w w' :=
  kinds_y 13 stop false false false false true w (by decide) (by decide) memory_13 rmem_13 load_13 rload_13 store_13 rstore_13 branch_13 rbranch_13 known_13 rknown_13 rname_13
theorem rstore_14 (w : World) : Calls Try.prog 23 #[.int .i64 14] w fun e w' => e = .returned (.bool false) ∧ w' = w := by
  go_enter Try.func23, Try.ntmps23
  go_wp2
  go_ret
  exact ⟨rfl, rfl⟩
theorem rbranch_14 (w : World) : Calls Try.prog 25 #[.int .i64 14] w fun e w' => e = .returned (.bool false) ∧ w' = w := by
  go_enter Try.func25, Try.ntmps25
  go_wp2
  go_ret
  exact ⟨rfl, rfl⟩
theorem known_14 (w : World) : Calls Try.prog 26 #[.int .i64 14] w fun e w' => e = .returned (.bool true) ∧ w' = w := by
  go_enter Try.func26, Try.ntmps26
  go_wp2_with (go_at_call 24; refine (branch_14 _).mono ?_; rintro e w' ⟨rfl, rfl⟩)
  go_ret
  exact ⟨rfl, rfl⟩
theorem rknown_14 (w : World) : Calls Try.prog 27 #[.int .i64 14] w fun e w' => e = .returned (.bool true) ∧ w' = w := by
  go_enter Try.func27, Try.ntmps27
  go_wp2_with (go_at_call 25; refine (rbranch_14 _).mono ?_; rintro e w' ⟨rfl, rfl⟩)
  go_ret
  exact ⟨rfl, rfl⟩
theorem kinds_14 (stop : Int) (w : World) : Calls Try.prog 4 #[.int .i64 14, .int .i64 stop] w fun e w' => e = .returned (.bool true) ∧ Below w.heap.size w w' :=
  kinds_y 14 stop false false false false true w (by decide) (by decide) memory_14 rmem_14 load_14 rload_14 store_14 rstore_14 branch_14 rbranch_14 known_14 rknown_14 rname_14
theorem rstore_15 (w : World) : Calls Try.prog 23 #[.int .i64 15] w fun e w' => e = .returned (.bool false) ∧ w' = w := by
  go_enter Try.func23, Try.ntmps23
  go_wp2
  go_ret
  exact ⟨rfl, rfl⟩
theorem rbranch_15 (w : World) : Calls Try.prog 25 #[.int .i64 15] w fun e w' => e = .returned (.bool false) ∧ w' = w := by
  go_enter Try.func25, Try.ntmps25
  go_wp2
  go_ret
  exact ⟨rfl, rfl⟩
theorem known_15 (w : World) : Calls Try.prog 26 #[.int .i64 15] w fun e w' => e = .returned (.bool true) ∧ w' = w := by
  go_enter Try.func26, Try.ntmps26
  go_wp2_with (go_at_call 24; refine (branch_15 _).mono ?_; rintro e w' ⟨rfl, rfl⟩)
  go_ret
  exact ⟨rfl, rfl⟩
theorem rknown_15 (w : World) : Calls Try.prog 27 #[.int .i64 15] w fun e w' => e = .returned (.bool true) ∧ w' = w := by
  go_enter Try.func27, Try.ntmps27
  go_wp2_with (go_at_call 25; refine (rbranch_15 _).mono ?_; rintro e w' ⟨rfl, rfl⟩)
  go_ret
  exact ⟨rfl, rfl⟩
theorem kinds_15 (stop : Int) (w : World) : Calls Try.prog 4 #[.int .i64 15, .int .i64 stop] w fun e w' => e = .returned (.bool true) ∧ Below w.heap.size w w' :=
  kinds_y 15 stop false false false false true w (by decide) (by decide) memory_15 rmem_15 load_15 rload_15 store_15 rstore_15 branch_15 rbranch_15 known_15 rknown_15 rname_15
theorem rstore_16 (w : World) : Calls Try.prog 23 #[.int .i64 16] w fun e w' => e = .returned (.bool false) ∧ w' = w := by
  go_enter Try.func23, Try.ntmps23
  go_wp2
  go_ret
  exact ⟨rfl, rfl⟩
theorem rbranch_16 (w : World) : Calls Try.prog 25 #[.int .i64 16] w fun e w' => e = .returned (.bool false) ∧ w' = w := by
  go_enter Try.func25, Try.ntmps25
  go_wp2
  go_ret
  exact ⟨rfl, rfl⟩
theorem known_16 (w : World) : Calls Try.prog 26 #[.int .i64 16] w fun e w' => e = .returned (.bool true) ∧ w' = w := by
  go_enter Try.func26, Try.ntmps26
  go_wp2_with (go_at_call 24; refine (branch_16 _).mono ?_; rintro e w' ⟨rfl, rfl⟩)
  go_ret
  exact ⟨rfl, rfl⟩
theorem rknown_16 (w : World) : Calls Try.prog 27 #[.int .i64 16] w fun e w' => e = .returned (.bool true) ∧ w' = w := by
  go_enter Try.func27, Try.ntmps27
  go_wp2_with (go_at_call 25; refine (rbranch_16 _).mono ?_; rintro e w' ⟨rfl, rfl⟩)
  go_ret
  exact ⟨rfl, rfl⟩
theorem kinds_16 (stop : Int) (w : World) : Calls Try.prog 4 #[.int .i64 16, .int .i64 stop] w fun e w' => e = .returned (.bool true) ∧ Below w.heap.size w w' :=
  kinds_y 16 stop false false false false true w (by decide) (by decide) memory_16 rmem_16 load_16 rload_16 store_16 rstore_16 branch_16 rbranch_16 known_16 rknown_16 rname_16
theorem rstore_17 (w : World) : Calls Try.prog 23 #[.int .i64 17] w fun e w' => e = .returned (.bool false) ∧ w' = w := by
  go_enter Try.func23, Try.ntmps23
  go_wp2
  go_ret
  exact ⟨rfl, rfl⟩
theorem rbranch_17 (w : World) : Calls Try.prog 25 #[.int .i64 17] w fun e w' => e = .returned (.bool false) ∧ w' = w := by
  go_enter Try.func25, Try.ntmps25
  go_wp2
  go_ret
  exact ⟨rfl, rfl⟩
theorem known_17 (w : World) : Calls Try.prog 26 #[.int .i64 17] w fun e w' => e = .returned (.bool true) ∧ w' = w := by
  go_enter Try.func26, Try.ntmps26
  go_wp2_with (go_at_call 24; refine (branch_17 _).mono ?_; rintro e w' ⟨rfl, rfl⟩)
  go_ret
  exact ⟨rfl, rfl⟩
theorem rknown_17 (w : World) : Calls Try.prog 27 #[.int .i64 17] w fun e w' => e = .returned (.bool true) ∧ w' = w := by
  go_enter Try.func27, Try.ntmps27
  go_wp2_with (go_at_call 25; refine (rbranch_17 _).mono ?_; rintro e w' ⟨rfl, rfl⟩)
  go_ret
  exact ⟨rfl, rfl⟩
theorem kinds_17 (stop : Int) (w : World) : Calls Try.prog 4 #[.int .i64 17, .int .i64 stop] w fun e w' => e = .returned (.bool true) ∧ Below w.heap.size w w' :=
  kinds_y 17 stop false false false false true w (by decide) (by decide) memory_17 rmem_17 load_17 rload_17 store_17 rstore_17 branch_17 rbranch_17 known_17 rknown_17 rname_17
theorem rstore_18 (w : World) : Calls Try.prog 23 #[.int .i64 18] w fun e w' => e = .returned (.bool false) ∧ w' = w := by
  go_enter Try.func23, Try.ntmps23
  go_wp2
  go_ret
  exact ⟨rfl, rfl⟩
theorem rbranch_18 (w : World) : Calls Try.prog 25 #[.int .i64 18] w fun e w' => e = .returned (.bool false) ∧ w' = w := by
  go_enter Try.func25, Try.ntmps25
  go_wp2
  go_ret
  exact ⟨rfl, rfl⟩
theorem known_18 (w : World) : Calls Try.prog 26 #[.int .i64 18] w fun e w' => e = .returned (.bool true) ∧ w' = w := by
  go_enter Try.func26, Try.ntmps26
  go_wp2_with (go_at_call 24; refine (branch_18 _).mono ?_; rintro e w' ⟨rfl, rfl⟩)
  go_ret
  exact ⟨rfl, rfl⟩
theorem rknown_18 (w : World) : Calls Try.prog 27 #[.int .i64 18] w fun e w' => e = .returned (.bool true) ∧ w' = w := by
  go_enter Try.func27, Try.ntmps27
  go_wp2_with (go_at_call 25; refine (rbranch_18 _).mono ?_; rintro e w' ⟨rfl, rfl⟩)
  go_ret
  exact ⟨rfl, rfl⟩
theorem kinds_18 (stop : Int) (w : World) : Calls Try.prog 4 #[.int .i64 18, .int .i64 stop] w fun e w' => e = .returned (.bool true) ∧ Below w.heap.size w w' :=
  kinds_y 18 stop false false false false true w (by decide) (by decide) memory_18 rmem_18 load_18 rload_18 store_18 rstore_18 branch_18 rbranch_18 known_18 rknown_18 rname_18
theorem rstore_19 (w : World) : Calls Try.prog 23 #[.int .i64 19] w fun e w' => e = .returned (.bool false) ∧ w' = w := by
  go_enter Try.func23, Try.ntmps23
  go_wp2
  go_ret
  exact ⟨rfl, rfl⟩
theorem rbranch_19 (w : World) : Calls Try.prog 25 #[.int .i64 19] w fun e w' => e = .returned (.bool false) ∧ w' = w := by
  go_enter Try.func25, Try.ntmps25
  go_wp2
  go_ret
  exact ⟨rfl, rfl⟩
theorem known_19 (w : World) : Calls Try.prog 26 #[.int .i64 19] w fun e w' => e = .returned (.bool true) ∧ w' = w := by
  go_enter Try.func26, Try.ntmps26
  go_wp2_with (go_at_call 24; refine (branch_19 _).mono ?_; rintro e w' ⟨rfl, rfl⟩)
  go_ret
  exact ⟨rfl, rfl⟩
theorem rknown_19 (w : World) : Calls Try.prog 27 #[.int .i64 19] w fun e w' => e = .returned (.bool true) ∧ w' = w := by
  go_enter Try.func27, Try.ntmps27
  go_wp2_with (go_at_call 25; refine (rbranch_19 _).mono ?_; rintro e w' ⟨rfl, rfl⟩)
  go_ret
  exact ⟨rfl, rfl⟩
theorem kinds_19 (stop : Int) (w : World) : Calls Try.prog 4 #[.int .i64 19, .int .i64 stop] w fun e w' => e = .returned (.bool true) ∧ Below w.heap.size w w' :=
  kinds_y 19 stop false false false false true w (by decide) (by decide) memory_19 rmem_19 load_19 rload_19 store_19 rstore_19 branch_19 rbranch_19 known_19 rknown_19 rname_19
theorem rstore_20 (w : World) : Calls Try.prog 23 #[.int .i64 20] w fun e w' => e = .returned (.bool false) ∧ w' = w := by
  go_enter Try.func23, Try.ntmps23
  go_wp2
  go_ret
  exact ⟨rfl, rfl⟩
theorem rbranch_20 (w : World) : Calls Try.prog 25 #[.int .i64 20] w fun e w' => e = .returned (.bool true) ∧ w' = w := by
  go_enter Try.func25, Try.ntmps25
  go_wp2
  go_ret
  exact ⟨rfl, rfl⟩
theorem known_20 (w : World) : Calls Try.prog 26 #[.int .i64 20] w fun e w' => e = .returned (.bool true) ∧ w' = w := by
  go_enter Try.func26, Try.ntmps26
  go_wp2_with (go_at_call 24; refine (branch_20 _).mono ?_; rintro e w' ⟨rfl, rfl⟩)
  go_ret
  exact ⟨rfl, rfl⟩
theorem rknown_20 (w : World) : Calls Try.prog 27 #[.int .i64 20] w fun e w' => e = .returned (.bool true) ∧ w' = w := by
  go_enter Try.func27, Try.ntmps27
  go_wp2_with (go_at_call 25; refine (rbranch_20 _).mono ?_; rintro e w' ⟨rfl, rfl⟩)
  go_ret
  exact ⟨rfl, rfl⟩
theorem kinds_20 (stop : Int) (w : World) : Calls Try.prog 4 #[.int .i64 20, .int .i64 stop] w fun e w' => e = .returned (.bool true) ∧ Below w.heap.size w w' :=
  kinds_y 20 stop false false false true true w (by decide) (by decide) memory_20 rmem_20 load_20 rload_20 store_20 rstore_20 branch_20 rbranch_20 known_20 rknown_20 rname_20
theorem rstore_21 (w : World) : Calls Try.prog 23 #[.int .i64 21] w fun e w' => e = .returned (.bool false) ∧ w' = w := by
  go_enter Try.func23, Try.ntmps23
  go_wp2
  go_ret
  exact ⟨rfl, rfl⟩
theorem rbranch_21 (w : World) : Calls Try.prog 25 #[.int .i64 21] w fun e w' => e = .returned (.bool true) ∧ w' = w := by
  go_enter Try.func25, Try.ntmps25
  go_wp2
  go_ret
  exact ⟨rfl, rfl⟩
theorem known_21 (w : World) : Calls Try.prog 26 #[.int .i64 21] w fun e w' => e = .returned (.bool false) ∧ w' = w := by
  go_enter Try.func26, Try.ntmps26
  go_wp2_with (go_at_call 24; refine (branch_21 _).mono ?_; rintro e w' ⟨rfl, rfl⟩)
  go_ret
  exact ⟨rfl, rfl⟩
theorem rknown_21 (w : World) : Calls Try.prog 27 #[.int .i64 21] w fun e w' => e = .returned (.bool false) ∧ w' = w := by
  go_enter Try.func27, Try.ntmps27
  go_wp2_with (go_at_call 25; refine (rbranch_21 _).mono ?_; rintro e w' ⟨rfl, rfl⟩)
  go_ret
  exact ⟨rfl, rfl⟩
theorem kinds_21 (stop : Int) (w : World) : Calls Try.prog 4 #[.int .i64 21, .int .i64 stop] w fun e w' => e = .returned (.bool true) ∧ Below w.heap.size w w' :=
  kinds_y 21 stop false false false true false w (by decide) (by decide) memory_21 rmem_21 load_21 rload_21 store_21 rstore_21 branch_21 rbranch_21 known_21 rknown_21 rname_21
theorem rstore_22 (w : World) : Calls Try.prog 23 #[.int .i64 22] w fun e w' => e = .returned (.bool false) ∧ w' = w := by
  go_enter Try.func23, Try.ntmps23
  go_wp2
  go_ret
  exact ⟨rfl, rfl⟩
theorem rbranch_22 (w : World) : Calls Try.prog 25 #[.int .i64 22] w fun e w' => e = .returned (.bool true) ∧ w' = w := by
  go_enter Try.func25, Try.ntmps25
  go_wp2
  go_ret
  exact ⟨rfl, rfl⟩
theorem known_22 (w : World) : Calls Try.prog 26 #[.int .i64 22] w fun e w' => e = .returned (.bool false) ∧ w' = w := by
  go_enter Try.func26, Try.ntmps26
  go_wp2_with (go_at_call 24; refine (branch_22 _).mono ?_; rintro e w' ⟨rfl, rfl⟩)
  go_ret
  exact ⟨rfl, rfl⟩
theorem rknown_22 (w : World) : Calls Try.prog 27 #[.int .i64 22] w fun e w' => e = .returned (.bool false) ∧ w' = w := by
  go_enter Try.func27, Try.ntmps27
  go_wp2_with (go_at_call 25; refine (rbranch_22 _).mono ?_; rintro e w' ⟨rfl, rfl⟩)
  go_ret
  exact ⟨rfl, rfl⟩
theorem kinds_22 (stop : Int) (w : World) : Calls Try.prog 4 #[.int .i64 22, .int .i64 stop] w fun e w' => e = .returned (.bool true) ∧ Below w.heap.size w w' :=
  kinds_y 22 stop false false false true false w (by decide) (by decide) memory_22 rmem_22 load_22 rload_22 store_22 rstore_22 branch_22 rbranch_22 known_22 rknown_22 rname_22
theorem rstore_23 (w : World) : Calls Try.prog 23 #[.int .i64 23] w fun e w' => e = .returned (.bool false) ∧ w' = w := by
  go_enter Try.func23, Try.ntmps23
  go_wp2
  go_ret
  exact ⟨rfl, rfl⟩
theorem rbranch_23 (w : World) : Calls Try.prog 25 #[.int .i64 23] w fun e w' => e = .returned (.bool true) ∧ w' = w := by
  go_enter Try.func25, Try.ntmps25
  go_wp2
  go_ret
  exact ⟨rfl, rfl⟩
theorem known_23 (w : World) : Calls Try.prog 26 #[.int .i64 23] w fun e w' => e = .returned (.bool false) ∧ w' = w := by
  go_enter Try.func26, Try.ntmps26
  go_wp2_with (go_at_call 24; refine (branch_23 _).mono ?_; rintro e w' ⟨rfl, rfl⟩)
  go_ret
  exact ⟨rfl, rfl⟩
theorem rknown_23 (w : World) : Calls Try.prog 27 #[.int .i64 23] w fun e w' => e = .returned (.bool false) ∧ w' = w := by
  go_enter Try.func27, Try.ntmps27
  go_wp2_with (go_at_call 25; refine (rbranch_23 _).mono ?_; rintro e w' ⟨rfl, rfl⟩)
  go_ret
  exact ⟨rfl, rfl⟩
theorem kinds_23 (stop : Int) (w : World) : Calls Try.prog 4 #[.int .i64 23, .int .i64 stop] w fun e w' => e = .returned (.bool true) ∧ Below w.heap.size w w' :=
  kinds_y 23 stop false false false true false w (by decide) (by decide) memory_23 rmem_23 load_23 rload_23 store_23 rstore_23 branch_23 rbranch_23 known_23 rknown_23 rname_23
theorem rstore_24 (w : World) : Calls Try.prog 23 #[.int .i64 24] w fun e w' => e = .returned (.bool false) ∧ w' = w := by
  go_enter Try.func23, Try.ntmps23
  go_wp2
  go_ret
  exact ⟨rfl, rfl⟩
theorem rbranch_24 (w : World) : Calls Try.prog 25 #[.int .i64 24] w fun e w' => e = .returned (.bool true) ∧ w' = w := by
  go_enter Try.func25, Try.ntmps25
  go_wp2
  go_ret
  exact ⟨rfl, rfl⟩
theorem known_24 (w : World) : Calls Try.prog 26 #[.int .i64 24] w fun e w' => e = .returned (.bool true) ∧ w' = w := by
  go_enter Try.func26, Try.ntmps26
  go_wp2_with (go_at_call 24; refine (branch_24 _).mono ?_; rintro e w' ⟨rfl, rfl⟩)
  go_ret
  exact ⟨rfl, rfl⟩
theorem rknown_24 (w : World) : Calls Try.prog 27 #[.int .i64 24] w fun e w' => e = .returned (.bool true) ∧ w' = w := by
  go_enter Try.func27, Try.ntmps27
  go_wp2_with (go_at_call 25; refine (rbranch_24 _).mono ?_; rintro e w' ⟨rfl, rfl⟩)
  go_ret
  exact ⟨rfl, rfl⟩
theorem kinds_24 (stop : Int) (w : World) : Calls Try.prog 4 #[.int .i64 24, .int .i64 stop] w fun e w' => e = .returned (.bool true) ∧ Below w.heap.size w w' :=
  kinds_y 24 stop false false false true true w (by decide) (by decide) memory_24 rmem_24 load_24 rload_24 store_24 rstore_24 branch_24 rbranch_24 known_24 rknown_24 rname_24
theorem rstore_25 (w : World) : Calls Try.prog 23 #[.int .i64 25] w fun e w' => e = .returned (.bool false) ∧ w' = w := by
  go_enter Try.func23, Try.ntmps23
  go_wp2
  go_ret
  exact ⟨rfl, rfl⟩
theorem rbranch_25 (w : World) : Calls Try.prog 25 #[.int .i64 25] w fun e w' => e = .returned (.bool true) ∧ w' = w := by
  go_enter Try.func25, Try.ntmps25
  go_wp2
  go_ret
  exact ⟨rfl, rfl⟩
theorem known_25 (w : World) : Calls Try.prog 26 #[.int .i64 25] w fun e w' => e = .returned (.bool false) ∧ w' = w := by
  go_enter Try.func26, Try.ntmps26
  go_wp2_with (go_at_call 24; refine (branch_25 _).mono ?_; rintro e w' ⟨rfl, rfl⟩)
  go_ret
  exact ⟨rfl, rfl⟩
theorem rknown_25 (w : World) : Calls Try.prog 27 #[.int .i64 25] w fun e w' => e = .returned (.bool false) ∧ w' = w := by
  go_enter Try.func27, Try.ntmps27
  go_wp2_with (go_at_call 25; refine (rbranch_25 _).mono ?_; rintro e w' ⟨rfl, rfl⟩)
  go_ret
  exact ⟨rfl, rfl⟩
theorem kinds_25 (stop : Int) (w : World) : Calls Try.prog 4 #[.int .i64 25, .int .i64 stop] w fun e w' => e = .returned (.bool true) ∧ Below w.heap.size w w' :=
  kinds_y 25 stop false false false true false w (by decide) (by decide) memory_25 rmem_25 load_25 rload_25 store_25 rstore_25 branch_25 rbranch_25 known_25 rknown_25 rname_25
theorem rstore_26 (w : World) : Calls Try.prog 23 #[.int .i64 26] w fun e w' => e = .returned (.bool false) ∧ w' = w := by
  go_enter Try.func23, Try.ntmps23
  go_wp2
  go_ret
  exact ⟨rfl, rfl⟩
theorem rbranch_26 (w : World) : Calls Try.prog 25 #[.int .i64 26] w fun e w' => e = .returned (.bool true) ∧ w' = w := by
  go_enter Try.func25, Try.ntmps25
  go_wp2
  go_ret
  exact ⟨rfl, rfl⟩
theorem known_26 (w : World) : Calls Try.prog 26 #[.int .i64 26] w fun e w' => e = .returned (.bool false) ∧ w' = w := by
  go_enter Try.func26, Try.ntmps26
  go_wp2_with (go_at_call 24; refine (branch_26 _).mono ?_; rintro e w' ⟨rfl, rfl⟩)
  go_ret
  exact ⟨rfl, rfl⟩
theorem rknown_26 (w : World) : Calls Try.prog 27 #[.int .i64 26] w fun e w' => e = .returned (.bool false) ∧ w' = w := by
  go_enter Try.func27, Try.ntmps27
  go_wp2_with (go_at_call 25; refine (rbranch_26 _).mono ?_; rintro e w' ⟨rfl, rfl⟩)
  go_ret
  exact ⟨rfl, rfl⟩
theorem kinds_26 (stop : Int) (w : World) : Calls Try.prog 4 #[.int .i64 26, .int .i64 stop] w fun e w' => e = .returned (.bool true) ∧ Below w.heap.size w w' :=
  kinds_y 26 stop false false false true false w (by decide) (by decide) memory_26 rmem_26 load_26 rload_26 store_26 rstore_26 branch_26 rbranch_26 known_26 rknown_26 rname_26
theorem rstore_27 (w : World) : Calls Try.prog 23 #[.int .i64 27] w fun e w' => e = .returned (.bool false) ∧ w' = w := by
  go_enter Try.func23, Try.ntmps23
  go_wp2
  go_ret
  exact ⟨rfl, rfl⟩
theorem rbranch_27 (w : World) : Calls Try.prog 25 #[.int .i64 27] w fun e w' => e = .returned (.bool true) ∧ w' = w := by
  go_enter Try.func25, Try.ntmps25
  go_wp2
  go_ret
  exact ⟨rfl, rfl⟩
theorem known_27 (w : World) : Calls Try.prog 26 #[.int .i64 27] w fun e w' => e = .returned (.bool false) ∧ w' = w := by
  go_enter Try.func26, Try.ntmps26
  go_wp2_with (go_at_call 24; refine (branch_27 _).mono ?_; rintro e w' ⟨rfl, rfl⟩)
  go_ret
  exact ⟨rfl, rfl⟩
theorem rknown_27 (w : World) : Calls Try.prog 27 #[.int .i64 27] w fun e w' => e = .returned (.bool false) ∧ w' = w := by
  go_enter Try.func27, Try.ntmps27
  go_wp2_with (go_at_call 25; refine (rbranch_27 _).mono ?_; rintro e w' ⟨rfl, rfl⟩)
  go_ret
  exact ⟨rfl, rfl⟩
theorem kinds_27 (stop : Int) (w : World) : Calls Try.prog 4 #[.int .i64 27, .int .i64 stop] w fun e w' => e = .returned (.bool true) ∧ Below w.heap.size w w' :=
  kinds_y 27 stop false false false true false w (by decide) (by decide) memory_27 rmem_27 load_27 rload_27 store_27 rstore_27 branch_27 rbranch_27 known_27 rknown_27 rname_27
theorem rstore_28 (w : World) : Calls Try.prog 23 #[.int .i64 28] w fun e w' => e = .returned (.bool false) ∧ w' = w := by
  go_enter Try.func23, Try.ntmps23
  go_wp2
  go_ret
  exact ⟨rfl, rfl⟩
theorem rbranch_28 (w : World) : Calls Try.prog 25 #[.int .i64 28] w fun e w' => e = .returned (.bool false) ∧ w' = w := by
  go_enter Try.func25, Try.ntmps25
  go_wp2
  go_ret
  exact ⟨rfl, rfl⟩
theorem known_28 (w : World) : Calls Try.prog 26 #[.int .i64 28] w fun e w' => e = .returned (.bool true) ∧ w' = w := by
  go_enter Try.func26, Try.ntmps26
  go_wp2_with (go_at_call 24; refine (branch_28 _).mono ?_; rintro e w' ⟨rfl, rfl⟩)
  go_ret
  exact ⟨rfl, rfl⟩
theorem rknown_28 (w : World) : Calls Try.prog 27 #[.int .i64 28] w fun e w' => e = .returned (.bool true) ∧ w' = w := by
  go_enter Try.func27, Try.ntmps27
  go_wp2_with (go_at_call 25; refine (rbranch_28 _).mono ?_; rintro e w' ⟨rfl, rfl⟩)
  go_ret
  exact ⟨rfl, rfl⟩
theorem kinds_28 (stop : Int) (w : World) : Calls Try.prog 4 #[.int .i64 28, .int .i64 stop] w fun e w' => e = .returned (.bool true) ∧ Below w.heap.size w w' :=
  kinds_y 28 stop true true false false true w (by decide) (by decide) memory_28 rmem_28 load_28 rload_28 store_28 rstore_28 branch_28 rbranch_28 known_28 rknown_28 rname_28
theorem rstore_29 (w : World) : Calls Try.prog 23 #[.int .i64 29] w fun e w' => e = .returned (.bool true) ∧ w' = w := by
  go_enter Try.func23, Try.ntmps23
  go_wp2
  go_ret
  exact ⟨rfl, rfl⟩
theorem rbranch_29 (w : World) : Calls Try.prog 25 #[.int .i64 29] w fun e w' => e = .returned (.bool false) ∧ w' = w := by
  go_enter Try.func25, Try.ntmps25
  go_wp2
  go_ret
  exact ⟨rfl, rfl⟩
theorem known_29 (w : World) : Calls Try.prog 26 #[.int .i64 29] w fun e w' => e = .returned (.bool true) ∧ w' = w := by
  go_enter Try.func26, Try.ntmps26
  go_wp2_with (go_at_call 24; refine (branch_29 _).mono ?_; rintro e w' ⟨rfl, rfl⟩)
  go_ret
  exact ⟨rfl, rfl⟩
theorem rknown_29 (w : World) : Calls Try.prog 27 #[.int .i64 29] w fun e w' => e = .returned (.bool true) ∧ w' = w := by
  go_enter Try.func27, Try.ntmps27
  go_wp2_with (go_at_call 25; refine (rbranch_29 _).mono ?_; rintro e w' ⟨rfl, rfl⟩)
  go_ret
  exact ⟨rfl, rfl⟩
theorem kinds_29 (stop : Int) (w : World) : Calls Try.prog 4 #[.int .i64 29, .int .i64 stop] w fun e w' => e = .returned (.bool true) ∧ Below w.heap.size w w' :=
  kinds_y 29 stop true false true false true w (by decide) (by decide) memory_29 rmem_29 load_29 rload_29 store_29 rstore_29 branch_29 rbranch_29 known_29 rknown_29 rname_29
theorem rstore_30 (w : World) : Calls Try.prog 23 #[.int .i64 30] w fun e w' => e = .returned (.bool false) ∧ w' = w := by
  go_enter Try.func23, Try.ntmps23
  go_wp2
  go_ret
  exact ⟨rfl, rfl⟩
theorem rbranch_30 (w : World) : Calls Try.prog 25 #[.int .i64 30] w fun e w' => e = .returned (.bool false) ∧ w' = w := by
  go_enter Try.func25, Try.ntmps25
  go_wp2
  go_ret
  exact ⟨rfl, rfl⟩
theorem known_30 (w : World) : Calls Try.prog 26 #[.int .i64 30] w fun e w' => e = .returned (.bool true) ∧ w' = w := by
  go_enter Try.func26, Try.ntmps26
  go_wp2_with (go_at_call 24; refine (branch_30 _).mono ?_; rintro e w' ⟨rfl, rfl⟩)
  go_ret
  exact ⟨rfl, rfl⟩
theorem rknown_30 (w : World) : Calls Try.prog 27 #[.int .i64 30] w fun e w' => e = .returned (.bool true) ∧ w' = w := by
  go_enter Try.func27, Try.ntmps27
  go_wp2_with (go_at_call 25; refine (rbranch_30 _).mono ?_; rintro e w' ⟨rfl, rfl⟩)
  go_ret
  exact ⟨rfl, rfl⟩
theorem kinds_30 (stop : Int) (w : World) : Calls Try.prog 4 #[.int .i64 30, .int .i64 stop] w fun e w' => e = .returned (.bool true) ∧ Below w.heap.size w w' :=
  kinds_y 30 stop true true false false true w (by decide) (by decide) memory_30 rmem_30 load_30 rload_30 store_30 rstore_30 branch_30 rbranch_30 known_30 rknown_30 rname_30
theorem rstore_31 (w : World) : Calls Try.prog 23 #[.int .i64 31] w fun e w' => e = .returned (.bool false) ∧ w' = w := by
  go_enter Try.func23, Try.ntmps23
  go_wp2
  go_ret
  exact ⟨rfl, rfl⟩
theorem rbranch_31 (w : World) : Calls Try.prog 25 #[.int .i64 31] w fun e w' => e = .returned (.bool false) ∧ w' = w := by
  go_enter Try.func25, Try.ntmps25
  go_wp2
  go_ret
  exact ⟨rfl, rfl⟩
theorem known_31 (w : World) : Calls Try.prog 26 #[.int .i64 31] w fun e w' => e = .returned (.bool true) ∧ w' = w := by
  go_enter Try.func26, Try.ntmps26
  go_wp2_with (go_at_call 24; refine (branch_31 _).mono ?_; rintro e w' ⟨rfl, rfl⟩)
  go_ret
  exact ⟨rfl, rfl⟩
theorem rknown_31 (w : World) : Calls Try.prog 27 #[.int .i64 31] w fun e w' => e = .returned (.bool true) ∧ w' = w := by
  go_enter Try.func27, Try.ntmps27
  go_wp2_with (go_at_call 25; refine (rbranch_31 _).mono ?_; rintro e w' ⟨rfl, rfl⟩)
  go_ret
  exact ⟨rfl, rfl⟩
theorem kinds_31 (stop : Int) (w : World) : Calls Try.prog 4 #[.int .i64 31, .int .i64 stop] w fun e w' => e = .returned (.bool true) ∧ Below w.heap.size w w' :=
  kinds_y 31 stop true true false false true w (by decide) (by decide) memory_31 rmem_31 load_31 rload_31 store_31 rstore_31 branch_31 rbranch_31 known_31 rknown_31 rname_31
theorem rstore_32 (w : World) : Calls Try.prog 23 #[.int .i64 32] w fun e w' => e = .returned (.bool true) ∧ w' = w := by
  go_enter Try.func23, Try.ntmps23
  go_wp2
  go_ret
  exact ⟨rfl, rfl⟩
theorem rbranch_32 (w : World) : Calls Try.prog 25 #[.int .i64 32] w fun e w' => e = .returned (.bool false) ∧ w' = w := by
  go_enter Try.func25, Try.ntmps25
  go_wp2
  go_ret
  exact ⟨rfl, rfl⟩
theorem known_32 (w : World) : Calls Try.prog 26 #[.int .i64 32] w fun e w' => e = .returned (.bool true) ∧ w' = w := by
  go_enter Try.func26, Try.ntmps26
  go_wp2_with (go_at_call 24; refine (branch_32 _).mono ?_; rintro e w' ⟨rfl, rfl⟩)
  go_ret
  exact ⟨rfl, rfl⟩
theorem rknown_32 (w : World) : Calls Try.prog 27 #[.int .i64 32] w fun e w' => e = .returned (.bool true) ∧ w' = w := by
  go_enter Try.func27, Try.ntmps27
  go_wp2_with (go_at_call 25; refine (rbranch_32 _).mono ?_; rintro e w' ⟨rfl, rfl⟩)
  go_ret
  exact ⟨rfl, rfl⟩
theorem kinds_32 (stop : Int) (w : World) : Calls Try.prog 4 #[.int .i64 32, .int .i64 stop] w fun e w' => e = .returned (.bool true) ∧ Below w.heap.size w w' :=
  kinds_y 32 stop true false true false true w (by decide) (by decide) memory_32 rmem_32 load_32 rload_32 store_32 rstore_32 branch_32 rbranch_32 known_32 rknown_32 rname_32
theorem rstore_33 (w : World) : Calls Try.prog 23 #[.int .i64 33] w fun e w' => e = .returned (.bool false) ∧ w' = w := by
  go_enter Try.func23, Try.ntmps23
  go_wp2
  go_ret
  exact ⟨rfl, rfl⟩
theorem rbranch_33 (w : World) : Calls Try.prog 25 #[.int .i64 33] w fun e w' => e = .returned (.bool false) ∧ w' = w := by
  go_enter Try.func25, Try.ntmps25
  go_wp2
  go_ret
  exact ⟨rfl, rfl⟩
theorem known_33 (w : World) : Calls Try.prog 26 #[.int .i64 33] w fun e w' => e = .returned (.bool true) ∧ w' = w := by
  go_enter Try.func26, Try.ntmps26
  go_wp2_with (go_at_call 24; refine (branch_33 _).mono ?_; rintro e w' ⟨rfl, rfl⟩)
  go_ret
  exact ⟨rfl, rfl⟩
theorem rknown_33 (w : World) : Calls Try.prog 27 #[.int .i64 33] w fun e w' => e = .returned (.bool true) ∧ w' = w := by
  go_enter Try.func27, Try.ntmps27
  go_wp2_with (go_at_call 25; refine (rbranch_33 _).mono ?_; rintro e w' ⟨rfl, rfl⟩)
  go_ret
  exact ⟨rfl, rfl⟩
theorem kinds_33 (stop : Int) (w : World) : Calls Try.prog 4 #[.int .i64 33, .int .i64 stop] w fun e w' => e = .returned (.bool true) ∧ Below w.heap.size w w' :=
  kinds_y 33 stop true true false false true w (by decide) (by decide) memory_33 rmem_33 load_33 rload_33 store_33 rstore_33 branch_33 rbranch_33 known_33 rknown_33 rname_33
theorem rstore_34 (w : World) : Calls Try.prog 23 #[.int .i64 34] w fun e w' => e = .returned (.bool true) ∧ w' = w := by
  go_enter Try.func23, Try.ntmps23
  go_wp2
  go_ret
  exact ⟨rfl, rfl⟩
theorem rbranch_34 (w : World) : Calls Try.prog 25 #[.int .i64 34] w fun e w' => e = .returned (.bool false) ∧ w' = w := by
  go_enter Try.func25, Try.ntmps25
  go_wp2
  go_ret
  exact ⟨rfl, rfl⟩
theorem known_34 (w : World) : Calls Try.prog 26 #[.int .i64 34] w fun e w' => e = .returned (.bool true) ∧ w' = w := by
  go_enter Try.func26, Try.ntmps26
  go_wp2_with (go_at_call 24; refine (branch_34 _).mono ?_; rintro e w' ⟨rfl, rfl⟩)
  go_ret
  exact ⟨rfl, rfl⟩
theorem rknown_34 (w : World) : Calls Try.prog 27 #[.int .i64 34] w fun e w' => e = .returned (.bool true) ∧ w' = w := by
  go_enter Try.func27, Try.ntmps27
  go_wp2_with (go_at_call 25; refine (rbranch_34 _).mono ?_; rintro e w' ⟨rfl, rfl⟩)
  go_ret
  exact ⟨rfl, rfl⟩
theorem kinds_34 (stop : Int) (w : World) : Calls Try.prog 4 #[.int .i64 34, .int .i64 stop] w fun e w' => e = .returned (.bool true) ∧ Below w.heap.size w w' :=
  kinds_y 34 stop true false true false true w (by decide) (by decide) memory_34 rmem_34 load_34 rload_34 store_34 rstore_34 branch_34 rbranch_34 known_34 rknown_34 rname_34
theorem rstore_35 (w : World) : Calls Try.prog 23 #[.int .i64 35] w fun e w' => e = .returned (.bool false) ∧ w' = w := by
  go_enter Try.func23, Try.ntmps23
  go_wp2
  go_ret
  exact ⟨rfl, rfl⟩
theorem rbranch_35 (w : World) : Calls Try.prog 25 #[.int .i64 35] w fun e w' => e = .returned (.bool false) ∧ w' = w := by
  go_enter Try.func25, Try.ntmps25
  go_wp2
  go_ret
  exact ⟨rfl, rfl⟩
theorem known_35 (w : World) : Calls Try.prog 26 #[.int .i64 35] w fun e w' => e = .returned (.bool true) ∧ w' = w := by
  go_enter Try.func26, Try.ntmps26
  go_wp2_with (go_at_call 24; refine (branch_35 _).mono ?_; rintro e w' ⟨rfl, rfl⟩)
  go_ret
  exact ⟨rfl, rfl⟩
theorem rknown_35 (w : World) : Calls Try.prog 27 #[.int .i64 35] w fun e w' => e = .returned (.bool true) ∧ w' = w := by
  go_enter Try.func27, Try.ntmps27
  go_wp2_with (go_at_call 25; refine (rbranch_35 _).mono ?_; rintro e w' ⟨rfl, rfl⟩)
  go_ret
  exact ⟨rfl, rfl⟩
theorem kinds_35 (stop : Int) (w : World) : Calls Try.prog 4 #[.int .i64 35, .int .i64 stop] w fun e w' => e = .returned (.bool true) ∧ Below w.heap.size w w' :=
  kinds_y 35 stop true true false false true w (by decide) (by decide) memory_35 rmem_35 load_35 rload_35 store_35 rstore_35 branch_35 rbranch_35 known_35 rknown_35 rname_35
theorem rstore_36 (w : World) : Calls Try.prog 23 #[.int .i64 36] w fun e w' => e = .returned (.bool true) ∧ w' = w := by
  go_enter Try.func23, Try.ntmps23
  go_wp2
  go_ret
  exact ⟨rfl, rfl⟩
theorem rbranch_36 (w : World) : Calls Try.prog 25 #[.int .i64 36] w fun e w' => e = .returned (.bool false) ∧ w' = w := by
  go_enter Try.func25, Try.ntmps25
  go_wp2
  go_ret
  exact ⟨rfl, rfl⟩
theorem known_36 (w : World) : Calls Try.prog 26 #[.int .i64 36] w fun e w' => e = .returned (.bool true) ∧ w' = w := by
  go_enter Try.func26, Try.ntmps26
  go_wp2_with (go_at_call 24; refine (branch_36 _).mono ?_; rintro e w' ⟨rfl, rfl⟩)
  go_ret
  exact ⟨rfl, rfl⟩
theorem rknown_36 (w : World) : Calls Try.prog 27 #[.int .i64 36] w fun e w' => e = .returned (.bool true) ∧ w' = w := by
  go_enter Try.func27, Try.ntmps27
  go_wp2_with (go_at_call 25; refine (rbranch_36 _).mono ?_; rintro e w' ⟨rfl, rfl⟩)
  go_ret
  exact ⟨rfl, rfl⟩
theorem kinds_36 (stop : Int) (w : World) : Calls Try.prog 4 #[.int .i64 36, .int .i64 stop] w fun e w' => e = .returned (.bool true) ∧ Below w.heap.size w w' :=
  kinds_y 36 stop true false true false true w (by decide) (by decide) memory_36 rmem_36 load_36 rload_36 store_36 rstore_36 branch_36 rbranch_36 known_36 rknown_36 rname_36
theorem rstore_37 (w : World) : Calls Try.prog 23 #[.int .i64 37] w fun e w' => e = .returned (.bool false) ∧ w' = w := by
  go_enter Try.func23, Try.ntmps23
  go_wp2
  go_ret
  exact ⟨rfl, rfl⟩
theorem rbranch_37 (w : World) : Calls Try.prog 25 #[.int .i64 37] w fun e w' => e = .returned (.bool false) ∧ w' = w := by
  go_enter Try.func25, Try.ntmps25
  go_wp2
  go_ret
  exact ⟨rfl, rfl⟩
theorem known_37 (w : World) : Calls Try.prog 26 #[.int .i64 37] w fun e w' => e = .returned (.bool true) ∧ w' = w := by
  go_enter Try.func26, Try.ntmps26
  go_wp2_with (go_at_call 24; refine (branch_37 _).mono ?_; rintro e w' ⟨rfl, rfl⟩)
  go_ret
  exact ⟨rfl, rfl⟩
theorem rknown_37 (w : World) : Calls Try.prog 27 #[.int .i64 37] w fun e w' => e = .returned (.bool true) ∧ w' = w := by
  go_enter Try.func27, Try.ntmps27
  go_wp2_with (go_at_call 25; refine (rbranch_37 _).mono ?_; rintro e w' ⟨rfl, rfl⟩)
  go_ret
  exact ⟨rfl, rfl⟩
theorem kinds_37 (stop : Int) (w : World) : Calls Try.prog 4 #[.int .i64 37, .int .i64 stop] w fun e w' => e = .returned (.bool true) ∧ Below w.heap.size w w' :=
  kinds_y 37 stop false false false false true w (by decide) (by decide) memory_37 rmem_37 load_37 rload_37 store_37 rstore_37 branch_37 rbranch_37 known_37 rknown_37 rname_37
theorem rstore_38 (w : World) : Calls Try.prog 23 #[.int .i64 38] w fun e w' => e = .returned (.bool false) ∧ w' = w := by
  go_enter Try.func23, Try.ntmps23
  go_wp2
  go_ret
  exact ⟨rfl, rfl⟩
theorem rbranch_38 (w : World) : Calls Try.prog 25 #[.int .i64 38] w fun e w' => e = .returned (.bool false) ∧ w' = w := by
  go_enter Try.func25, Try.ntmps25
  go_wp2
  go_ret
  exact ⟨rfl, rfl⟩
theorem known_38 (w : World) : Calls Try.prog 26 #[.int .i64 38] w fun e w' => e = .returned (.bool true) ∧ w' = w := by
  go_enter Try.func26, Try.ntmps26
  go_wp2_with (go_at_call 24; refine (branch_38 _).mono ?_; rintro e w' ⟨rfl, rfl⟩)
  go_ret
  exact ⟨rfl, rfl⟩
theorem rknown_38 (w : World) : Calls Try.prog 27 #[.int .i64 38] w fun e w' => e = .returned (.bool true) ∧ w' = w := by
  go_enter Try.func27, Try.ntmps27
  go_wp2_with (go_at_call 25; refine (rbranch_38 _).mono ?_; rintro e w' ⟨rfl, rfl⟩)
  go_ret
  exact ⟨rfl, rfl⟩
theorem kinds_38 (stop : Int) (w : World) : Calls Try.prog 4 #[.int .i64 38, .int .i64 stop] w fun e w' => e = .returned (.bool true) ∧ Below w.heap.size w w' :=
  kinds_y 38 stop false false false false true w (by decide) (by decide) memory_38 rmem_38 load_38 rload_38 store_38 rstore_38 branch_38 rbranch_38 known_38 rknown_38 rname_38
theorem rstore_39 (w : World) : Calls Try.prog 23 #[.int .i64 39] w fun e w' => e = .returned (.bool false) ∧ w' = w := by
  go_enter Try.func23, Try.ntmps23
  go_wp2
  go_ret
  exact ⟨rfl, rfl⟩
theorem rbranch_39 (w : World) : Calls Try.prog 25 #[.int .i64 39] w fun e w' => e = .returned (.bool false) ∧ w' = w := by
  go_enter Try.func25, Try.ntmps25
  go_wp2
  go_ret
  exact ⟨rfl, rfl⟩
theorem known_39 (w : World) : Calls Try.prog 26 #[.int .i64 39] w fun e w' => e = .returned (.bool true) ∧ w' = w := by
  go_enter Try.func26, Try.ntmps26
  go_wp2_with (go_at_call 24; refine (branch_39 _).mono ?_; rintro e w' ⟨rfl, rfl⟩)
  go_ret
  exact ⟨rfl, rfl⟩
theorem rknown_39 (w : World) : Calls Try.prog 27 #[.int .i64 39] w fun e w' => e = .returned (.bool true) ∧ w' = w := by
  go_enter Try.func27, Try.ntmps27
  go_wp2_with (go_at_call 25; refine (rbranch_39 _).mono ?_; rintro e w' ⟨rfl, rfl⟩)
  go_ret
  exact ⟨rfl, rfl⟩
theorem kinds_39 (stop : Int) (w : World) : Calls Try.prog 4 #[.int .i64 39, .int .i64 stop] w fun e w' => e = .returned (.bool true) ∧ Below w.heap.size w w' :=
  kinds_y 39 stop false false false false true w (by decide) (by decide) memory_39 rmem_39 load_39 rload_39 store_39 rstore_39 branch_39 rbranch_39 known_39 rknown_39 rname_39
theorem rstore_40 (w : World) : Calls Try.prog 23 #[.int .i64 40] w fun e w' => e = .returned (.bool false) ∧ w' = w := by
  go_enter Try.func23, Try.ntmps23
  go_wp2
  go_ret
  exact ⟨rfl, rfl⟩
theorem rbranch_40 (w : World) : Calls Try.prog 25 #[.int .i64 40] w fun e w' => e = .returned (.bool false) ∧ w' = w := by
  go_enter Try.func25, Try.ntmps25
  go_wp2
  go_ret
  exact ⟨rfl, rfl⟩
theorem known_40 (w : World) : Calls Try.prog 26 #[.int .i64 40] w fun e w' => e = .returned (.bool true) ∧ w' = w := by
  go_enter Try.func26, Try.ntmps26
  go_wp2_with (go_at_call 24; refine (branch_40 _).mono ?_; rintro e w' ⟨rfl, rfl⟩)
  go_ret
  exact ⟨rfl, rfl⟩
theorem rknown_40 (w : World) : Calls Try.prog 27 #[.int .i64 40] w fun e w' => e = .returned (.bool true) ∧ w' = w := by
  go_enter Try.func27, Try.ntmps27
  go_wp2_with (go_at_call 25; refine (rbranch_40 _).mono ?_; rintro e w' ⟨rfl, rfl⟩)
  go_ret
  exact ⟨rfl, rfl⟩
theorem kinds_40 (stop : Int) (w : World) : Calls Try.prog 4 #[.int .i64 40, .int .i64 stop] w fun e w' => e = .returned (.bool true) ∧ Below w.heap.size w w' :=
  kinds_y 40 stop false false false false true w (by decide) (by decide) memory_40 rmem_40 load_40 rload_40 store_40 rstore_40 branch_40 rbranch_40 known_40 rknown_40 rname_40
theorem rstore_41 (w : World) : Calls Try.prog 23 #[.int .i64 41] w fun e w' => e = .returned (.bool false) ∧ w' = w := by
  go_enter Try.func23, Try.ntmps23
  go_wp2
  go_ret
  exact ⟨rfl, rfl⟩
theorem rbranch_41 (w : World) : Calls Try.prog 25 #[.int .i64 41] w fun e w' => e = .returned (.bool false) ∧ w' = w := by
  go_enter Try.func25, Try.ntmps25
  go_wp2
  go_ret
  exact ⟨rfl, rfl⟩
theorem known_41 (w : World) : Calls Try.prog 26 #[.int .i64 41] w fun e w' => e = .returned (.bool true) ∧ w' = w := by
  go_enter Try.func26, Try.ntmps26
  go_wp2_with (go_at_call 24; refine (branch_41 _).mono ?_; rintro e w' ⟨rfl, rfl⟩)
  go_ret
  exact ⟨rfl, rfl⟩
theorem rknown_41 (w : World) : Calls Try.prog 27 #[.int .i64 41] w fun e w' => e = .returned (.bool true) ∧ w' = w := by
  go_enter Try.func27, Try.ntmps27
  go_wp2_with (go_at_call 25; refine (rbranch_41 _).mono ?_; rintro e w' ⟨rfl, rfl⟩)
  go_ret
  exact ⟨rfl, rfl⟩
theorem kinds_41 (stop : Int) (w : World) : Calls Try.prog 4 #[.int .i64 41, .int .i64 stop] w fun e w' => e = .returned (.bool true) ∧ Below w.heap.size w w' :=
  kinds_y 41 stop false false false false true w (by decide) (by decide) memory_41 rmem_41 load_41 rload_41 store_41 rstore_41 branch_41 rbranch_41 known_41 rknown_41 rname_41
theorem rstore_42 (w : World) : Calls Try.prog 23 #[.int .i64 42] w fun e w' => e = .returned (.bool false) ∧ w' = w := by
  go_enter Try.func23, Try.ntmps23
  go_wp2
  go_ret
  exact ⟨rfl, rfl⟩
theorem rbranch_42 (w : World) : Calls Try.prog 25 #[.int .i64 42] w fun e w' => e = .returned (.bool false) ∧ w' = w := by
  go_enter Try.func25, Try.ntmps25
  go_wp2
  go_ret
  exact ⟨rfl, rfl⟩
theorem known_42 (w : World) : Calls Try.prog 26 #[.int .i64 42] w fun e w' => e = .returned (.bool true) ∧ w' = w := by
  go_enter Try.func26, Try.ntmps26
  go_wp2_with (go_at_call 24; refine (branch_42 _).mono ?_; rintro e w' ⟨rfl, rfl⟩)
  go_ret
  exact ⟨rfl, rfl⟩
theorem rknown_42 (w : World) : Calls Try.prog 27 #[.int .i64 42] w fun e w' => e = .returned (.bool true) ∧ w' = w := by
  go_enter Try.func27, Try.ntmps27
  go_wp2_with (go_at_call 25; refine (rbranch_42 _).mono ?_; rintro e w' ⟨rfl, rfl⟩)
  go_ret
  exact ⟨rfl, rfl⟩
theorem kinds_42 (stop : Int) (w : World) : Calls Try.prog 4 #[.int .i64 42, .int .i64 stop] w fun e w' => e = .returned (.bool true) ∧ Below w.heap.size w w' :=
  kinds_y 42 stop false false false false true w (by decide) (by decide) memory_42 rmem_42 load_42 rload_42 store_42 rstore_42 branch_42 rbranch_42 known_42 rknown_42 rname_42
theorem kinds_any (op stop : Int) (w : World) : Calls Try.prog 4 #[.int .i64 op, .int .i64 stop] w fun e w' => e = .returned (.bool true) ∧ Below w.heap.size w w' := by
  by_cases h : 0 ≤ op ∧ op ≤ 42
  · have : op = 0 ∨ op = 1 ∨ op = 2 ∨ op = 3 ∨ op = 4 ∨ op = 5 ∨ op = 6 ∨ op = 7 ∨ op = 8 ∨ op = 9 ∨ op = 10 ∨ op = 11 ∨ op = 12 ∨ op = 13 ∨ op = 14 ∨ op = 15 ∨ op = 16 ∨ op = 17 ∨ op = 18 ∨ op = 19 ∨ op = 20 ∨ op = 21 ∨ op = 22 ∨ op = 23 ∨ op = 24 ∨ op = 25 ∨ op = 26 ∨ op = 27 ∨ op = 28 ∨ op = 29 ∨ op = 30 ∨ op = 31 ∨ op = 32 ∨ op = 33 ∨ op = 34 ∨ op = 35 ∨ op = 36 ∨ op = 37 ∨ op = 38 ∨ op = 39 ∨ op = 40 ∨ op = 41 ∨ op = 42 := by omega
    rcases this with rfl | rfl | rfl | rfl | rfl | rfl | rfl | rfl | rfl | rfl | rfl | rfl | rfl | rfl | rfl | rfl | rfl | rfl | rfl | rfl | rfl | rfl | rfl | rfl | rfl | rfl | rfl | rfl | rfl | rfl | rfl | rfl | rfl | rfl | rfl | rfl | rfl | rfl | rfl | rfl | rfl | rfl | rfl
    · exact kinds_0 stop w
    · exact kinds_1 stop w
    · exact kinds_2 stop w
    · exact kinds_3 stop w
    · exact kinds_4 stop w
    · exact kinds_5 stop w
    · exact kinds_6 stop w
    · exact kinds_7 stop w
    · exact kinds_8 stop w
    · exact kinds_9 stop w
    · exact kinds_10 stop w
    · exact kinds_11 stop w
    · exact kinds_12 stop w
    · exact kinds_13 stop w
    · exact kinds_14 stop w
    · exact kinds_15 stop w
    · exact kinds_16 stop w
    · exact kinds_17 stop w
    · exact kinds_18 stop w
    · exact kinds_19 stop w
    · exact kinds_20 stop w
    · exact kinds_21 stop w
    · exact kinds_22 stop w
    · exact kinds_23 stop w
    · exact kinds_24 stop w
    · exact kinds_25 stop w
    · exact kinds_26 stop w
    · exact kinds_27 stop w
    · exact kinds_28 stop w
    · exact kinds_29 stop w
    · exact kinds_30 stop w
    · exact kinds_31 stop w
    · exact kinds_32 stop w
    · exact kinds_33 stop w
    · exact kinds_34 stop w
    · exact kinds_35 stop w
    · exact kinds_36 stop w
    · exact kinds_37 stop w
    · exact kinds_38 stop w
    · exact kinds_39 stop w
    · exact kinds_40 stop w
    · exact kinds_41 stop w
    · exact kinds_42 stop w
  · by_cases h0 : op < 0
    · exact kinds_a op stop w h0 (fun w => rname_n op w (by omega))
    · exact kinds_b op stop w (by omega) (by omega) (fun w => rname_n op w (by omega))
end Go.Proofs.Ytejdlhafdnpcmaa
