import Derived.Test.YtnbpgoacooddjaaFCkE
import Derived.Test.YtnbpgoacooddjaaFIo0
import Derived.Test.YtnbpgoacooddjaaFWrA
import Derived.Test.YtnbpgoacooddjaaFWrB
import Derived.Test.YtnbpgoacooddjaaFWrC
namespace Go.Proofs.Ytnbpgoacooddjaa.Fr
open Go.RowKit Go.Shelf
set_option linter.unusedVariables false
set_option maxRecDepth 100000 in
set_option maxHeartbeats 2000000 in
theorem in_0 (d n m a c i : Int) (w : World) (hok : ok_0 d n m a c i = true) : Calls Try.prog 71 #[.agg #[.int .i64 0, .int .i64 d, .int .i64 n, .int .i64 m, .int .i64 a, .int .i64 c, .int .i64 i]] w (RowP [] w) := by
  refine in_make 0 d n m a c i _ w fun w => ?_
  refine registers_g 0 d n m a c i 152 189 [] (fun _ => True) w (by simp) (fun W => ?_) (fun W => read_make 0 d n m a c i W) (fun Bi W h => read_0 d n m a c i Bi W h) (fun args w => rfl) (fun args w => rfl)
  have := check_0 d n m a c i W
  rw [hok] at this
  exact this
set_option maxRecDepth 100000 in
set_option maxHeartbeats 2000000 in
theorem out_0 (d n m a c i : Int) (w : World) (hok : ok_0 d n m a c i = true) : Calls Try.prog 149 #[.agg #[.int .i64 0, .int .i64 d, .int .i64 n, .int .i64 m, .int .i64 a, .int .i64 c, .int .i64 i]] w (RowP [] w) := by
  refine out_make 0 d n m a c i _ w fun w => ?_
  refine registers_g 0 d n m a c i 186 203 [] (fun _ => True) w (by simp) (fun W => ?_) (fun W => written_make 0 d n m a c i W) (fun Bi W h => written_0 d n m a c i Bi W h) (fun args w => rfl) (fun args w => rfl)
  have := check_0 d n m a c i W
  rw [hok] at this
  exact this
set_option maxRecDepth 100000 in
set_option maxHeartbeats 2000000 in
theorem in_1 (d n m a c i : Int) (w : World) (hok : ok_1 d n m a c i = true) : Calls Try.prog 71 #[.agg #[.int .i64 1, .int .i64 d, .int .i64 n, .int .i64 m, .int .i64 a, .int .i64 c, .int .i64 i]] w (RowP [] w) := by
  refine in_make 1 d n m a c i _ w fun w => ?_
  refine registers_g 1 d n m a c i 152 189 [] (fun _ => True) w (by simp) (fun W => ?_) (fun W => read_make 1 d n m a c i W) (fun Bi W h => read_1 d n m a c i Bi W h) (fun args w => rfl) (fun args w => rfl)
  have := check_1 d n m a c i W
  rw [hok] at this
  exact this
set_option maxRecDepth 100000 in
set_option maxHeartbeats 2000000 in
theorem out_1 (d n m a c i : Int) (w : World) (hok : ok_1 d n m a c i = true) : Calls Try.prog 149 #[.agg #[.int .i64 1, .int .i64 d, .int .i64 n, .int .i64 m, .int .i64 a, .int .i64 c, .int .i64 i]] w (RowP [] w) := by
  refine out_make 1 d n m a c i _ w fun w => ?_
  refine registers_g 1 d n m a c i 186 203 [] (fun _ => True) w (by simp) (fun W => ?_) (fun W => written_make 1 d n m a c i W) (fun Bi W h => written_1 d n m a c i Bi W h) (fun args w => rfl) (fun args w => rfl)
  have := check_1 d n m a c i W
  rw [hok] at this
  exact this
set_option maxRecDepth 100000 in
set_option maxHeartbeats 2000000 in
theorem in_2 (d n m a c i : Int) (w : World) (hok : ok_2 d n m a c i = true) : Calls Try.prog 71 #[.agg #[.int .i64 2, .int .i64 d, .int .i64 n, .int .i64 m, .int .i64 a, .int .i64 c, .int .i64 i]] w (RowP [] w) := by
  refine in_make 2 d n m a c i _ w fun w => ?_
  refine registers_g 2 d n m a c i 152 189 [] (fun _ => True) w (by simp) (fun W => ?_) (fun W => read_make 2 d n m a c i W) (fun Bi W h => read_2 d n m a c i Bi W h) (fun args w => rfl) (fun args w => rfl)
  have := check_2 d n m a c i W
  rw [hok] at this
  exact this
set_option maxRecDepth 100000 in
set_option maxHeartbeats 2000000 in
theorem out_2 (d n m a c i : Int) (w : World) (hok : ok_2 d n m a c i = true) : Calls Try.prog 149 #[.agg #[.int .i64 2, .int .i64 d, .int .i64 n, .int .i64 m, .int .i64 a, .int .i64 c, .int .i64 i]] w (RowP [d] w) := by
  refine out_make 2 d n m a c i _ w fun w => ?_
  refine registers_g 2 d n m a c i 186 203 [d] (fun _ => True) w (by simp) (fun W => ?_) (fun W => written_make 2 d n m a c i W) (fun Bi W h => written_2 d n m a c i Bi W h) (fun args w => rfl) (fun args w => rfl)
  have := check_2 d n m a c i W
  rw [hok] at this
  exact this
set_option maxRecDepth 100000 in
set_option maxHeartbeats 2000000 in
theorem in_3 (d n m a c i : Int) (w : World) (hok : ok_3 d n m a c i = true) : Calls Try.prog 71 #[.agg #[.int .i64 3, .int .i64 d, .int .i64 n, .int .i64 m, .int .i64 a, .int .i64 c, .int .i64 i]] w (RowP [d] w) := by
  refine in_make 3 d n m a c i _ w fun w => ?_
  refine registers_g 3 d n m a c i 152 189 [d] (fun _ => True) w (by simp) (fun W => ?_) (fun W => read_make 3 d n m a c i W) (fun Bi W h => read_3 d n m a c i Bi W h) (fun args w => rfl) (fun args w => rfl)
  have := check_3 d n m a c i W
  rw [hok] at this
  exact this
set_option maxRecDepth 100000 in
set_option maxHeartbeats 2000000 in
theorem out_3 (d n m a c i : Int) (w : World) (hok : ok_3 d n m a c i = true) : Calls Try.prog 149 #[.agg #[.int .i64 3, .int .i64 d, .int .i64 n, .int .i64 m, .int .i64 a, .int .i64 c, .int .i64 i]] w (RowP [d] w) := by
  refine out_make 3 d n m a c i _ w fun w => ?_
  refine registers_g 3 d n m a c i 186 203 [d] (fun _ => True) w (by simp) (fun W => ?_) (fun W => written_make 3 d n m a c i W) (fun Bi W h => written_3 d n m a c i Bi W h) (fun args w => rfl) (fun args w => rfl)
  have := check_3 d n m a c i W
  rw [hok] at this
  exact this
set_option maxRecDepth 100000 in
set_option maxHeartbeats 2000000 in
theorem in_4 (d n m a c i : Int) (w : World) (hok : ok_4 d n m a c i = true) : Calls Try.prog 71 #[.agg #[.int .i64 4, .int .i64 d, .int .i64 n, .int .i64 m, .int .i64 a, .int .i64 c, .int .i64 i]] w (RowP [(spOr n)] w) := by
  refine in_make 4 d n m a c i _ w fun w => ?_
  refine registers_g 4 d n m a c i 152 189 [(spOr n)] (fun _ => True) w (by simp) (fun W => ?_) (fun W => read_make 4 d n m a c i W) (fun Bi W h => read_4 d n m a c i Bi W h) (fun args w => rfl) (fun args w => rfl)
  have := check_4 d n m a c i W
  rw [hok] at this
  exact this
set_option maxRecDepth 100000 in
set_option maxHeartbeats 2000000 in
theorem out_4 (d n m a c i : Int) (w : World) (hok : ok_4 d n m a c i = true) : Calls Try.prog 149 #[.agg #[.int .i64 4, .int .i64 d, .int .i64 n, .int .i64 m, .int .i64 a, .int .i64 c, .int .i64 i]] w (RowP [(spOr d)] w) := by
  refine out_make 4 d n m a c i _ w fun w => ?_
  refine registers_g 4 d n m a c i 186 203 [(spOr d)] (fun _ => True) w (by simp) (fun W => ?_) (fun W => written_make 4 d n m a c i W) (fun Bi W h => written_4 d n m a c i Bi W h) (fun args w => rfl) (fun args w => rfl)
  have := check_4 d n m a c i W
  rw [hok] at this
  exact this
set_option maxRecDepth 100000 in
set_option maxHeartbeats 2000000 in
theorem in_5 (d n m a c i : Int) (w : World) (hok : ok_5 d n m a c i = true) : Calls Try.prog 71 #[.agg #[.int .i64 5, .int .i64 d, .int .i64 n, .int .i64 m, .int .i64 a, .int .i64 c, .int .i64 i]] w (RowP [(spOr n)] w) := by
  refine in_make 5 d n m a c i _ w fun w => ?_
  refine registers_g 5 d n m a c i 152 189 [(spOr n)] (fun _ => True) w (by simp) (fun W => ?_) (fun W => read_make 5 d n m a c i W) (fun Bi W h => read_5 d n m a c i Bi W h) (fun args w => rfl) (fun args w => rfl)
  have := check_5 d n m a c i W
  rw [hok] at this
  exact this
set_option maxRecDepth 100000 in
set_option maxHeartbeats 2000000 in
theorem out_5 (d n m a c i : Int) (w : World) (hok : ok_5 d n m a c i = true) : Calls Try.prog 149 #[.agg #[.int .i64 5, .int .i64 d, .int .i64 n, .int .i64 m, .int .i64 a, .int .i64 c, .int .i64 i]] w (RowP [(spOr d)] w) := by
  refine out_make 5 d n m a c i _ w fun w => ?_
  refine registers_g 5 d n m a c i 186 203 [(spOr d)] (fun _ => True) w (by simp) (fun W => ?_) (fun W => written_make 5 d n m a c i W) (fun Bi W h => written_5 d n m a c i Bi W h) (fun args w => rfl) (fun args w => rfl)
  have := check_5 d n m a c i W
  rw [hok] at this
  exact this
set_option maxRecDepth 100000 in
set_option maxHeartbeats 2000000 in
theorem in_6 (d n m a c i : Int) (w : World) (hok : ok_6 d n m a c i = true) : Calls Try.prog 71 #[.agg #[.int .i64 6, .int .i64 d, .int .i64 n, .int .i64 m, .int .i64 a, .int .i64 c, .int .i64 i]] w (RowP [(spOr n)] w) := by
  refine in_make 6 d n m a c i _ w fun w => ?_
  refine registers_g 6 d n m a c i 152 189 [(spOr n)] (fun _ => True) w (by simp) (fun W => ?_) (fun W => read_make 6 d n m a c i W) (fun Bi W h => read_6 d n m a c i Bi W h) (fun args w => rfl) (fun args w => rfl)
  have := check_6 d n m a c i W
  rw [hok] at this
  exact this
set_option maxRecDepth 100000 in
set_option maxHeartbeats 2000000 in
theorem out_6 (d n m a c i : Int) (w : World) (hok : ok_6 d n m a c i = true) : Calls Try.prog 149 #[.agg #[.int .i64 6, .int .i64 d, .int .i64 n, .int .i64 m, .int .i64 a, .int .i64 c, .int .i64 i]] w (RowP [d, 33] w) := by
  refine out_make 6 d n m a c i _ w fun w => ?_
  refine registers_g 6 d n m a c i 186 203 [d, 33] (fun _ => True) w (by simp) (fun W => ?_) (fun W => written_make 6 d n m a c i W) (fun Bi W h => written_6 d n m a c i Bi W h) (fun args w => rfl) (fun args w => rfl)
  have := check_6 d n m a c i W
  rw [hok] at this
  exact this
set_option maxRecDepth 100000 in
set_option maxHeartbeats 2000000 in
theorem in_7 (d n m a c i : Int) (w : World) (hok : ok_7 d n m a c i = true) : Calls Try.prog 71 #[.agg #[.int .i64 7, .int .i64 d, .int .i64 n, .int .i64 m, .int .i64 a, .int .i64 c, .int .i64 i]] w (RowP [n, m] w) := by
  refine in_make 7 d n m a c i _ w fun w => ?_
  refine registers_g 7 d n m a c i 152 189 [n, m] (fun _ => True) w (by simp) (fun W => ?_) (fun W => read_make 7 d n m a c i W) (fun Bi W h => read_7 d n m a c i Bi W h) (fun args w => rfl) (fun args w => rfl)
  have := check_7 d n m a c i W
  rw [hok] at this
  exact this
set_option maxRecDepth 100000 in
set_option maxHeartbeats 2000000 in
theorem out_7 (d n m a c i : Int) (w : World) (hok : ok_7 d n m a c i = true) : Calls Try.prog 149 #[.agg #[.int .i64 7, .int .i64 d, .int .i64 n, .int .i64 m, .int .i64 a, .int .i64 c, .int .i64 i]] w (RowP [d] w) := by
  refine out_make 7 d n m a c i _ w fun w => ?_
  refine registers_g 7 d n m a c i 186 203 [d] (fun _ => True) w (by simp) (fun W => ?_) (fun W => written_make 7 d n m a c i W) (fun Bi W h => written_7 d n m a c i Bi W h) (fun args w => rfl) (fun args w => rfl)
  have := check_7 d n m a c i W
  rw [hok] at this
  exact this
set_option maxRecDepth 100000 in
set_option maxHeartbeats 2000000 in
theorem in_8 (d n m a c i : Int) (w : World) (hok : ok_8 d n m a c i = true) : Calls Try.prog 71 #[.agg #[.int .i64 8, .int .i64 d, .int .i64 n, .int .i64 m, .int .i64 a, .int .i64 c, .int .i64 i]] w (RowP [n, m] w) := by
  refine in_make 8 d n m a c i _ w fun w => ?_
  refine registers_g 8 d n m a c i 152 189 [n, m] (fun _ => True) w (by simp) (fun W => ?_) (fun W => read_make 8 d n m a c i W) (fun Bi W h => read_8 d n m a c i Bi W h) (fun args w => rfl) (fun args w => rfl)
  have := check_8 d n m a c i W
  rw [hok] at this
  exact this
set_option maxRecDepth 100000 in
set_option maxHeartbeats 2000000 in
theorem out_8 (d n m a c i : Int) (w : World) (hok : ok_8 d n m a c i = true) : Calls Try.prog 149 #[.agg #[.int .i64 8, .int .i64 d, .int .i64 n, .int .i64 m, .int .i64 a, .int .i64 c, .int .i64 i]] w (RowP [d] w) := by
  refine out_make 8 d n m a c i _ w fun w => ?_
  refine registers_g 8 d n m a c i 186 203 [d] (fun _ => True) w (by simp) (fun W => ?_) (fun W => written_make 8 d n m a c i W) (fun Bi W h => written_8 d n m a c i Bi W h) (fun args w => rfl) (fun args w => rfl)
  have := check_8 d n m a c i W
  rw [hok] at this
  exact this
set_option maxRecDepth 100000 in
set_option maxHeartbeats 2000000 in
theorem in_9 (d n m a c i : Int) (w : World) (hok : ok_9 d n m a c i = true) : Calls Try.prog 71 #[.agg #[.int .i64 9, .int .i64 d, .int .i64 n, .int .i64 m, .int .i64 a, .int .i64 c, .int .i64 i]] w (RowP [n, m] w) := by
  refine in_make 9 d n m a c i _ w fun w => ?_
  refine registers_g 9 d n m a c i 152 189 [n, m] (fun _ => True) w (by simp) (fun W => ?_) (fun W => read_make 9 d n m a c i W) (fun Bi W h => read_9 d n m a c i Bi W h) (fun args w => rfl) (fun args w => rfl)
  have := check_9 d n m a c i W
  rw [hok] at this
  exact this
set_option maxRecDepth 100000 in
set_option maxHeartbeats 2000000 in
theorem out_9 (d n m a c i : Int) (w : World) (hok : ok_9 d n m a c i = true) : Calls Try.prog 149 #[.agg #[.int .i64 9, .int .i64 d, .int .i64 n, .int .i64 m, .int .i64 a, .int .i64 c, .int .i64 i]] w (RowP [d, 33] w) := by
  refine out_make 9 d n m a c i _ w fun w => ?_
  refine registers_g 9 d n m a c i 186 203 [d, 33] (fun _ => True) w (by simp) (fun W => ?_) (fun W => written_make 9 d n m a c i W) (fun Bi W h => written_9 d n m a c i Bi W h) (fun args w => rfl) (fun args w => rfl)
  have := check_9 d n m a c i W
  rw [hok] at this
  exact this
set_option maxRecDepth 100000 in
set_option maxHeartbeats 2000000 in
theorem in_10 (d n m a c i : Int) (w : World) (hok : ok_10 d n m a c i = true) : Calls Try.prog 71 #[.agg #[.int .i64 10, .int .i64 d, .int .i64 n, .int .i64 m, .int .i64 a, .int .i64 c, .int .i64 i]] w (RowP [n, m] w) := by
  refine in_make 10 d n m a c i _ w fun w => ?_
  refine registers_g 10 d n m a c i 152 189 [n, m] (fun _ => True) w (by simp) (fun W => ?_) (fun W => read_make 10 d n m a c i W) (fun Bi W h => read_10 d n m a c i Bi W h) (fun args w => rfl) (fun args w => rfl)
  have := check_10 d n m a c i W
  rw [hok] at this
  exact this
set_option maxRecDepth 100000 in
set_option maxHeartbeats 2000000 in
theorem out_10 (d n m a c i : Int) (w : World) (hok : ok_10 d n m a c i = true) : Calls Try.prog 149 #[.agg #[.int .i64 10, .int .i64 d, .int .i64 n, .int .i64 m, .int .i64 a, .int .i64 c, .int .i64 i]] w (RowP [d] w) := by
  refine out_make 10 d n m a c i _ w fun w => ?_
  refine registers_g 10 d n m a c i 186 203 [d] (fun _ => True) w (by simp) (fun W => ?_) (fun W => written_make 10 d n m a c i W) (fun Bi W h => written_10 d n m a c i Bi W h) (fun args w => rfl) (fun args w => rfl)
  have := check_10 d n m a c i W
  rw [hok] at this
  exact this
set_option maxRecDepth 100000 in
set_option maxHeartbeats 2000000 in
theorem in_11 (d n m a c i : Int) (w : World) (hok : ok_11 d n m a c i = true) : Calls Try.prog 71 #[.agg #[.int .i64 11, .int .i64 d, .int .i64 n, .int .i64 m, .int .i64 a, .int .i64 c, .int .i64 i]] w (RowP [n, m] w) := by
  refine in_make 11 d n m a c i _ w fun w => ?_
  refine registers_g 11 d n m a c i 152 189 [n, m] (fun _ => True) w (by simp) (fun W => ?_) (fun W => read_make 11 d n m a c i W) (fun Bi W h => read_11 d n m a c i Bi W h) (fun args w => rfl) (fun args w => rfl)
  have := check_11 d n m a c i W
  rw [hok] at this
  exact this
set_option maxRecDepth 100000 in
set_option maxHeartbeats 2000000 in
theorem out_11 (d n m a c i : Int) (w : World) (hok : ok_11 d n m a c i = true) : Calls Try.prog 149 #[.agg #[.int .i64 11, .int .i64 d, .int .i64 n, .int .i64 m, .int .i64 a, .int .i64 c, .int .i64 i]] w (RowP [d] w) := by
  refine out_make 11 d n m a c i _ w fun w => ?_
  refine registers_g 11 d n m a c i 186 203 [d] (fun _ => True) w (by simp) (fun W => ?_) (fun W => written_make 11 d n m a c i W) (fun Bi W h => written_11 d n m a c i Bi W h) (fun args w => rfl) (fun args w => rfl)
  have := check_11 d n m a c i W
  rw [hok] at this
  exact this
set_option maxRecDepth 100000 in
set_option maxHeartbeats 2000000 in
theorem in_12 (d n m a c i : Int) (w : World) (hok : ok_12 d n m a c i = true) : Calls Try.prog 71 #[.agg #[.int .i64 12, .int .i64 d, .int .i64 n, .int .i64 m, .int .i64 a, .int .i64 c, .int .i64 i]] w (RowP [n, m] w) := by
  refine in_make 12 d n m a c i _ w fun w => ?_
  refine registers_g 12 d n m a c i 152 189 [n, m] (fun _ => True) w (by simp) (fun W => ?_) (fun W => read_make 12 d n m a c i W) (fun Bi W h => read_12 d n m a c i Bi W h) (fun args w => rfl) (fun args w => rfl)
  have := check_12 d n m a c i W
  rw [hok] at this
  exact this
set_option maxRecDepth 100000 in
set_option maxHeartbeats 2000000 in
theorem out_12 (d n m a c i : Int) (w : World) (hok : ok_12 d n m a c i = true) : Calls Try.prog 149 #[.agg #[.int .i64 12, .int .i64 d, .int .i64 n, .int .i64 m, .int .i64 a, .int .i64 c, .int .i64 i]] w (RowP [d] w) := by
  refine out_make 12 d n m a c i _ w fun w => ?_
  refine registers_g 12 d n m a c i 186 203 [d] (fun _ => True) w (by simp) (fun W => ?_) (fun W => written_make 12 d n m a c i W) (fun Bi W h => written_12 d n m a c i Bi W h) (fun args w => rfl) (fun args w => rfl)
  have := check_12 d n m a c i W
  rw [hok] at this
  exact this
set_option maxRecDepth 100000 in
set_option maxHeartbeats 2000000 in
theorem in_13 (d n m a c i : Int) (w : World) (hok : ok_13 d n m a c i = true) : Calls Try.prog 71 #[.agg #[.int .i64 13, .int .i64 d, .int .i64 n, .int .i64 m, .int .i64 a, .int .i64 c, .int .i64 i]] w (RowP [n, m, a] w) := by
  refine in_make 13 d n m a c i _ w fun w => ?_
  refine registers_g 13 d n m a c i 152 189 [n, m, a] (fun _ => True) w (by simp) (fun W => ?_) (fun W => read_make 13 d n m a c i W) (fun Bi W h => read_13 d n m a c i Bi W h) (fun args w => rfl) (fun args w => rfl)
  have := check_13 d n m a c i W
  rw [hok] at this
  exact this
set_option maxRecDepth 100000 in
set_option maxHeartbeats 2000000 in
theorem out_13 (d n m a c i : Int) (w : World) (hok : ok_13 d n m a c i = true) : Calls Try.prog 149 #[.agg #[.int .i64 13, .int .i64 d, .int .i64 n, .int .i64 m, .int .i64 a, .int .i64 c, .int .i64 i]] w (RowP [d] w) := by
  refine out_make 13 d n m a c i _ w fun w => ?_
  refine registers_g 13 d n m a c i 186 203 [d] (fun _ => True) w (by simp) (fun W => ?_) (fun W => written_make 13 d n m a c i W) (fun Bi W h => written_13 d n m a c i Bi W h) (fun args w => rfl) (fun args w => rfl)
  have := check_13 d n m a c i W
  rw [hok] at this
  exact this
set_option maxRecDepth 100000 in
set_option maxHeartbeats 2000000 in
theorem in_14 (d n m a c i : Int) (w : World) (hok : ok_14 d n m a c i = true) : Calls Try.prog 71 #[.agg #[.int .i64 14, .int .i64 d, .int .i64 n, .int .i64 m, .int .i64 a, .int .i64 c, .int .i64 i]] w (RowP [n, m, a] w) := by
  refine in_make 14 d n m a c i _ w fun w => ?_
  refine registers_g 14 d n m a c i 152 189 [n, m, a] (fun _ => True) w (by simp) (fun W => ?_) (fun W => read_make 14 d n m a c i W) (fun Bi W h => read_14 d n m a c i Bi W h) (fun args w => rfl) (fun args w => rfl)
  have := check_14 d n m a c i W
  rw [hok] at this
  exact this
set_option maxRecDepth 100000 in
set_option maxHeartbeats 2000000 in
theorem out_14 (d n m a c i : Int) (w : World) (hok : ok_14 d n m a c i = true) : Calls Try.prog 149 #[.agg #[.int .i64 14, .int .i64 d, .int .i64 n, .int .i64 m, .int .i64 a, .int .i64 c, .int .i64 i]] w (RowP [d] w) := by
  refine out_make 14 d n m a c i _ w fun w => ?_
  refine registers_g 14 d n m a c i 186 203 [d] (fun _ => True) w (by simp) (fun W => ?_) (fun W => written_make 14 d n m a c i W) (fun Bi W h => written_14 d n m a c i Bi W h) (fun args w => rfl) (fun args w => rfl)
  have := check_14 d n m a c i W
  rw [hok] at this
  exact this
set_option maxRecDepth 100000 in
set_option maxHeartbeats 2000000 in
theorem in_15 (d n m a c i : Int) (w : World) (hok : ok_15 d n m a c i = true) : Calls Try.prog 71 #[.agg #[.int .i64 15, .int .i64 d, .int .i64 n, .int .i64 m, .int .i64 a, .int .i64 c, .int .i64 i]] w (RowP [n, m] w) := by
  refine in_make 15 d n m a c i _ w fun w => ?_
  refine registers_g 15 d n m a c i 152 189 [n, m] (fun _ => True) w (by simp) (fun W => ?_) (fun W => read_make 15 d n m a c i W) (fun Bi W h => read_15 d n m a c i Bi W h) (fun args w => rfl) (fun args w => rfl)
  have := check_15 d n m a c i W
  rw [hok] at this
  exact this
set_option maxRecDepth 100000 in
set_option maxHeartbeats 2000000 in
theorem out_15 (d n m a c i : Int) (w : World) (hok : ok_15 d n m a c i = true) : Calls Try.prog 149 #[.agg #[.int .i64 15, .int .i64 d, .int .i64 n, .int .i64 m, .int .i64 a, .int .i64 c, .int .i64 i]] w (RowP [d] w) := by
  refine out_make 15 d n m a c i _ w fun w => ?_
  refine registers_g 15 d n m a c i 186 203 [d] (fun _ => True) w (by simp) (fun W => ?_) (fun W => written_make 15 d n m a c i W) (fun Bi W h => written_15 d n m a c i Bi W h) (fun args w => rfl) (fun args w => rfl)
  have := check_15 d n m a c i W
  rw [hok] at this
  exact this
set_option maxRecDepth 100000 in
set_option maxHeartbeats 2000000 in
theorem in_16 (d n m a c i : Int) (w : World) (hok : ok_16 d n m a c i = true) : Calls Try.prog 71 #[.agg #[.int .i64 16, .int .i64 d, .int .i64 n, .int .i64 m, .int .i64 a, .int .i64 c, .int .i64 i]] w (RowP [n, m] w) := by
  refine in_make 16 d n m a c i _ w fun w => ?_
  refine registers_g 16 d n m a c i 152 189 [n, m] (fun _ => True) w (by simp) (fun W => ?_) (fun W => read_make 16 d n m a c i W) (fun Bi W h => read_16 d n m a c i Bi W h) (fun args w => rfl) (fun args w => rfl)
  have := check_16 d n m a c i W
  rw [hok] at this
  exact this
set_option maxRecDepth 100000 in
set_option maxHeartbeats 2000000 in
theorem out_16 (d n m a c i : Int) (w : World) (hok : ok_16 d n m a c i = true) : Calls Try.prog 149 #[.agg #[.int .i64 16, .int .i64 d, .int .i64 n, .int .i64 m, .int .i64 a, .int .i64 c, .int .i64 i]] w (RowP [d] w) := by
  refine out_make 16 d n m a c i _ w fun w => ?_
  refine registers_g 16 d n m a c i 186 203 [d] (fun _ => True) w (by simp) (fun W => ?_) (fun W => written_make 16 d n m a c i W) (fun Bi W h => written_16 d n m a c i Bi W h) (fun args w => rfl) (fun args w => rfl)
  have := check_16 d n m a c i W
  rw [hok] at this
  exact this
set_option maxRecDepth 100000 in
set_option maxHeartbeats 2000000 in
theorem in_17 (d n m a c i : Int) (w : World) (hok : ok_17 d n m a c i = true) : Calls Try.prog 71 #[.agg #[.int .i64 17, .int .i64 d, .int .i64 n, .int .i64 m, .int .i64 a, .int .i64 c, .int .i64 i]] w (RowP [n, m] w) := by
  refine in_make 17 d n m a c i _ w fun w => ?_
  refine registers_g 17 d n m a c i 152 189 [n, m] (fun _ => True) w (by simp) (fun W => ?_) (fun W => read_make 17 d n m a c i W) (fun Bi W h => read_17 d n m a c i Bi W h) (fun args w => rfl) (fun args w => rfl)
  have := check_17 d n m a c i W
  rw [hok] at this
  exact this
set_option maxRecDepth 100000 in
set_option maxHeartbeats 2000000 in
theorem out_17 (d n m a c i : Int) (w : World) (hok : ok_17 d n m a c i = true) : Calls Try.prog 149 #[.agg #[.int .i64 17, .int .i64 d, .int .i64 n, .int .i64 m, .int .i64 a, .int .i64 c, .int .i64 i]] w (RowP [d] w) := by
  refine out_make 17 d n m a c i _ w fun w => ?_
  refine registers_g 17 d n m a c i 186 203 [d] (fun _ => True) w (by simp) (fun W => ?_) (fun W => written_make 17 d n m a c i W) (fun Bi W h => written_17 d n m a c i Bi W h) (fun args w => rfl) (fun args w => rfl)
  have := check_17 d n m a c i W
  rw [hok] at this
  exact this
set_option maxRecDepth 100000 in
set_option maxHeartbeats 2000000 in
theorem in_18 (d n m a c i : Int) (w : World) (hok : ok_18 d n m a c i = true) : Calls Try.prog 71 #[.agg #[.int .i64 18, .int .i64 d, .int .i64 n, .int .i64 m, .int .i64 a, .int .i64 c, .int .i64 i]] w (RowP [n, m] w) := by
  refine in_make 18 d n m a c i _ w fun w => ?_
  refine registers_g 18 d n m a c i 152 189 [n, m] (fun _ => True) w (by simp) (fun W => ?_) (fun W => read_make 18 d n m a c i W) (fun Bi W h => read_18 d n m a c i Bi W h) (fun args w => rfl) (fun args w => rfl)
  have := check_18 d n m a c i W
  rw [hok] at this
  exact this
set_option maxRecDepth 100000 in
set_option maxHeartbeats 2000000 in
theorem out_18 (d n m a c i : Int) (w : World) (hok : ok_18 d n m a c i = true) : Calls Try.prog 149 #[.agg #[.int .i64 18, .int .i64 d, .int .i64 n, .int .i64 m, .int .i64 a, .int .i64 c, .int .i64 i]] w (RowP [d] w) := by
  refine out_make 18 d n m a c i _ w fun w => ?_
  refine registers_g 18 d n m a c i 186 203 [d] (fun _ => True) w (by simp) (fun W => ?_) (fun W => written_make 18 d n m a c i W) (fun Bi W h => written_18 d n m a c i Bi W h) (fun args w => rfl) (fun args w => rfl)
  have := check_18 d n m a c i W
  rw [hok] at this
  exact this
set_option maxRecDepth 100000 in
set_option maxHeartbeats 2000000 in
theorem in_19 (d n m a c i : Int) (w : World) (hok : ok_19 d n m a c i = true) : Calls Try.prog 71 #[.agg #[.int .i64 19, .int .i64 d, .int .i64 n, .int .i64 m, .int .i64 a, .int .i64 c, .int .i64 i]] w (RowP [n, m, 33] w) := by
  refine in_make 19 d n m a c i _ w fun w => ?_
  refine registers_g 19 d n m a c i 152 189 [n, m, 33] (fun _ => True) w (by simp) (fun W => ?_) (fun W => read_make 19 d n m a c i W) (fun Bi W h => read_19 d n m a c i Bi W h) (fun args w => rfl) (fun args w => rfl)
  have := check_19 d n m a c i W
  rw [hok] at this
  exact this
set_option maxRecDepth 100000 in
set_option maxHeartbeats 2000000 in
theorem out_19 (d n m a c i : Int) (w : World) (hok : ok_19 d n m a c i = true) : Calls Try.prog 149 #[.agg #[.int .i64 19, .int .i64 d, .int .i64 n, .int .i64 m, .int .i64 a, .int .i64 c, .int .i64 i]] w (RowP [d] w) := by
  refine out_make 19 d n m a c i _ w fun w => ?_
  refine registers_g 19 d n m a c i 186 203 [d] (fun _ => True) w (by simp) (fun W => ?_) (fun W => written_make 19 d n m a c i W) (fun Bi W h => written_19 d n m a c i Bi W h) (fun args w => rfl) (fun args w => rfl)
  have := check_19 d n m a c i W
  rw [hok] at this
  exact this
set_option maxRecDepth 100000 in
set_option maxHeartbeats 2000000 in
theorem in_20 (d n m a c i : Int) (w : World) (hok : ok_20 d n m a c i = true) : Calls Try.prog 71 #[.agg #[.int .i64 20, .int .i64 d, .int .i64 n, .int .i64 m, .int .i64 a, .int .i64 c, .int .i64 i]] w (RowP [] w) := by
  refine in_make 20 d n m a c i _ w fun w => ?_
  refine registers_g 20 d n m a c i 152 189 [] (fun _ => True) w (by simp) (fun W => ?_) (fun W => read_make 20 d n m a c i W) (fun Bi W h => read_20 d n m a c i Bi W h) (fun args w => rfl) (fun args w => rfl)
  have := check_20 d n m a c i W
  rw [hok] at this
  exact this
set_option maxRecDepth 100000 in
set_option maxHeartbeats 2000000 in
theorem out_20 (d n m a c i : Int) (w : World) (hok : ok_20 d n m a c i = true) : Calls Try.prog 149 #[.agg #[.int .i64 20, .int .i64 d, .int .i64 n, .int .i64 m, .int .i64 a, .int .i64 c, .int .i64 i]] w (RowP [] w) := by
  refine out_make 20 d n m a c i _ w fun w => ?_
  refine registers_g 20 d n m a c i 186 203 [] (fun _ => True) w (by simp) (fun W => ?_) (fun W => written_make 20 d n m a c i W) (fun Bi W h => written_20 d n m a c i Bi W h) (fun args w => rfl) (fun args w => rfl)
  have := check_20 d n m a c i W
  rw [hok] at this
  exact this
set_option maxRecDepth 100000 in
set_option maxHeartbeats 2000000 in
theorem in_21 (d n m a c i : Int) (w : World) (hok : ok_21 d n m a c i = true) : Calls Try.prog 71 #[.agg #[.int .i64 21, .int .i64 d, .int .i64 n, .int .i64 m, .int .i64 a, .int .i64 c, .int .i64 i]] w (RowP [33] w) := by
  refine in_make 21 d n m a c i _ w fun w => ?_
  refine registers_g 21 d n m a c i 152 189 [33] (fun _ => True) w (by simp) (fun W => ?_) (fun W => read_make 21 d n m a c i W) (fun Bi W h => read_21 d n m a c i Bi W h) (fun args w => rfl) (fun args w => rfl)
  have := check_21 d n m a c i W
  rw [hok] at this
  exact this
set_option maxRecDepth 100000 in
set_option maxHeartbeats 2000000 in
theorem out_21 (d n m a c i : Int) (w : World) (hok : ok_21 d n m a c i = true) : Calls Try.prog 149 #[.agg #[.int .i64 21, .int .i64 d, .int .i64 n, .int .i64 m, .int .i64 a, .int .i64 c, .int .i64 i]] w (RowP [] w) := by
  refine out_make 21 d n m a c i _ w fun w => ?_
  refine registers_g 21 d n m a c i 186 203 [] (fun _ => True) w (by simp) (fun W => ?_) (fun W => written_make 21 d n m a c i W) (fun Bi W h => written_21 d n m a c i Bi W h) (fun args w => rfl) (fun args w => rfl)
  have := check_21 d n m a c i W
  rw [hok] at this
  exact this
set_option maxRecDepth 100000 in
set_option maxHeartbeats 2000000 in
theorem in_22 (d n m a c i : Int) (w : World) (hok : ok_22 d n m a c i = true) : Calls Try.prog 71 #[.agg #[.int .i64 22, .int .i64 d, .int .i64 n, .int .i64 m, .int .i64 a, .int .i64 c, .int .i64 i]] w (RowP [d] w) := by
  refine in_make 22 d n m a c i _ w fun w => ?_
  refine registers_g 22 d n m a c i 152 189 [d] (fun _ => True) w (by simp) (fun W => ?_) (fun W => read_make 22 d n m a c i W) (fun Bi W h => read_22 d n m a c i Bi W h) (fun args w => rfl) (fun args w => rfl)
  have := check_22 d n m a c i W
  rw [hok] at this
  exact this
set_option maxRecDepth 100000 in
set_option maxHeartbeats 2000000 in
theorem out_22 (d n m a c i : Int) (w : World) (hok : ok_22 d n m a c i = true) : Calls Try.prog 149 #[.agg #[.int .i64 22, .int .i64 d, .int .i64 n, .int .i64 m, .int .i64 a, .int .i64 c, .int .i64 i]] w (RowP [] w) := by
  refine out_make 22 d n m a c i _ w fun w => ?_
  refine registers_g 22 d n m a c i 186 203 [] (fun _ => True) w (by simp) (fun W => ?_) (fun W => written_make 22 d n m a c i W) (fun Bi W h => written_22 d n m a c i Bi W h) (fun args w => rfl) (fun args w => rfl)
  have := check_22 d n m a c i W
  rw [hok] at this
  exact this
set_option maxRecDepth 100000 in
set_option maxHeartbeats 2000000 in
theorem in_23 (d n m a c i : Int) (w : World) (hok : ok_23 d n m a c i = true) : Calls Try.prog 71 #[.agg #[.int .i64 23, .int .i64 d, .int .i64 n, .int .i64 m, .int .i64 a, .int .i64 c, .int .i64 i]] w (RowP [d] w) := by
  refine in_make 23 d n m a c i _ w fun w => ?_
  refine registers_g 23 d n m a c i 152 189 [d] (fun _ => True) w (by simp) (fun W => ?_) (fun W => read_make 23 d n m a c i W) (fun Bi W h => read_23 d n m a c i Bi W h) (fun args w => rfl) (fun args w => rfl)
  have := check_23 d n m a c i W
  rw [hok] at this
  exact this
set_option maxRecDepth 100000 in
set_option maxHeartbeats 2000000 in
theorem out_23 (d n m a c i : Int) (w : World) (hok : ok_23 d n m a c i = true) : Calls Try.prog 149 #[.agg #[.int .i64 23, .int .i64 d, .int .i64 n, .int .i64 m, .int .i64 a, .int .i64 c, .int .i64 i]] w (RowP [] w) := by
  refine out_make 23 d n m a c i _ w fun w => ?_
  refine registers_g 23 d n m a c i 186 203 [] (fun _ => True) w (by simp) (fun W => ?_) (fun W => written_make 23 d n m a c i W) (fun Bi W h => written_23 d n m a c i Bi W h) (fun args w => rfl) (fun args w => rfl)
  have := check_23 d n m a c i W
  rw [hok] at this
  exact this
set_option maxRecDepth 100000 in
set_option maxHeartbeats 2000000 in
theorem in_24 (d n m a c i : Int) (w : World) (hok : ok_24 d n m a c i = true) : Calls Try.prog 71 #[.agg #[.int .i64 24, .int .i64 d, .int .i64 n, .int .i64 m, .int .i64 a, .int .i64 c, .int .i64 i]] w (RowP [] w) := by
  refine in_make 24 d n m a c i _ w fun w => ?_
  refine registers_g 24 d n m a c i 152 189 [] (fun _ => True) w (by simp) (fun W => ?_) (fun W => read_make 24 d n m a c i W) (fun Bi W h => read_24 d n m a c i Bi W h) (fun args w => rfl) (fun args w => rfl)
  have := check_24 d n m a c i W
  rw [hok] at this
  exact this
set_option maxRecDepth 100000 in
set_option maxHeartbeats 2000000 in
theorem out_24 (d n m a c i : Int) (w : World) (hok : ok_24 d n m a c i = true) : Calls Try.prog 149 #[.agg #[.int .i64 24, .int .i64 d, .int .i64 n, .int .i64 m, .int .i64 a, .int .i64 c, .int .i64 i]] w (RowP [30] w) := by
  refine out_make 24 d n m a c i _ w fun w => ?_
  refine registers_g 24 d n m a c i 186 203 [30] (fun _ => True) w (by simp) (fun W => ?_) (fun W => written_make 24 d n m a c i W) (fun Bi W h => written_24 d n m a c i Bi W h) (fun args w => rfl) (fun args w => rfl)
  have := check_24 d n m a c i W
  rw [hok] at this
  exact this
set_option maxRecDepth 100000 in
set_option maxHeartbeats 2000000 in
theorem in_25 (d n m a c i : Int) (w : World) (hok : ok_25 d n m a c i = true) : Calls Try.prog 71 #[.agg #[.int .i64 25, .int .i64 d, .int .i64 n, .int .i64 m, .int .i64 a, .int .i64 c, .int .i64 i]] w (RowP [n] w) := by
  refine in_make 25 d n m a c i _ w fun w => ?_
  refine registers_g 25 d n m a c i 152 189 [n] (fun _ => True) w (by simp) (fun W => ?_) (fun W => read_make 25 d n m a c i W) (fun Bi W h => read_25 d n m a c i Bi W h) (fun args w => rfl) (fun args w => rfl)
  have := check_25 d n m a c i W
  rw [hok] at this
  exact this
set_option maxRecDepth 100000 in
set_option maxHeartbeats 2000000 in
theorem out_25 (d n m a c i : Int) (w : World) (hok : ok_25 d n m a c i = true) : Calls Try.prog 149 #[.agg #[.int .i64 25, .int .i64 d, .int .i64 n, .int .i64 m, .int .i64 a, .int .i64 c, .int .i64 i]] w (RowP [] w) := by
  refine out_make 25 d n m a c i _ w fun w => ?_
  refine registers_g 25 d n m a c i 186 203 [] (fun _ => True) w (by simp) (fun W => ?_) (fun W => written_make 25 d n m a c i W) (fun Bi W h => written_25 d n m a c i Bi W h) (fun args w => rfl) (fun args w => rfl)
  have := check_25 d n m a c i W
  rw [hok] at this
  exact this
set_option maxRecDepth 100000 in
set_option maxHeartbeats 2000000 in
theorem in_26 (d n m a c i : Int) (w : World) (hok : ok_26 d n m a c i = true) : Calls Try.prog 71 #[.agg #[.int .i64 26, .int .i64 d, .int .i64 n, .int .i64 m, .int .i64 a, .int .i64 c, .int .i64 i]] w (RowP [n] w) := by
  refine in_make 26 d n m a c i _ w fun w => ?_
  refine registers_g 26 d n m a c i 152 189 [n] (fun _ => True) w (by simp) (fun W => ?_) (fun W => read_make 26 d n m a c i W) (fun Bi W h => read_26 d n m a c i Bi W h) (fun args w => rfl) (fun args w => rfl)
  have := check_26 d n m a c i W
  rw [hok] at this
  exact this
set_option maxRecDepth 100000 in
set_option maxHeartbeats 2000000 in
theorem out_26 (d n m a c i : Int) (w : World) (hok : ok_26 d n m a c i = true) : Calls Try.prog 149 #[.agg #[.int .i64 26, .int .i64 d, .int .i64 n, .int .i64 m, .int .i64 a, .int .i64 c, .int .i64 i]] w (RowP [30] w) := by
  refine out_make 26 d n m a c i _ w fun w => ?_
  refine registers_g 26 d n m a c i 186 203 [30] (fun _ => True) w (by simp) (fun W => ?_) (fun W => written_make 26 d n m a c i W) (fun Bi W h => written_26 d n m a c i Bi W h) (fun args w => rfl) (fun args w => rfl)
  have := check_26 d n m a c i W
  rw [hok] at this
  exact this
set_option maxRecDepth 100000 in
set_option maxHeartbeats 2000000 in
theorem in_27 (d n m a c i : Int) (w : World) (hok : ok_27 d n m a c i = true) : Calls Try.prog 71 #[.agg #[.int .i64 27, .int .i64 d, .int .i64 n, .int .i64 m, .int .i64 a, .int .i64 c, .int .i64 i]] w (RowP [n] w) := by
  refine in_make 27 d n m a c i _ w fun w => ?_
  refine registers_g 27 d n m a c i 152 189 [n] (fun _ => True) w (by simp) (fun W => ?_) (fun W => read_make 27 d n m a c i W) (fun Bi W h => read_27 d n m a c i Bi W h) (fun args w => rfl) (fun args w => rfl)
  have := check_27 d n m a c i W
  rw [hok] at this
  exact this
set_option maxRecDepth 100000 in
set_option maxHeartbeats 2000000 in
theorem out_27 (d n m a c i : Int) (w : World) (hok : ok_27 d n m a c i = true) : Calls Try.prog 149 #[.agg #[.int .i64 27, .int .i64 d, .int .i64 n, .int .i64 m, .int .i64 a, .int .i64 c, .int .i64 i]] w (RowP [] w) := by
  refine out_make 27 d n m a c i _ w fun w => ?_
  refine registers_g 27 d n m a c i 186 203 [] (fun _ => True) w (by simp) (fun W => ?_) (fun W => written_make 27 d n m a c i W) (fun Bi W h => written_27 d n m a c i Bi W h) (fun args w => rfl) (fun args w => rfl)
  have := check_27 d n m a c i W
  rw [hok] at this
  exact this
set_option maxRecDepth 100000 in
set_option maxHeartbeats 2000000 in
theorem in_28 (d n m a c i : Int) (w : World) (hok : ok_28 d n m a c i = true) : Calls Try.prog 71 #[.agg #[.int .i64 28, .int .i64 d, .int .i64 n, .int .i64 m, .int .i64 a, .int .i64 c, .int .i64 i]] w (RowP [(spOr n)] w) := by
  refine in_make 28 d n m a c i _ w fun w => ?_
  refine registers_g 28 d n m a c i 152 189 [(spOr n)] (fun _ => True) w (by simp) (fun W => ?_) (fun W => read_make 28 d n m a c i W) (fun Bi W h => read_28 d n m a c i Bi W h) (fun args w => rfl) (fun args w => rfl)
  have := check_28 d n m a c i W
  rw [hok] at this
  exact this
set_option maxRecDepth 100000 in
set_option maxHeartbeats 2000000 in
theorem out_28 (d n m a c i : Int) (w : World) (hok : ok_28 d n m a c i = true) : Calls Try.prog 149 #[.agg #[.int .i64 28, .int .i64 d, .int .i64 n, .int .i64 m, .int .i64 a, .int .i64 c, .int .i64 i]] w (RowP [d] w) := by
  refine out_make 28 d n m a c i _ w fun w => ?_
  refine registers_g 28 d n m a c i 186 203 [d] (fun _ => True) w (by simp) (fun W => ?_) (fun W => written_make 28 d n m a c i W) (fun Bi W h => written_28 d n m a c i Bi W h) (fun args w => rfl) (fun args w => rfl)
  have := check_28 d n m a c i W
  rw [hok] at this
  exact this
set_option maxRecDepth 100000 in
set_option maxHeartbeats 2000000 in
theorem in_29 (d n m a c i : Int) (w : World) (hok : ok_29 d n m a c i = true) : Calls Try.prog 71 #[.agg #[.int .i64 29, .int .i64 d, .int .i64 n, .int .i64 m, .int .i64 a, .int .i64 c, .int .i64 i]] w (RowP [d, (spOr n)] w) := by
  refine in_make 29 d n m a c i _ w fun w => ?_
  refine registers_g 29 d n m a c i 152 189 [d, (spOr n)] (fun _ => True) w (by simp) (fun W => ?_) (fun W => read_make 29 d n m a c i W) (fun Bi W h => read_29 d n m a c i Bi W h) (fun args w => rfl) (fun args w => rfl)
  have := check_29 d n m a c i W
  rw [hok] at this
  exact this
set_option maxRecDepth 100000 in
set_option maxHeartbeats 2000000 in
theorem out_29 (d n m a c i : Int) (w : World) (hok : ok_29 d n m a c i = true) : Calls Try.prog 149 #[.agg #[.int .i64 29, .int .i64 d, .int .i64 n, .int .i64 m, .int .i64 a, .int .i64 c, .int .i64 i]] w (RowP [] w) := by
  refine out_make 29 d n m a c i _ w fun w => ?_
  refine registers_g 29 d n m a c i 186 203 [] (fun _ => True) w (by simp) (fun W => ?_) (fun W => written_make 29 d n m a c i W) (fun Bi W h => written_29 d n m a c i Bi W h) (fun args w => rfl) (fun args w => rfl)
  have := check_29 d n m a c i W
  rw [hok] at this
  exact this
set_option maxRecDepth 100000 in
set_option maxHeartbeats 2000000 in
theorem in_30 (d n m a c i : Int) (w : World) (hok : ok_30 d n m a c i = true) : Calls Try.prog 71 #[.agg #[.int .i64 30, .int .i64 d, .int .i64 n, .int .i64 m, .int .i64 a, .int .i64 c, .int .i64 i]] w (RowP [(spOr n)] w) := by
  refine in_make 30 d n m a c i _ w fun w => ?_
  refine registers_g 30 d n m a c i 152 189 [(spOr n)] (fun _ => True) w (by simp) (fun W => ?_) (fun W => read_make 30 d n m a c i W) (fun Bi W h => read_30 d n m a c i Bi W h) (fun args w => rfl) (fun args w => rfl)
  have := check_30 d n m a c i W
  rw [hok] at this
  exact this
set_option maxRecDepth 100000 in
set_option maxHeartbeats 2000000 in
theorem out_30 (d n m a c i : Int) (w : World) (hok : ok_30 d n m a c i = true) : Calls Try.prog 149 #[.agg #[.int .i64 30, .int .i64 d, .int .i64 n, .int .i64 m, .int .i64 a, .int .i64 c, .int .i64 i]] w (RowP [d] w) := by
  refine out_make 30 d n m a c i _ w fun w => ?_
  refine registers_g 30 d n m a c i 186 203 [d] (fun _ => True) w (by simp) (fun W => ?_) (fun W => written_make 30 d n m a c i W) (fun Bi W h => written_30 d n m a c i Bi W h) (fun args w => rfl) (fun args w => rfl)
  have := check_30 d n m a c i W
  rw [hok] at this
  exact this
set_option maxRecDepth 100000 in
set_option maxHeartbeats 2000000 in
theorem in_31 (d n m a c i : Int) (w : World) (hok : ok_31 d n m a c i = true) : Calls Try.prog 71 #[.agg #[.int .i64 31, .int .i64 d, .int .i64 n, .int .i64 m, .int .i64 a, .int .i64 c, .int .i64 i]] w (RowP [(spOr n), m] w) := by
  refine in_make 31 d n m a c i _ w fun w => ?_
  refine registers_g 31 d n m a c i 152 189 [(spOr n), m] (fun _ => True) w (by simp) (fun W => ?_) (fun W => read_make 31 d n m a c i W) (fun Bi W h => read_31 d n m a c i Bi W h) (fun args w => rfl) (fun args w => rfl)
  have := check_31 d n m a c i W
  rw [hok] at this
  exact this
set_option maxRecDepth 100000 in
set_option maxHeartbeats 2000000 in
theorem out_31 (d n m a c i : Int) (w : World) (hok : ok_31 d n m a c i = true) : Calls Try.prog 149 #[.agg #[.int .i64 31, .int .i64 d, .int .i64 n, .int .i64 m, .int .i64 a, .int .i64 c, .int .i64 i]] w (RowP [d] w) := by
  refine out_make 31 d n m a c i _ w fun w => ?_
  refine registers_g 31 d n m a c i 186 203 [d] (fun _ => True) w (by simp) (fun W => ?_) (fun W => written_make 31 d n m a c i W) (fun Bi W h => written_31 d n m a c i Bi W h) (fun args w => rfl) (fun args w => rfl)
  have := check_31 d n m a c i W
  rw [hok] at this
  exact this
set_option maxRecDepth 100000 in
set_option maxHeartbeats 2000000 in
theorem in_32 (d n m a c i : Int) (w : World) (hok : ok_32 d n m a c i = true) : Calls Try.prog 71 #[.agg #[.int .i64 32, .int .i64 d, .int .i64 n, .int .i64 m, .int .i64 a, .int .i64 c, .int .i64 i]] w (RowP [d, (spOr n), m] w) := by
  refine in_make 32 d n m a c i _ w fun w => ?_
  refine registers_g 32 d n m a c i 152 189 [d, (spOr n), m] (fun _ => True) w (by simp) (fun W => ?_) (fun W => read_make 32 d n m a c i W) (fun Bi W h => read_32 d n m a c i Bi W h) (fun args w => rfl) (fun args w => rfl)
  have := check_32 d n m a c i W
  rw [hok] at this
  exact this
set_option maxRecDepth 100000 in
set_option maxHeartbeats 2000000 in
theorem out_32 (d n m a c i : Int) (w : World) (hok : ok_32 d n m a c i = true) : Calls Try.prog 149 #[.agg #[.int .i64 32, .int .i64 d, .int .i64 n, .int .i64 m, .int .i64 a, .int .i64 c, .int .i64 i]] w (RowP [] w) := by
  refine out_make 32 d n m a c i _ w fun w => ?_
  refine registers_g 32 d n m a c i 186 203 [] (fun _ => True) w (by simp) (fun W => ?_) (fun W => written_make 32 d n m a c i W) (fun Bi W h => written_32 d n m a c i Bi W h) (fun args w => rfl) (fun args w => rfl)
  have := check_32 d n m a c i W
  rw [hok] at this
  exact this
set_option maxRecDepth 100000 in
set_option maxHeartbeats 2000000 in
theorem in_33 (d n m a c i : Int) (w : World) (hok : ok_33 d n m a c i = true) : Calls Try.prog 71 #[.agg #[.int .i64 33, .int .i64 d, .int .i64 n, .int .i64 m, .int .i64 a, .int .i64 c, .int .i64 i]] w (RowP [(spOr n)] w) := by
  refine in_make 33 d n m a c i _ w fun w => ?_
  refine registers_g 33 d n m a c i 152 189 [(spOr n)] (fun _ => True) w (by simp) (fun W => ?_) (fun W => read_make 33 d n m a c i W) (fun Bi W h => read_33 d n m a c i Bi W h) (fun args w => rfl) (fun args w => rfl)
  have := check_33 d n m a c i W
  rw [hok] at this
  exact this
set_option maxRecDepth 100000 in
set_option maxHeartbeats 2000000 in
theorem out_33 (d n m a c i : Int) (w : World) (hok : ok_33 d n m a c i = true) : Calls Try.prog 149 #[.agg #[.int .i64 33, .int .i64 d, .int .i64 n, .int .i64 m, .int .i64 a, .int .i64 c, .int .i64 i]] w (RowP [d] w) := by
  refine out_make 33 d n m a c i _ w fun w => ?_
  refine registers_g 33 d n m a c i 186 203 [d] (fun _ => True) w (by simp) (fun W => ?_) (fun W => written_make 33 d n m a c i W) (fun Bi W h => written_33 d n m a c i Bi W h) (fun args w => rfl) (fun args w => rfl)
  have := check_33 d n m a c i W
  rw [hok] at this
  exact this
set_option maxRecDepth 100000 in
set_option maxHeartbeats 2000000 in
theorem in_34 (d n m a c i : Int) (w : World) (hok : ok_34 d n m a c i = true) : Calls Try.prog 71 #[.agg #[.int .i64 34, .int .i64 d, .int .i64 n, .int .i64 m, .int .i64 a, .int .i64 c, .int .i64 i]] w (RowP [d, (spOr n)] w) := by
  refine in_make 34 d n m a c i _ w fun w => ?_
  refine registers_g 34 d n m a c i 152 189 [d, (spOr n)] (fun _ => True) w (by simp) (fun W => ?_) (fun W => read_make 34 d n m a c i W) (fun Bi W h => read_34 d n m a c i Bi W h) (fun args w => rfl) (fun args w => rfl)
  have := check_34 d n m a c i W
  rw [hok] at this
  exact this
set_option maxRecDepth 100000 in
set_option maxHeartbeats 2000000 in
theorem out_34 (d n m a c i : Int) (w : World) (hok : ok_34 d n m a c i = true) : Calls Try.prog 149 #[.agg #[.int .i64 34, .int .i64 d, .int .i64 n, .int .i64 m, .int .i64 a, .int .i64 c, .int .i64 i]] w (RowP [] w) := by
  refine out_make 34 d n m a c i _ w fun w => ?_
  refine registers_g 34 d n m a c i 186 203 [] (fun _ => True) w (by simp) (fun W => ?_) (fun W => written_make 34 d n m a c i W) (fun Bi W h => written_34 d n m a c i Bi W h) (fun args w => rfl) (fun args w => rfl)
  have := check_34 d n m a c i W
  rw [hok] at this
  exact this
set_option maxRecDepth 100000 in
set_option maxHeartbeats 2000000 in
theorem in_35 (d n m a c i : Int) (w : World) (hok : ok_35 d n m a c i = true) : Calls Try.prog 71 #[.agg #[.int .i64 35, .int .i64 d, .int .i64 n, .int .i64 m, .int .i64 a, .int .i64 c, .int .i64 i]] w (RowP [(spOr n)] w) := by
  refine in_make 35 d n m a c i _ w fun w => ?_
  refine registers_g 35 d n m a c i 152 189 [(spOr n)] (fun _ => True) w (by simp) (fun W => ?_) (fun W => read_make 35 d n m a c i W) (fun Bi W h => read_35 d n m a c i Bi W h) (fun args w => rfl) (fun args w => rfl)
  have := check_35 d n m a c i W
  rw [hok] at this
  exact this
set_option maxRecDepth 100000 in
set_option maxHeartbeats 2000000 in
theorem out_35 (d n m a c i : Int) (w : World) (hok : ok_35 d n m a c i = true) : Calls Try.prog 149 #[.agg #[.int .i64 35, .int .i64 d, .int .i64 n, .int .i64 m, .int .i64 a, .int .i64 c, .int .i64 i]] w (RowP [d] w) := by
  refine out_make 35 d n m a c i _ w fun w => ?_
  refine registers_g 35 d n m a c i 186 203 [d] (fun _ => True) w (by simp) (fun W => ?_) (fun W => written_make 35 d n m a c i W) (fun Bi W h => written_35 d n m a c i Bi W h) (fun args w => rfl) (fun args w => rfl)
  have := check_35 d n m a c i W
  rw [hok] at this
  exact this
set_option maxRecDepth 100000 in
set_option maxHeartbeats 2000000 in
theorem in_36 (d n m a c i : Int) (w : World) (hok : ok_36 d n m a c i = true) : Calls Try.prog 71 #[.agg #[.int .i64 36, .int .i64 d, .int .i64 n, .int .i64 m, .int .i64 a, .int .i64 c, .int .i64 i]] w (RowP [(spOr n), m] w) := by
  refine in_make 36 d n m a c i _ w fun w => ?_
  refine registers_g 36 d n m a c i 152 189 [(spOr n), m] (fun _ => True) w (by simp) (fun W => ?_) (fun W => read_make 36 d n m a c i W) (fun Bi W h => read_36 d n m a c i Bi W h) (fun args w => rfl) (fun args w => rfl)
  have := check_36 d n m a c i W
  rw [hok] at this
  exact this
set_option maxRecDepth 100000 in
set_option maxHeartbeats 2000000 in
theorem out_36 (d n m a c i : Int) (w : World) (hok : ok_36 d n m a c i = true) : Calls Try.prog 149 #[.agg #[.int .i64 36, .int .i64 d, .int .i64 n, .int .i64 m, .int .i64 a, .int .i64 c, .int .i64 i]] w (RowP [d] w) := by
  refine out_make 36 d n m a c i _ w fun w => ?_
  refine registers_g 36 d n m a c i 186 203 [d] (fun _ => True) w (by simp) (fun W => ?_) (fun W => written_make 36 d n m a c i W) (fun Bi W h => written_36 d n m a c i Bi W h) (fun args w => rfl) (fun args w => rfl)
  have := check_36 d n m a c i W
  rw [hok] at this
  exact this
set_option maxRecDepth 100000 in
set_option maxHeartbeats 2000000 in
theorem in_37 (d n m a c i : Int) (w : World) (hok : ok_37 d n m a c i = true) : Calls Try.prog 71 #[.agg #[.int .i64 37, .int .i64 d, .int .i64 n, .int .i64 m, .int .i64 a, .int .i64 c, .int .i64 i]] w (RowP [] w) := by
  refine in_make 37 d n m a c i _ w fun w => ?_
  refine registers_g 37 d n m a c i 152 189 [] (fun _ => True) w (by simp) (fun W => ?_) (fun W => read_make 37 d n m a c i W) (fun Bi W h => read_37 d n m a c i Bi W h) (fun args w => rfl) (fun args w => rfl)
  have := check_37 d n m a c i W
  rw [hok] at this
  exact this
set_option maxRecDepth 100000 in
set_option maxHeartbeats 2000000 in
theorem out_37 (d n m a c i : Int) (w : World) (hok : ok_37 d n m a c i = true) : Calls Try.prog 149 #[.agg #[.int .i64 37, .int .i64 d, .int .i64 n, .int .i64 m, .int .i64 a, .int .i64 c, .int .i64 i]] w (RowP [] w) := by
  refine out_make 37 d n m a c i _ w fun w => ?_
  refine registers_g 37 d n m a c i 186 203 [] (fun _ => True) w (by simp) (fun W => ?_) (fun W => written_make 37 d n m a c i W) (fun Bi W h => written_37 d n m a c i Bi W h) (fun args w => rfl) (fun args w => rfl)
  have := check_37 d n m a c i W
  rw [hok] at this
  exact this
set_option maxRecDepth 100000 in
set_option maxHeartbeats 2000000 in
theorem in_38 (d n m a c i : Int) (w : World) (hok : ok_38 d n m a c i = true) : Calls Try.prog 71 #[.agg #[.int .i64 38, .int .i64 d, .int .i64 n, .int .i64 m, .int .i64 a, .int .i64 c, .int .i64 i]] w (RowP [] w) := by
  refine in_make 38 d n m a c i _ w fun w => ?_
  refine registers_g 38 d n m a c i 152 189 [] (fun _ => True) w (by simp) (fun W => ?_) (fun W => read_make 38 d n m a c i W) (fun Bi W h => read_38 d n m a c i Bi W h) (fun args w => rfl) (fun args w => rfl)
  have := check_38 d n m a c i W
  rw [hok] at this
  exact this
set_option maxRecDepth 100000 in
set_option maxHeartbeats 2000000 in
theorem out_38 (d n m a c i : Int) (w : World) (hok : ok_38 d n m a c i = true) : Calls Try.prog 149 #[.agg #[.int .i64 38, .int .i64 d, .int .i64 n, .int .i64 m, .int .i64 a, .int .i64 c, .int .i64 i]] w (RowP [] w) := by
  refine out_make 38 d n m a c i _ w fun w => ?_
  refine registers_g 38 d n m a c i 186 203 [] (fun _ => True) w (by simp) (fun W => ?_) (fun W => written_make 38 d n m a c i W) (fun Bi W h => written_38 d n m a c i Bi W h) (fun args w => rfl) (fun args w => rfl)
  have := check_38 d n m a c i W
  rw [hok] at this
  exact this
set_option maxRecDepth 100000 in
set_option maxHeartbeats 2000000 in
theorem in_39 (d n m a c i : Int) (w : World) (hok : ok_39 d n m a c i = true) : Calls Try.prog 71 #[.agg #[.int .i64 39, .int .i64 d, .int .i64 n, .int .i64 m, .int .i64 a, .int .i64 c, .int .i64 i]] w (RowP [] w) := by
  refine in_make 39 d n m a c i _ w fun w => ?_
  refine registers_g 39 d n m a c i 152 189 [] (fun _ => True) w (by simp) (fun W => ?_) (fun W => read_make 39 d n m a c i W) (fun Bi W h => read_39 d n m a c i Bi W h) (fun args w => rfl) (fun args w => rfl)
  have := check_39 d n m a c i W
  rw [hok] at this
  exact this
set_option maxRecDepth 100000 in
set_option maxHeartbeats 2000000 in
theorem out_39 (d n m a c i : Int) (w : World) (hok : ok_39 d n m a c i = true) : Calls Try.prog 149 #[.agg #[.int .i64 39, .int .i64 d, .int .i64 n, .int .i64 m, .int .i64 a, .int .i64 c, .int .i64 i]] w (RowP [] w) := by
  refine out_make 39 d n m a c i _ w fun w => ?_
  refine registers_g 39 d n m a c i 186 203 [] (fun _ => True) w (by simp) (fun W => ?_) (fun W => written_make 39 d n m a c i W) (fun Bi W h => written_39 d n m a c i Bi W h) (fun args w => rfl) (fun args w => rfl)
  have := check_39 d n m a c i W
  rw [hok] at this
  exact this
set_option maxRecDepth 100000 in
set_option maxHeartbeats 2000000 in
theorem in_40 (d n m a c i : Int) (w : World) (hok : ok_40 d n m a c i = true) : Calls Try.prog 71 #[.agg #[.int .i64 40, .int .i64 d, .int .i64 n, .int .i64 m, .int .i64 a, .int .i64 c, .int .i64 i]] w (RowP [n] w) := by
  refine in_make 40 d n m a c i _ w fun w => ?_
  refine registers_g 40 d n m a c i 152 189 [n] (fun _ => True) w (by simp) (fun W => ?_) (fun W => read_make 40 d n m a c i W) (fun Bi W h => read_40 d n m a c i Bi W h) (fun args w => rfl) (fun args w => rfl)
  have := check_40 d n m a c i W
  rw [hok] at this
  exact this
set_option maxRecDepth 100000 in
set_option maxHeartbeats 2000000 in
theorem out_40 (d n m a c i : Int) (w : World) (hok : ok_40 d n m a c i = true) : Calls Try.prog 149 #[.agg #[.int .i64 40, .int .i64 d, .int .i64 n, .int .i64 m, .int .i64 a, .int .i64 c, .int .i64 i]] w (RowP [] w) := by
  refine out_make 40 d n m a c i _ w fun w => ?_
  refine registers_g 40 d n m a c i 186 203 [] (fun _ => True) w (by simp) (fun W => ?_) (fun W => written_make 40 d n m a c i W) (fun Bi W h => written_40 d n m a c i Bi W h) (fun args w => rfl) (fun args w => rfl)
  have := check_40 d n m a c i W
  rw [hok] at this
  exact this
set_option maxRecDepth 100000 in
set_option maxHeartbeats 2000000 in
theorem in_41 (d n m a c i : Int) (w : World) (hok : ok_41 d n m a c i = true) : Calls Try.prog 71 #[.agg #[.int .i64 41, .int .i64 d, .int .i64 n, .int .i64 m, .int .i64 a, .int .i64 c, .int .i64 i]] w (RowP [n] w) := by
  refine in_make 41 d n m a c i _ w fun w => ?_
  refine registers_g 41 d n m a c i 152 189 [n] (fun _ => True) w (by simp) (fun W => ?_) (fun W => read_make 41 d n m a c i W) (fun Bi W h => read_41 d n m a c i Bi W h) (fun args w => rfl) (fun args w => rfl)
  have := check_41 d n m a c i W
  rw [hok] at this
  exact this
set_option maxRecDepth 100000 in
set_option maxHeartbeats 2000000 in
theorem out_41 (d n m a c i : Int) (w : World) (hok : ok_41 d n m a c i = true) : Calls Try.prog 149 #[.agg #[.int .i64 41, .int .i64 d, .int .i64 n, .int .i64 m, .int .i64 a, .int .i64 c, .int .i64 i]] w (RowP [] w) := by
  refine out_make 41 d n m a c i _ w fun w => ?_
  refine registers_g 41 d n m a c i 186 203 [] (fun _ => True) w (by simp) (fun W => ?_) (fun W => written_make 41 d n m a c i W) (fun Bi W h => written_41 d n m a c i Bi W h) (fun args w => rfl) (fun args w => rfl)
  have := check_41 d n m a c i W
  rw [hok] at this
  exact this
set_option maxRecDepth 100000 in
set_option maxHeartbeats 2000000 in
theorem in_42 (d n m a c i : Int) (w : World) (hok : ok_42 d n m a c i = true) : Calls Try.prog 71 #[.agg #[.int .i64 42, .int .i64 d, .int .i64 n, .int .i64 m, .int .i64 a, .int .i64 c, .int .i64 i]] w (RowP [] w) := by
  refine in_make 42 d n m a c i _ w fun w => ?_
  refine registers_g 42 d n m a c i 152 189 [] (fun _ => True) w (by simp) (fun W => ?_) (fun W => read_make 42 d n m a c i W) (fun Bi W h => read_42 d n m a c i Bi W h) (fun args w => rfl) (fun args w => rfl)
  have := check_42 d n m a c i W
  rw [hok] at this
  exact this
set_option maxRecDepth 100000 in
set_option maxHeartbeats 2000000 in
theorem out_42 (d n m a c i : Int) (w : World) (hok : ok_42 d n m a c i = true) : Calls Try.prog 149 #[.agg #[.int .i64 42, .int .i64 d, .int .i64 n, .int .i64 m, .int .i64 a, .int .i64 c, .int .i64 i]] w (RowP [] w) := by
  refine out_make 42 d n m a c i _ w fun w => ?_
  refine registers_g 42 d n m a c i 186 203 [] (fun _ => True) w (by simp) (fun W => ?_) (fun W => written_make 42 d n m a c i W) (fun Bi W h => written_42 d n m a c i Bi W h) (fun args w => rfl) (fun args w => rfl)
  have := check_42 d n m a c i W
  rw [hok] at this
  exact this
end Go.Proofs.Ytnbpgoacooddjaa.Fr
