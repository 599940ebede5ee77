import Derived.Test.YtnbpgoacooddjaaEWd
import Derived.Test.YtnbpgoacooddjaaERfB
import Derived.Test.YtnbpgoacooddjaaERfC
import Derived.Test.YtnbpgoacooddjaaERfD
import Derived.Test.YtnbpgoacooddjaaERfE
import Derived.Test.YtnbpgoacooddjaaEEm
namespace Go.Proofs.Ytnbpgoacooddjaa.Fr
end Go.Proofs.Ytnbpgoacooddjaa.Fr
namespace Go.Proofs.Ytnbpgoacooddjaa.En
open Go.Proofs.Ytnbpgoacooddjaa.Fr
open Go.ChangeShapes Go.WideShapes Go.ChangeAt Go.RowKit Go.Maps
set_option linter.unusedVariables false
set_option maxRecDepth 100000 in
set_option maxHeartbeats 4000000 in
theorem rbase_2 (w : World) : Calls Try.prog 181 #[.int .i64 2] w fun e w' => e = .returned (.int .u32 3531603968) ∧ Below w.heap.size w w' := by
  go_enter Try.func181, Try.ntmps181
  go_wp2
  go_ret
  exact ⟨rfl, (Below.refl _ _).alloc (Nat.le_refl _) _⟩
set_option maxRecDepth 100000 in
set_option maxHeartbeats 4000000 in
theorem rword_2 (d n m a c i : Int) (w : World) (hok : ok_2 d n m a c i = true) : Calls Try.prog 119 #[.agg #[.int .i64 2, .int .i64 d, .int .i64 n, .int .i64 m, .int .i64 a, .int .i64 c, .int .i64 i]] w fun e w' => e = .returned (.tuple #[.int .u32 (putS (putS (putS 3531603968 21 2 m) 5 16 i) 0 5 d), .int .i64 0]) ∧ Below w.heap.size w w' := by
  have HCK := Lib.hid (fun w => (by have := rcheck_2 d n m a c i w; rw [hok] at this; exact this) : ∀ w, Calls Try.prog 83 #[.agg #[.int .i64 2, .int .i64 d, .int .i64 n, .int .i64 m, .int .i64 a, .int .i64 c, .int .i64 i]] w fun e w' => e = .returned (.int .i64 0) ∧ Below w.heap.size w w')
  simp only [ok_2, wi, Bool.and_eq_true, decide_eq_true_eq, beq_iff_eq] at hok
  obtain ⟨h1, h2⟩ : (0 ≤ d ∧ d ≤ 31) ∧ (0 ≤ n ∧ n ≤ 31) := by omega
  obtain ⟨h3, h4⟩ : (0 ≤ m ∧ m ≤ 31) ∧ (0 ≤ a ∧ a ≤ 31) := by omega
  have h5 : 0 ≤ c ∧ c ≤ 15 := by omega
  obtain ⟨h1, h1'⟩ := h1
  obtain ⟨h2, h2'⟩ := h2
  obtain ⟨h3, h3'⟩ := h3
  obtain ⟨h4, h4'⟩ := h4
  obtain ⟨h5, h5'⟩ := h5
  have HOK := Lib.hid hok
  clear hok
  go_enter Try.func119, Try.ntmps119
  go_wp2_with fail
  refine (HCK.out _).mono ?_
  rintro e w1 ⟨rfl, hb⟩
  have HI1 := Lib.hid ((InsC.new w (.int .i64 2) (.int .i64 d) (.int .i64 n) (.int .i64 m) (.int .i64 a) (.int .i64 c) (.int .i64 i)).below' hb rfl)
  have HB1 : Hid (Below w.heap.size w w1) := Lib.hid (((Below.refl _ _).alloc (Nat.le_refl _) _).trans (hb.mono (by simp)))
  obtain ⟨hl, i0, i1, i2, i3, i4, i5, i6⟩ := HI1.out
  clear hb
  go_wp2_with fail
  refine (rbase_2 _).mono ?_
  rintro e w2 ⟨rfl, hb⟩
  have HI2 := Lib.hid (HI1.out.below' hb rfl)
  have HB2 := Lib.hid (HB1.out.trans (hb.mono HB1.out.size))
  clear hb hl i0 i1 i2 i3 i4 i5 i6 HI1 HB1
  obtain ⟨hl, i0, i1, i2, i3, i4, i5, i6⟩ := HI2.out
  have hi : 0 ≤ i ∧ i ≤ 65535 := by have := HOK.out; omega
  obtain ⟨hi0, hi1⟩ := hi
  go_wp2
  go_ret2
  refine ⟨?_, HB2.out⟩
  rw [or_21_2 3531603968 m (by decide : (0 : Int) ≤ 3531603968 ∧ (3531603968 : Int) < 4294967296) (by omega) (by have := HOK.out; omega) (by decide), or_5_16 (putS 3531603968 21 2 m) i (putS_lt 3531603968 21 2 m (by decide : (0 : Int) ≤ 3531603968 ∧ (3531603968 : Int) < 4294967296).1 (by decide : (0 : Int) ≤ 3531603968 ∧ (3531603968 : Int) < 4294967296).2) (by omega) (by have := HOK.out; omega) (zput 3531603968 m 21 2 5 16 (by decide : (0 : Int) ≤ 3531603968 ∧ (3531603968 : Int) < 4294967296) (by decide) (by decide) (by decide) (by decide)), or_0_5 (putS (putS 3531603968 21 2 m) 5 16 i) d (putS_lt (putS 3531603968 21 2 m) 5 16 i (putS_lt 3531603968 21 2 m (by decide : (0 : Int) ≤ 3531603968 ∧ (3531603968 : Int) < 4294967296).1 (by decide : (0 : Int) ≤ 3531603968 ∧ (3531603968 : Int) < 4294967296).2).1 (putS_lt 3531603968 21 2 m (by decide : (0 : Int) ≤ 3531603968 ∧ (3531603968 : Int) < 4294967296).1 (by decide : (0 : Int) ≤ 3531603968 ∧ (3531603968 : Int) < 4294967296).2).2) (by omega) (by have := HOK.out; omega) (zput (putS 3531603968 21 2 m) i 5 16 0 5 (putS_lt 3531603968 21 2 m (by decide : (0 : Int) ≤ 3531603968 ∧ (3531603968 : Int) < 4294967296).1 (by decide : (0 : Int) ≤ 3531603968 ∧ (3531603968 : Int) < 4294967296).2) (by decide) (by decide) (by decide) (zput 3531603968 m 21 2 0 5 (by decide : (0 : Int) ≤ 3531603968 ∧ (3531603968 : Int) < 4294967296) (by decide) (by decide) (by decide) (by decide)))]
  rfl
set_option maxRecDepth 100000 in
set_option maxHeartbeats 4000000 in
theorem rbase_6 (w : World) : Calls Try.prog 181 #[.int .i64 6] w fun e w' => e = .returned (.int .u32 4043309056) ∧ Below w.heap.size w w' := by
  go_enter Try.func181, Try.ntmps181
  go_wp2
  go_ret
  exact ⟨rfl, (Below.refl _ _).alloc (Nat.le_refl _) _⟩
set_option maxRecDepth 100000 in
set_option maxHeartbeats 4000000 in
theorem rword_6 (d n m a c i : Int) (w : World) (hok : ok_6 d n m a c i = true) : Calls Try.prog 119 #[.agg #[.int .i64 6, .int .i64 d, .int .i64 n, .int .i64 m, .int .i64 a, .int .i64 c, .int .i64 i]] w fun e w' => e = .returned (.tuple #[.int .u32 (putS (putS (putS 4043309056 10 12 i) 5 5 n) 0 5 d), .int .i64 0]) ∧ Below w.heap.size w w' := by
  have HCK := Lib.hid (fun w => (by have := rcheck_6 d n m a c i w; rw [hok] at this; exact this) : ∀ w, Calls Try.prog 83 #[.agg #[.int .i64 6, .int .i64 d, .int .i64 n, .int .i64 m, .int .i64 a, .int .i64 c, .int .i64 i]] w fun e w' => e = .returned (.int .i64 0) ∧ Below w.heap.size w w')
  simp only [ok_6, wi, Bool.and_eq_true, decide_eq_true_eq, beq_iff_eq] at hok
  obtain ⟨h1, h2⟩ : (0 ≤ d ∧ d ≤ 31) ∧ (0 ≤ n ∧ n ≤ 31) := by omega
  obtain ⟨h3, h4⟩ : (0 ≤ m ∧ m ≤ 31) ∧ (0 ≤ a ∧ a ≤ 31) := by omega
  have h5 : 0 ≤ c ∧ c ≤ 15 := by omega
  obtain ⟨h1, h1'⟩ := h1
  obtain ⟨h2, h2'⟩ := h2
  obtain ⟨h3, h3'⟩ := h3
  obtain ⟨h4, h4'⟩ := h4
  obtain ⟨h5, h5'⟩ := h5
  have HOK := Lib.hid hok
  clear hok
  go_enter Try.func119, Try.ntmps119
  go_wp2_with fail
  refine (HCK.out _).mono ?_
  rintro e w1 ⟨rfl, hb⟩
  have HI1 := Lib.hid ((InsC.new w (.int .i64 6) (.int .i64 d) (.int .i64 n) (.int .i64 m) (.int .i64 a) (.int .i64 c) (.int .i64 i)).below' hb rfl)
  have HB1 : Hid (Below w.heap.size w w1) := Lib.hid (((Below.refl _ _).alloc (Nat.le_refl _) _).trans (hb.mono (by simp)))
  obtain ⟨hl, i0, i1, i2, i3, i4, i5, i6⟩ := HI1.out
  clear hb
  go_wp2_with fail
  refine (rbase_6 _).mono ?_
  rintro e w2 ⟨rfl, hb⟩
  have HI2 := Lib.hid (HI1.out.below' hb rfl)
  have HB2 := Lib.hid (HB1.out.trans (hb.mono HB1.out.size))
  clear hb hl i0 i1 i2 i3 i4 i5 i6 HI1 HB1
  obtain ⟨hl, i0, i1, i2, i3, i4, i5, i6⟩ := HI2.out
  have hi : 0 ≤ i ∧ i ≤ 4095 := by have := HOK.out; omega
  obtain ⟨hi0, hi1⟩ := hi
  go_wp2
  go_ret2
  refine ⟨?_, HB2.out⟩
  rw [or_10_12 4043309056 i (by decide : (0 : Int) ≤ 4043309056 ∧ (4043309056 : Int) < 4294967296) (by omega) (by have := HOK.out; omega) (by decide), or_5_5 (putS 4043309056 10 12 i) n (putS_lt 4043309056 10 12 i (by decide : (0 : Int) ≤ 4043309056 ∧ (4043309056 : Int) < 4294967296).1 (by decide : (0 : Int) ≤ 4043309056 ∧ (4043309056 : Int) < 4294967296).2) (by omega) (by have := HOK.out; omega) (zput 4043309056 i 10 12 5 5 (by decide : (0 : Int) ≤ 4043309056 ∧ (4043309056 : Int) < 4294967296) (by decide) (by decide) (by decide) (by decide)), or_0_5 (putS (putS 4043309056 10 12 i) 5 5 n) d (putS_lt (putS 4043309056 10 12 i) 5 5 n (putS_lt 4043309056 10 12 i (by decide : (0 : Int) ≤ 4043309056 ∧ (4043309056 : Int) < 4294967296).1 (by decide : (0 : Int) ≤ 4043309056 ∧ (4043309056 : Int) < 4294967296).2).1 (putS_lt 4043309056 10 12 i (by decide : (0 : Int) ≤ 4043309056 ∧ (4043309056 : Int) < 4294967296).1 (by decide : (0 : Int) ≤ 4043309056 ∧ (4043309056 : Int) < 4294967296).2).2) (by omega) (by have := HOK.out; omega) (zput (putS 4043309056 10 12 i) n 5 5 0 5 (putS_lt 4043309056 10 12 i (by decide : (0 : Int) ≤ 4043309056 ∧ (4043309056 : Int) < 4294967296).1 (by decide : (0 : Int) ≤ 4043309056 ∧ (4043309056 : Int) < 4294967296).2) (by decide) (by decide) (by decide) (zput 4043309056 i 10 12 0 5 (by decide : (0 : Int) ≤ 4043309056 ∧ (4043309056 : Int) < 4294967296) (by decide) (by decide) (by decide) (by decide)))]
  rfl
set_option maxRecDepth 100000 in
set_option maxHeartbeats 4000000 in
theorem rbase_10 (w : World) : Calls Try.prog 181 #[.int .i64 10] w fun e w' => e = .returned (.int .u32 2315255808) ∧ Below w.heap.size w w' := by
  go_enter Try.func181, Try.ntmps181
  go_wp2
  go_ret
  exact ⟨rfl, (Below.refl _ _).alloc (Nat.le_refl _) _⟩
set_option maxRecDepth 100000 in
set_option maxHeartbeats 4000000 in
theorem rword_10 (d n m a c i : Int) (w : World) (hok : ok_10 d n m a c i = true) : Calls Try.prog 119 #[.agg #[.int .i64 10, .int .i64 d, .int .i64 n, .int .i64 m, .int .i64 a, .int .i64 c, .int .i64 i]] w fun e w' => e = .returned (.tuple #[.int .u32 (putS (putS (putS 2315255808 16 5 m) 5 5 n) 0 5 d), .int .i64 0]) ∧ Below w.heap.size w w' := by
  have HCK := Lib.hid (fun w => (by have := rcheck_10 d n m a c i w; rw [hok] at this; exact this) : ∀ w, Calls Try.prog 83 #[.agg #[.int .i64 10, .int .i64 d, .int .i64 n, .int .i64 m, .int .i64 a, .int .i64 c, .int .i64 i]] w fun e w' => e = .returned (.int .i64 0) ∧ Below w.heap.size w w')
  simp only [ok_10, wi, Bool.and_eq_true, decide_eq_true_eq, beq_iff_eq] at hok
  obtain ⟨h1, h2⟩ : (0 ≤ d ∧ d ≤ 31) ∧ (0 ≤ n ∧ n ≤ 31) := by omega
  obtain ⟨h3, h4⟩ : (0 ≤ m ∧ m ≤ 31) ∧ (0 ≤ a ∧ a ≤ 31) := by omega
  have h5 : 0 ≤ c ∧ c ≤ 15 := by omega
  obtain ⟨h1, h1'⟩ := h1
  obtain ⟨h2, h2'⟩ := h2
  obtain ⟨h3, h3'⟩ := h3
  obtain ⟨h4, h4'⟩ := h4
  obtain ⟨h5, h5'⟩ := h5
  have HOK := Lib.hid hok
  clear hok
  go_enter Try.func119, Try.ntmps119
  go_wp2_with fail
  refine (HCK.out _).mono ?_
  rintro e w1 ⟨rfl, hb⟩
  have HI1 := Lib.hid ((InsC.new w (.int .i64 10) (.int .i64 d) (.int .i64 n) (.int .i64 m) (.int .i64 a) (.int .i64 c) (.int .i64 i)).below' hb rfl)
  have HB1 : Hid (Below w.heap.size w w1) := Lib.hid (((Below.refl _ _).alloc (Nat.le_refl _) _).trans (hb.mono (by simp)))
  obtain ⟨hl, i0, i1, i2, i3, i4, i5, i6⟩ := HI1.out
  clear hb
  go_wp2_with fail
  refine (rbase_10 _).mono ?_
  rintro e w2 ⟨rfl, hb⟩
  have HI2 := Lib.hid (HI1.out.below' hb rfl)
  have HB2 := Lib.hid (HB1.out.trans (hb.mono HB1.out.size))
  clear hb hl i0 i1 i2 i3 i4 i5 i6 HI1 HB1
  obtain ⟨hl, i0, i1, i2, i3, i4, i5, i6⟩ := HI2.out
  go_wp2
  go_ret2
  refine ⟨?_, HB2.out⟩
  rw [or_16_5 2315255808 m (by decide : (0 : Int) ≤ 2315255808 ∧ (2315255808 : Int) < 4294967296) (by omega) (by have := HOK.out; omega) (by decide), or_5_5 (putS 2315255808 16 5 m) n (putS_lt 2315255808 16 5 m (by decide : (0 : Int) ≤ 2315255808 ∧ (2315255808 : Int) < 4294967296).1 (by decide : (0 : Int) ≤ 2315255808 ∧ (2315255808 : Int) < 4294967296).2) (by omega) (by have := HOK.out; omega) (zput 2315255808 m 16 5 5 5 (by decide : (0 : Int) ≤ 2315255808 ∧ (2315255808 : Int) < 4294967296) (by decide) (by decide) (by decide) (by decide)), or_0_5 (putS (putS 2315255808 16 5 m) 5 5 n) d (putS_lt (putS 2315255808 16 5 m) 5 5 n (putS_lt 2315255808 16 5 m (by decide : (0 : Int) ≤ 2315255808 ∧ (2315255808 : Int) < 4294967296).1 (by decide : (0 : Int) ≤ 2315255808 ∧ (2315255808 : Int) < 4294967296).2).1 (putS_lt 2315255808 16 5 m (by decide : (0 : Int) ≤ 2315255808 ∧ (2315255808 : Int) < 4294967296).1 (by decide : (0 : Int) ≤ 2315255808 ∧ (2315255808 : Int) < 4294967296).2).2) (by omega) (by have := HOK.out; omega) (zput (putS 2315255808 16 5 m) n 5 5 0 5 (putS_lt 2315255808 16 5 m (by decide : (0 : Int) ≤ 2315255808 ∧ (2315255808 : Int) < 4294967296).1 (by decide : (0 : Int) ≤ 2315255808 ∧ (2315255808 : Int) < 4294967296).2) (by decide) (by decide) (by decide) (zput 2315255808 m 16 5 0 5 (by decide : (0 : Int) ≤ 2315255808 ∧ (2315255808 : Int) < 4294967296) (by decide) (by decide) (by decide) (by decide)))]
  rfl
set_option maxRecDepth 100000 in
set_option maxHeartbeats 4000000 in
theorem rbase_14 (w : World) : Calls Try.prog 181 #[.int .i64 14] w fun e w' => e = .returned (.int .u32 2600501248) ∧ Below w.heap.size w w' := by
  go_enter Try.func181, Try.ntmps181
  go_wp2
  go_ret
  exact ⟨rfl, (Below.refl _ _).alloc (Nat.le_refl _) _⟩
set_option maxRecDepth 100000 in
set_option maxHeartbeats 4000000 in
theorem rword_14 (d n m a c i : Int) (w : World) (hok : ok_14 d n m a c i = true) : Calls Try.prog 119 #[.agg #[.int .i64 14, .int .i64 d, .int .i64 n, .int .i64 m, .int .i64 a, .int .i64 c, .int .i64 i]] w fun e w' => e = .returned (.tuple #[.int .u32 (putS (putS (putS (putS 2600501248 16 5 m) 10 5 a) 5 5 n) 0 5 d), .int .i64 0]) ∧ Below w.heap.size w w' := by
  have HCK := Lib.hid (fun w => (by have := rcheck_14 d n m a c i w; rw [hok] at this; exact this) : ∀ w, Calls Try.prog 83 #[.agg #[.int .i64 14, .int .i64 d, .int .i64 n, .int .i64 m, .int .i64 a, .int .i64 c, .int .i64 i]] w fun e w' => e = .returned (.int .i64 0) ∧ Below w.heap.size w w')
  simp only [ok_14, wi, Bool.and_eq_true, decide_eq_true_eq, beq_iff_eq] at hok
  obtain ⟨h1, h2⟩ : (0 ≤ d ∧ d ≤ 31) ∧ (0 ≤ n ∧ n ≤ 31) := by omega
  obtain ⟨h3, h4⟩ : (0 ≤ m ∧ m ≤ 31) ∧ (0 ≤ a ∧ a ≤ 31) := by omega
  have h5 : 0 ≤ c ∧ c ≤ 15 := by omega
  obtain ⟨h1, h1'⟩ := h1
  obtain ⟨h2, h2'⟩ := h2
  obtain ⟨h3, h3'⟩ := h3
  obtain ⟨h4, h4'⟩ := h4
  obtain ⟨h5, h5'⟩ := h5
  have HOK := Lib.hid hok
  clear hok
  go_enter Try.func119, Try.ntmps119
  go_wp2_with fail
  refine (HCK.out _).mono ?_
  rintro e w1 ⟨rfl, hb⟩
  have HI1 := Lib.hid ((InsC.new w (.int .i64 14) (.int .i64 d) (.int .i64 n) (.int .i64 m) (.int .i64 a) (.int .i64 c) (.int .i64 i)).below' hb rfl)
  have HB1 : Hid (Below w.heap.size w w1) := Lib.hid (((Below.refl _ _).alloc (Nat.le_refl _) _).trans (hb.mono (by simp)))
  obtain ⟨hl, i0, i1, i2, i3, i4, i5, i6⟩ := HI1.out
  clear hb
  go_wp2_with fail
  refine (rbase_14 _).mono ?_
  rintro e w2 ⟨rfl, hb⟩
  have HI2 := Lib.hid (HI1.out.below' hb rfl)
  have HB2 := Lib.hid (HB1.out.trans (hb.mono HB1.out.size))
  clear hb hl i0 i1 i2 i3 i4 i5 i6 HI1 HB1
  obtain ⟨hl, i0, i1, i2, i3, i4, i5, i6⟩ := HI2.out
  go_wp2
  go_ret2
  refine ⟨?_, HB2.out⟩
  rw [or_16_5 2600501248 m (by decide : (0 : Int) ≤ 2600501248 ∧ (2600501248 : Int) < 4294967296) (by omega) (by have := HOK.out; omega) (by decide), or_10_5 (putS 2600501248 16 5 m) a (putS_lt 2600501248 16 5 m (by decide : (0 : Int) ≤ 2600501248 ∧ (2600501248 : Int) < 4294967296).1 (by decide : (0 : Int) ≤ 2600501248 ∧ (2600501248 : Int) < 4294967296).2) (by omega) (by have := HOK.out; omega) (zput 2600501248 m 16 5 10 5 (by decide : (0 : Int) ≤ 2600501248 ∧ (2600501248 : Int) < 4294967296) (by decide) (by decide) (by decide) (by decide)), or_5_5 (putS (putS 2600501248 16 5 m) 10 5 a) n (putS_lt (putS 2600501248 16 5 m) 10 5 a (putS_lt 2600501248 16 5 m (by decide : (0 : Int) ≤ 2600501248 ∧ (2600501248 : Int) < 4294967296).1 (by decide : (0 : Int) ≤ 2600501248 ∧ (2600501248 : Int) < 4294967296).2).1 (putS_lt 2600501248 16 5 m (by decide : (0 : Int) ≤ 2600501248 ∧ (2600501248 : Int) < 4294967296).1 (by decide : (0 : Int) ≤ 2600501248 ∧ (2600501248 : Int) < 4294967296).2).2) (by omega) (by have := HOK.out; omega) (zput (putS 2600501248 16 5 m) a 10 5 5 5 (putS_lt 2600501248 16 5 m (by decide : (0 : Int) ≤ 2600501248 ∧ (2600501248 : Int) < 4294967296).1 (by decide : (0 : Int) ≤ 2600501248 ∧ (2600501248 : Int) < 4294967296).2) (by decide) (by decide) (by decide) (zput 2600501248 m 16 5 5 5 (by decide : (0 : Int) ≤ 2600501248 ∧ (2600501248 : Int) < 4294967296) (by decide) (by decide) (by decide) (by decide))), or_0_5 (putS (putS (putS 2600501248 16 5 m) 10 5 a) 5 5 n) d (putS_lt (putS (putS 2600501248 16 5 m) 10 5 a) 5 5 n (putS_lt (putS 2600501248 16 5 m) 10 5 a (putS_lt 2600501248 16 5 m (by decide : (0 : Int) ≤ 2600501248 ∧ (2600501248 : Int) < 4294967296).1 (by decide : (0 : Int) ≤ 2600501248 ∧ (2600501248 : Int) < 4294967296).2).1 (putS_lt 2600501248 16 5 m (by decide : (0 : Int) ≤ 2600501248 ∧ (2600501248 : Int) < 4294967296).1 (by decide : (0 : Int) ≤ 2600501248 ∧ (2600501248 : Int) < 4294967296).2).2).1 (putS_lt (putS 2600501248 16 5 m) 10 5 a (putS_lt 2600501248 16 5 m (by decide : (0 : Int) ≤ 2600501248 ∧ (2600501248 : Int) < 4294967296).1 (by decide : (0 : Int) ≤ 2600501248 ∧ (2600501248 : Int) < 4294967296).2).1 (putS_lt 2600501248 16 5 m (by decide : (0 : Int) ≤ 2600501248 ∧ (2600501248 : Int) < 4294967296).1 (by decide : (0 : Int) ≤ 2600501248 ∧ (2600501248 : Int) < 4294967296).2).2).2) (by omega) (by have := HOK.out; omega) (zput (putS (putS 2600501248 16 5 m) 10 5 a) n 5 5 0 5 (putS_lt (putS 2600501248 16 5 m) 10 5 a (putS_lt 2600501248 16 5 m (by decide : (0 : Int) ≤ 2600501248 ∧ (2600501248 : Int) < 4294967296).1 (by decide : (0 : Int) ≤ 2600501248 ∧ (2600501248 : Int) < 4294967296).2).1 (putS_lt 2600501248 16 5 m (by decide : (0 : Int) ≤ 2600501248 ∧ (2600501248 : Int) < 4294967296).1 (by decide : (0 : Int) ≤ 2600501248 ∧ (2600501248 : Int) < 4294967296).2).2) (by decide) (by decide) (by decide) (zput (putS 2600501248 16 5 m) a 10 5 0 5 (putS_lt 2600501248 16 5 m (by decide : (0 : Int) ≤ 2600501248 ∧ (2600501248 : Int) < 4294967296).1 (by decide : (0 : Int) ≤ 2600501248 ∧ (2600501248 : Int) < 4294967296).2) (by decide) (by decide) (by decide) (zput 2600501248 m 16 5 0 5 (by decide : (0 : Int) ≤ 2600501248 ∧ (2600501248 : Int) < 4294967296) (by decide) (by decide) (by decide) (by decide))))]
  rfl
set_option maxRecDepth 100000 in
set_option maxHeartbeats 4000000 in
theorem rbase_18 (w : World) : Calls Try.prog 181 #[.int .i64 18] w fun e w' => e = .returned (.int .u32 2596284416) ∧ Below w.heap.size w w' := by
  go_enter Try.func181, Try.ntmps181
  go_wp2
  go_ret
  exact ⟨rfl, (Below.refl _ _).alloc (Nat.le_refl _) _⟩
set_option maxRecDepth 100000 in
set_option maxHeartbeats 4000000 in
theorem rword_18 (d n m a c i : Int) (w : World) (hok : ok_18 d n m a c i = true) : Calls Try.prog 119 #[.agg #[.int .i64 18, .int .i64 d, .int .i64 n, .int .i64 m, .int .i64 a, .int .i64 c, .int .i64 i]] w fun e w' => e = .returned (.tuple #[.int .u32 (putS (putS (putS 2596284416 16 5 m) 5 5 n) 0 5 d), .int .i64 0]) ∧ Below w.heap.size w w' := by
  have HCK := Lib.hid (fun w => (by have := rcheck_18 d n m a c i w; rw [hok] at this; exact this) : ∀ w, Calls Try.prog 83 #[.agg #[.int .i64 18, .int .i64 d, .int .i64 n, .int .i64 m, .int .i64 a, .int .i64 c, .int .i64 i]] w fun e w' => e = .returned (.int .i64 0) ∧ Below w.heap.size w w')
  simp only [ok_18, wi, Bool.and_eq_true, decide_eq_true_eq, beq_iff_eq] at hok
  obtain ⟨h1, h2⟩ : (0 ≤ d ∧ d ≤ 31) ∧ (0 ≤ n ∧ n ≤ 31) := by omega
  obtain ⟨h3, h4⟩ : (0 ≤ m ∧ m ≤ 31) ∧ (0 ≤ a ∧ a ≤ 31) := by omega
  have h5 : 0 ≤ c ∧ c ≤ 15 := by omega
  obtain ⟨h1, h1'⟩ := h1
  obtain ⟨h2, h2'⟩ := h2
  obtain ⟨h3, h3'⟩ := h3
  obtain ⟨h4, h4'⟩ := h4
  obtain ⟨h5, h5'⟩ := h5
  have HOK := Lib.hid hok
  clear hok
  go_enter Try.func119, Try.ntmps119
  go_wp2_with fail
  refine (HCK.out _).mono ?_
  rintro e w1 ⟨rfl, hb⟩
  have HI1 := Lib.hid ((InsC.new w (.int .i64 18) (.int .i64 d) (.int .i64 n) (.int .i64 m) (.int .i64 a) (.int .i64 c) (.int .i64 i)).below' hb rfl)
  have HB1 : Hid (Below w.heap.size w w1) := Lib.hid (((Below.refl _ _).alloc (Nat.le_refl _) _).trans (hb.mono (by simp)))
  obtain ⟨hl, i0, i1, i2, i3, i4, i5, i6⟩ := HI1.out
  clear hb
  go_wp2_with fail
  refine (rbase_18 _).mono ?_
  rintro e w2 ⟨rfl, hb⟩
  have HI2 := Lib.hid (HI1.out.below' hb rfl)
  have HB2 := Lib.hid (HB1.out.trans (hb.mono HB1.out.size))
  clear hb hl i0 i1 i2 i3 i4 i5 i6 HI1 HB1
  obtain ⟨hl, i0, i1, i2, i3, i4, i5, i6⟩ := HI2.out
  go_wp2
  go_ret2
  refine ⟨?_, HB2.out⟩
  rw [or_16_5 2596284416 m (by decide : (0 : Int) ≤ 2596284416 ∧ (2596284416 : Int) < 4294967296) (by omega) (by have := HOK.out; omega) (by decide), or_5_5 (putS 2596284416 16 5 m) n (putS_lt 2596284416 16 5 m (by decide : (0 : Int) ≤ 2596284416 ∧ (2596284416 : Int) < 4294967296).1 (by decide : (0 : Int) ≤ 2596284416 ∧ (2596284416 : Int) < 4294967296).2) (by omega) (by have := HOK.out; omega) (zput 2596284416 m 16 5 5 5 (by decide : (0 : Int) ≤ 2596284416 ∧ (2596284416 : Int) < 4294967296) (by decide) (by decide) (by decide) (by decide)), or_0_5 (putS (putS 2596284416 16 5 m) 5 5 n) d (putS_lt (putS 2596284416 16 5 m) 5 5 n (putS_lt 2596284416 16 5 m (by decide : (0 : Int) ≤ 2596284416 ∧ (2596284416 : Int) < 4294967296).1 (by decide : (0 : Int) ≤ 2596284416 ∧ (2596284416 : Int) < 4294967296).2).1 (putS_lt 2596284416 16 5 m (by decide : (0 : Int) ≤ 2596284416 ∧ (2596284416 : Int) < 4294967296).1 (by decide : (0 : Int) ≤ 2596284416 ∧ (2596284416 : Int) < 4294967296).2).2) (by omega) (by have := HOK.out; omega) (zput (putS 2596284416 16 5 m) n 5 5 0 5 (putS_lt 2596284416 16 5 m (by decide : (0 : Int) ≤ 2596284416 ∧ (2596284416 : Int) < 4294967296).1 (by decide : (0 : Int) ≤ 2596284416 ∧ (2596284416 : Int) < 4294967296).2) (by decide) (by decide) (by decide) (zput 2596284416 m 16 5 0 5 (by decide : (0 : Int) ≤ 2596284416 ∧ (2596284416 : Int) < 4294967296) (by decide) (by decide) (by decide) (by decide)))]
  rfl
set_option maxRecDepth 100000 in
set_option maxHeartbeats 4000000 in
theorem rbase_22 (w : World) : Calls Try.prog 181 #[.int .i64 22] w fun e w' => e = .returned (.int .u32 3019898880) ∧ Below w.heap.size w w' := by
  go_enter Try.func181, Try.ntmps181
  go_wp2
  go_ret
  exact ⟨rfl, (Below.refl _ _).alloc (Nat.le_refl _) _⟩
set_option maxRecDepth 100000 in
set_option maxHeartbeats 4000000 in
theorem rword_22 (d n m a c i : Int) (w : World) (hok : ok_22 d n m a c i = true) : Calls Try.prog 119 #[.agg #[.int .i64 22, .int .i64 d, .int .i64 n, .int .i64 m, .int .i64 a, .int .i64 c, .int .i64 i]] w fun e w' => e = .returned (.tuple #[.int .u32 (putS (putS 3019898880 5 19 (i / 4 % 4294967296)) 0 5 d), .int .i64 0]) ∧ Below w.heap.size w w' := by
  have HCK := Lib.hid (fun w => (by have := rcheck_22 d n m a c i w; rw [hok] at this; exact this) : ∀ w, Calls Try.prog 83 #[.agg #[.int .i64 22, .int .i64 d, .int .i64 n, .int .i64 m, .int .i64 a, .int .i64 c, .int .i64 i]] w fun e w' => e = .returned (.int .i64 0) ∧ Below w.heap.size w w')
  simp only [ok_22, wi, wm, Bool.and_eq_true, decide_eq_true_eq, beq_iff_eq] at hok
  obtain ⟨h1, h2⟩ : (0 ≤ d ∧ d ≤ 31) ∧ (0 ≤ n ∧ n ≤ 31) := by omega
  obtain ⟨h3, h4⟩ : (0 ≤ m ∧ m ≤ 31) ∧ (0 ≤ a ∧ a ≤ 31) := by omega
  have h5 : 0 ≤ c ∧ c ≤ 15 := by omega
  obtain ⟨h1, h1'⟩ := h1
  obtain ⟨h2, h2'⟩ := h2
  obtain ⟨h3, h3'⟩ := h3
  obtain ⟨h4, h4'⟩ := h4
  obtain ⟨h5, h5'⟩ := h5
  have HOK := Lib.hid hok
  clear hok
  go_enter Try.func119, Try.ntmps119
  go_wp2_with fail
  refine (HCK.out _).mono ?_
  rintro e w1 ⟨rfl, hb⟩
  have HI1 := Lib.hid ((InsC.new w (.int .i64 22) (.int .i64 d) (.int .i64 n) (.int .i64 m) (.int .i64 a) (.int .i64 c) (.int .i64 i)).below' hb rfl)
  have HB1 : Hid (Below w.heap.size w w1) := Lib.hid (((Below.refl _ _).alloc (Nat.le_refl _) _).trans (hb.mono (by simp)))
  obtain ⟨hl, i0, i1, i2, i3, i4, i5, i6⟩ := HI1.out
  clear hb
  go_wp2_with fail
  refine (rbase_22 _).mono ?_
  rintro e w2 ⟨rfl, hb⟩
  have HI2 := Lib.hid (HI1.out.below' hb rfl)
  have HB2 := Lib.hid (HB1.out.trans (hb.mono HB1.out.size))
  clear hb hl i0 i1 i2 i3 i4 i5 i6 HI1 HB1
  obtain ⟨hl, i0, i1, i2, i3, i4, i5, i6⟩ := HI2.out
  have hi : -1048576 ≤ i ∧ i ≤ 1048572 := by have := HOK.out; omega
  obtain ⟨hi0, hi1⟩ := hi
  go_wp2
  go_ret2
  refine ⟨?_, HB2.out⟩
  rw [near_l 3019898880 i (by decide : (0 : Int) ≤ 3019898880 ∧ (3019898880 : Int) < 4294967296) (by decide) (by have := HOK.out; omega), or_0_5 (putS 3019898880 5 19 (i / 4 % 4294967296)) d (putS_lt 3019898880 5 19 (i / 4 % 4294967296) (by decide : (0 : Int) ≤ 3019898880 ∧ (3019898880 : Int) < 4294967296).1 (by decide : (0 : Int) ≤ 3019898880 ∧ (3019898880 : Int) < 4294967296).2) (by omega) (by have := HOK.out; omega) (zput 3019898880 (i / 4 % 4294967296) 5 19 0 5 (by decide : (0 : Int) ≤ 3019898880 ∧ (3019898880 : Int) < 4294967296) (by decide) (by decide) (by decide) (by decide))]
  rfl
set_option maxRecDepth 100000 in
set_option maxHeartbeats 4000000 in
theorem rbase_26 (w : World) : Calls Try.prog 181 #[.int .i64 26] w fun e w' => e = .returned (.int .u32 3594452992) ∧ Below w.heap.size w w' := by
  go_enter Try.func181, Try.ntmps181
  go_wp2
  go_ret
  exact ⟨rfl, (Below.refl _ _).alloc (Nat.le_refl _) _⟩
set_option maxRecDepth 100000 in
set_option maxHeartbeats 4000000 in
theorem rword_26 (d n m a c i : Int) (w : World) (hok : ok_26 d n m a c i = true) : Calls Try.prog 119 #[.agg #[.int .i64 26, .int .i64 d, .int .i64 n, .int .i64 m, .int .i64 a, .int .i64 c, .int .i64 i]] w fun e w' => e = .returned (.tuple #[.int .u32 (putS 3594452992 5 5 n), .int .i64 0]) ∧ Below w.heap.size w w' := by
  have HCK := Lib.hid (fun w => (by have := rcheck_26 d n m a c i w; rw [hok] at this; exact this) : ∀ w, Calls Try.prog 83 #[.agg #[.int .i64 26, .int .i64 d, .int .i64 n, .int .i64 m, .int .i64 a, .int .i64 c, .int .i64 i]] w fun e w' => e = .returned (.int .i64 0) ∧ Below w.heap.size w w')
  simp only [ok_26, wi, Bool.and_eq_true, decide_eq_true_eq, beq_iff_eq] at hok
  obtain ⟨h1, h2⟩ : (0 ≤ d ∧ d ≤ 31) ∧ (0 ≤ n ∧ n ≤ 31) := by omega
  obtain ⟨h3, h4⟩ : (0 ≤ m ∧ m ≤ 31) ∧ (0 ≤ a ∧ a ≤ 31) := by omega
  have h5 : 0 ≤ c ∧ c ≤ 15 := by omega
  obtain ⟨h1, h1'⟩ := h1
  obtain ⟨h2, h2'⟩ := h2
  obtain ⟨h3, h3'⟩ := h3
  obtain ⟨h4, h4'⟩ := h4
  obtain ⟨h5, h5'⟩ := h5
  have HOK := Lib.hid hok
  clear hok
  go_enter Try.func119, Try.ntmps119
  go_wp2_with fail
  refine (HCK.out _).mono ?_
  rintro e w1 ⟨rfl, hb⟩
  have HI1 := Lib.hid ((InsC.new w (.int .i64 26) (.int .i64 d) (.int .i64 n) (.int .i64 m) (.int .i64 a) (.int .i64 c) (.int .i64 i)).below' hb rfl)
  have HB1 : Hid (Below w.heap.size w w1) := Lib.hid (((Below.refl _ _).alloc (Nat.le_refl _) _).trans (hb.mono (by simp)))
  obtain ⟨hl, i0, i1, i2, i3, i4, i5, i6⟩ := HI1.out
  clear hb
  go_wp2_with fail
  refine (rbase_26 _).mono ?_
  rintro e w2 ⟨rfl, hb⟩
  have HI2 := Lib.hid (HI1.out.below' hb rfl)
  have HB2 := Lib.hid (HB1.out.trans (hb.mono HB1.out.size))
  clear hb hl i0 i1 i2 i3 i4 i5 i6 HI1 HB1
  obtain ⟨hl, i0, i1, i2, i3, i4, i5, i6⟩ := HI2.out
  go_wp2
  go_ret2
  refine ⟨?_, HB2.out⟩
  rw [or_5_5 3594452992 n (by decide : (0 : Int) ≤ 3594452992 ∧ (3594452992 : Int) < 4294967296) (by omega) (by have := HOK.out; omega) (by decide)]
  rfl
set_option maxRecDepth 100000 in
set_option maxHeartbeats 4000000 in
theorem rbase_30 (w : World) : Calls Try.prog 181 #[.int .i64 30] w fun e w' => e = .returned (.int .u32 960495616) ∧ Below w.heap.size w w' := by
  go_enter Try.func181, Try.ntmps181
  go_wp2
  go_ret
  exact ⟨rfl, (Below.refl _ _).alloc (Nat.le_refl _) _⟩
set_option maxRecDepth 100000 in
set_option maxHeartbeats 4000000 in
theorem rword_30 (d n m a c i : Int) (w : World) (hok : ok_30 d n m a c i = true) : Calls Try.prog 119 #[.agg #[.int .i64 30, .int .i64 d, .int .i64 n, .int .i64 m, .int .i64 a, .int .i64 c, .int .i64 i]] w fun e w' => e = .returned (.tuple #[.int .u32 (putS (putS (putS 960495616 10 12 i) 5 5 n) 0 5 d), .int .i64 0]) ∧ Below w.heap.size w w' := by
  have HCK := Lib.hid (fun w => (by have := rcheck_30 d n m a c i w; rw [hok] at this; exact this) : ∀ w, Calls Try.prog 83 #[.agg #[.int .i64 30, .int .i64 d, .int .i64 n, .int .i64 m, .int .i64 a, .int .i64 c, .int .i64 i]] w fun e w' => e = .returned (.int .i64 0) ∧ Below w.heap.size w w')
  simp only [ok_30, wi, Bool.and_eq_true, decide_eq_true_eq, beq_iff_eq] at hok
  obtain ⟨h1, h2⟩ : (0 ≤ d ∧ d ≤ 31) ∧ (0 ≤ n ∧ n ≤ 31) := by omega
  obtain ⟨h3, h4⟩ : (0 ≤ m ∧ m ≤ 31) ∧ (0 ≤ a ∧ a ≤ 31) := by omega
  have h5 : 0 ≤ c ∧ c ≤ 15 := by omega
  obtain ⟨h1, h1'⟩ := h1
  obtain ⟨h2, h2'⟩ := h2
  obtain ⟨h3, h3'⟩ := h3
  obtain ⟨h4, h4'⟩ := h4
  obtain ⟨h5, h5'⟩ := h5
  have HOK := Lib.hid hok
  clear hok
  go_enter Try.func119, Try.ntmps119
  go_wp2_with fail
  refine (HCK.out _).mono ?_
  rintro e w1 ⟨rfl, hb⟩
  have HI1 := Lib.hid ((InsC.new w (.int .i64 30) (.int .i64 d) (.int .i64 n) (.int .i64 m) (.int .i64 a) (.int .i64 c) (.int .i64 i)).below' hb rfl)
  have HB1 : Hid (Below w.heap.size w w1) := Lib.hid (((Below.refl _ _).alloc (Nat.le_refl _) _).trans (hb.mono (by simp)))
  obtain ⟨hl, i0, i1, i2, i3, i4, i5, i6⟩ := HI1.out
  clear hb
  go_wp2_with fail
  refine (rbase_30 _).mono ?_
  rintro e w2 ⟨rfl, hb⟩
  have HI2 := Lib.hid (HI1.out.below' hb rfl)
  have HB2 := Lib.hid (HB1.out.trans (hb.mono HB1.out.size))
  clear hb hl i0 i1 i2 i3 i4 i5 i6 HI1 HB1
  obtain ⟨hl, i0, i1, i2, i3, i4, i5, i6⟩ := HI2.out
  have hi : 0 ≤ i ∧ i ≤ 4095 := by have := HOK.out; omega
  obtain ⟨hi0, hi1⟩ := hi
  go_wp2
  go_ret2
  refine ⟨?_, HB2.out⟩
  rw [or_10_12 960495616 i (by decide : (0 : Int) ≤ 960495616 ∧ (960495616 : Int) < 4294967296) (by omega) (by have := HOK.out; omega) (by decide), or_5_5 (putS 960495616 10 12 i) n (putS_lt 960495616 10 12 i (by decide : (0 : Int) ≤ 960495616 ∧ (960495616 : Int) < 4294967296).1 (by decide : (0 : Int) ≤ 960495616 ∧ (960495616 : Int) < 4294967296).2) (by omega) (by have := HOK.out; omega) (zput 960495616 i 10 12 5 5 (by decide : (0 : Int) ≤ 960495616 ∧ (960495616 : Int) < 4294967296) (by decide) (by decide) (by decide) (by decide)), or_0_5 (putS (putS 960495616 10 12 i) 5 5 n) d (putS_lt (putS 960495616 10 12 i) 5 5 n (putS_lt 960495616 10 12 i (by decide : (0 : Int) ≤ 960495616 ∧ (960495616 : Int) < 4294967296).1 (by decide : (0 : Int) ≤ 960495616 ∧ (960495616 : Int) < 4294967296).2).1 (putS_lt 960495616 10 12 i (by decide : (0 : Int) ≤ 960495616 ∧ (960495616 : Int) < 4294967296).1 (by decide : (0 : Int) ≤ 960495616 ∧ (960495616 : Int) < 4294967296).2).2) (by omega) (by have := HOK.out; omega) (zput (putS 960495616 10 12 i) n 5 5 0 5 (putS_lt 960495616 10 12 i (by decide : (0 : Int) ≤ 960495616 ∧ (960495616 : Int) < 4294967296).1 (by decide : (0 : Int) ≤ 960495616 ∧ (960495616 : Int) < 4294967296).2) (by decide) (by decide) (by decide) (zput 960495616 i 10 12 0 5 (by decide : (0 : Int) ≤ 960495616 ∧ (960495616 : Int) < 4294967296) (by decide) (by decide) (by decide) (by decide)))]
  rfl
set_option maxRecDepth 100000 in
set_option maxHeartbeats 4000000 in
theorem rbase_34 (w : World) : Calls Try.prog 181 #[.int .i64 34] w fun e w' => e = .returned (.int .u32 3365927936) ∧ Below w.heap.size w w' := by
  go_enter Try.func181, Try.ntmps181
  go_wp2
  go_ret
  exact ⟨rfl, (Below.refl _ _).alloc (Nat.le_refl _) _⟩
set_option maxRecDepth 100000 in
set_option maxHeartbeats 4000000 in
theorem rword_34 (d n m a c i : Int) (w : World) (hok : ok_34 d n m a c i = true) : Calls Try.prog 119 #[.agg #[.int .i64 34, .int .i64 d, .int .i64 n, .int .i64 m, .int .i64 a, .int .i64 c, .int .i64 i]] w fun e w' => e = .returned (.tuple #[.int .u32 (putS (putS 3365927936 5 5 n) 0 5 d), .int .i64 0]) ∧ Below w.heap.size w w' := by
  have HCK := Lib.hid (fun w => (by have := rcheck_34 d n m a c i w; rw [hok] at this; exact this) : ∀ w, Calls Try.prog 83 #[.agg #[.int .i64 34, .int .i64 d, .int .i64 n, .int .i64 m, .int .i64 a, .int .i64 c, .int .i64 i]] w fun e w' => e = .returned (.int .i64 0) ∧ Below w.heap.size w w')
  simp only [ok_34, wi, Bool.and_eq_true, decide_eq_true_eq, beq_iff_eq] at hok
  obtain ⟨h1, h2⟩ : (0 ≤ d ∧ d ≤ 31) ∧ (0 ≤ n ∧ n ≤ 31) := by omega
  obtain ⟨h3, h4⟩ : (0 ≤ m ∧ m ≤ 31) ∧ (0 ≤ a ∧ a ≤ 31) := by omega
  have h5 : 0 ≤ c ∧ c ≤ 15 := by omega
  obtain ⟨h1, h1'⟩ := h1
  obtain ⟨h2, h2'⟩ := h2
  obtain ⟨h3, h3'⟩ := h3
  obtain ⟨h4, h4'⟩ := h4
  obtain ⟨h5, h5'⟩ := h5
  have HOK := Lib.hid hok
  clear hok
  go_enter Try.func119, Try.ntmps119
  go_wp2_with fail
  refine (HCK.out _).mono ?_
  rintro e w1 ⟨rfl, hb⟩
  have HI1 := Lib.hid ((InsC.new w (.int .i64 34) (.int .i64 d) (.int .i64 n) (.int .i64 m) (.int .i64 a) (.int .i64 c) (.int .i64 i)).below' hb rfl)
  have HB1 : Hid (Below w.heap.size w w1) := Lib.hid (((Below.refl _ _).alloc (Nat.le_refl _) _).trans (hb.mono (by simp)))
  obtain ⟨hl, i0, i1, i2, i3, i4, i5, i6⟩ := HI1.out
  clear hb
  go_wp2_with fail
  refine (rbase_34 _).mono ?_
  rintro e w2 ⟨rfl, hb⟩
  have HI2 := Lib.hid (HI1.out.below' hb rfl)
  have HB2 := Lib.hid (HB1.out.trans (hb.mono HB1.out.size))
  clear hb hl i0 i1 i2 i3 i4 i5 i6 HI1 HB1
  obtain ⟨hl, i0, i1, i2, i3, i4, i5, i6⟩ := HI2.out
  go_wp2
  go_ret2
  refine ⟨?_, HB2.out⟩
  rw [or_5_5 3365927936 n (by decide : (0 : Int) ≤ 3365927936 ∧ (3365927936 : Int) < 4294967296) (by omega) (by have := HOK.out; omega) (by decide), or_0_5 (putS 3365927936 5 5 n) d (putS_lt 3365927936 5 5 n (by decide : (0 : Int) ≤ 3365927936 ∧ (3365927936 : Int) < 4294967296).1 (by decide : (0 : Int) ≤ 3365927936 ∧ (3365927936 : Int) < 4294967296).2) (by omega) (by have := HOK.out; omega) (zput 3365927936 n 5 5 0 5 (by decide : (0 : Int) ≤ 3365927936 ∧ (3365927936 : Int) < 4294967296) (by decide) (by decide) (by decide) (by decide))]
  rfl
set_option maxRecDepth 100000 in
set_option maxHeartbeats 4000000 in
theorem rbase_38 (w : World) : Calls Try.prog 181 #[.int .i64 38] w fun e w' => e = .returned (.int .u32 3573758879) ∧ Below w.heap.size w w' := by
  go_enter Try.func181, Try.ntmps181
  go_wp2
  go_ret
  exact ⟨rfl, (Below.refl _ _).alloc (Nat.le_refl _) _⟩
set_option maxRecDepth 100000 in
set_option maxHeartbeats 4000000 in
theorem rword_38 (d n m a c i : Int) (w : World) (hok : ok_38 d n m a c i = true) : Calls Try.prog 119 #[.agg #[.int .i64 38, .int .i64 d, .int .i64 n, .int .i64 m, .int .i64 a, .int .i64 c, .int .i64 i]] w fun e w' => e = .returned (.tuple #[.int .u32 3573758879, .int .i64 0]) ∧ Below w.heap.size w w' := by
  have HCK := Lib.hid (fun w => (by have := rcheck_38 d n m a c i w; rw [hok] at this; exact this) : ∀ w, Calls Try.prog 83 #[.agg #[.int .i64 38, .int .i64 d, .int .i64 n, .int .i64 m, .int .i64 a, .int .i64 c, .int .i64 i]] w fun e w' => e = .returned (.int .i64 0) ∧ Below w.heap.size w w')
  simp only [ok_38, Bool.and_eq_true, beq_iff_eq] at hok
  obtain ⟨h1, h2⟩ : (0 ≤ d ∧ d ≤ 31) ∧ (0 ≤ n ∧ n ≤ 31) := by omega
  obtain ⟨h3, h4⟩ : (0 ≤ m ∧ m ≤ 31) ∧ (0 ≤ a ∧ a ≤ 31) := by omega
  have h5 : 0 ≤ c ∧ c ≤ 15 := by omega
  obtain ⟨h1, h1'⟩ := h1
  obtain ⟨h2, h2'⟩ := h2
  obtain ⟨h3, h3'⟩ := h3
  obtain ⟨h4, h4'⟩ := h4
  obtain ⟨h5, h5'⟩ := h5
  have HOK := Lib.hid hok
  clear hok
  go_enter Try.func119, Try.ntmps119
  go_wp2_with fail
  refine (HCK.out _).mono ?_
  rintro e w1 ⟨rfl, hb⟩
  have HI1 := Lib.hid ((InsC.new w (.int .i64 38) (.int .i64 d) (.int .i64 n) (.int .i64 m) (.int .i64 a) (.int .i64 c) (.int .i64 i)).below' hb rfl)
  have HB1 : Hid (Below w.heap.size w w1) := Lib.hid (((Below.refl _ _).alloc (Nat.le_refl _) _).trans (hb.mono (by simp)))
  obtain ⟨hl, i0, i1, i2, i3, i4, i5, i6⟩ := HI1.out
  clear hb
  go_wp2_with fail
  refine (rbase_38 _).mono ?_
  rintro e w2 ⟨rfl, hb⟩
  have HI2 := Lib.hid (HI1.out.below' hb rfl)
  have HB2 := Lib.hid (HB1.out.trans (hb.mono HB1.out.size))
  clear hb hl i0 i1 i2 i3 i4 i5 i6 HI1 HB1
  obtain ⟨hl, i0, i1, i2, i3, i4, i5, i6⟩ := HI2.out
  go_wp2
  go_ret2
  refine ⟨?_, HB2.out⟩
  rfl
set_option maxRecDepth 100000 in
set_option maxHeartbeats 4000000 in
theorem rbase_42 (w : World) : Calls Try.prog 181 #[.int .i64 42] w fun e w' => e = .returned (.int .u32 3556769793) ∧ Below w.heap.size w w' := by
  go_enter Try.func181, Try.ntmps181
  go_wp2
  go_ret
  exact ⟨rfl, (Below.refl _ _).alloc (Nat.le_refl _) _⟩
set_option maxRecDepth 100000 in
set_option maxHeartbeats 4000000 in
theorem rword_42 (d n m a c i : Int) (w : World) (hok : ok_42 d n m a c i = true) : Calls Try.prog 119 #[.agg #[.int .i64 42, .int .i64 d, .int .i64 n, .int .i64 m, .int .i64 a, .int .i64 c, .int .i64 i]] w fun e w' => e = .returned (.tuple #[.int .u32 (putS 3556769793 5 16 i), .int .i64 0]) ∧ Below w.heap.size w w' := by
  have HCK := Lib.hid (fun w => (by have := rcheck_42 d n m a c i w; rw [hok] at this; exact this) : ∀ w, Calls Try.prog 83 #[.agg #[.int .i64 42, .int .i64 d, .int .i64 n, .int .i64 m, .int .i64 a, .int .i64 c, .int .i64 i]] w fun e w' => e = .returned (.int .i64 0) ∧ Below w.heap.size w w')
  simp only [ok_42, wi, Bool.and_eq_true, decide_eq_true_eq, beq_iff_eq] at hok
  obtain ⟨h1, h2⟩ : (0 ≤ d ∧ d ≤ 31) ∧ (0 ≤ n ∧ n ≤ 31) := by omega
  obtain ⟨h3, h4⟩ : (0 ≤ m ∧ m ≤ 31) ∧ (0 ≤ a ∧ a ≤ 31) := by omega
  have h5 : 0 ≤ c ∧ c ≤ 15 := by omega
  obtain ⟨h1, h1'⟩ := h1
  obtain ⟨h2, h2'⟩ := h2
  obtain ⟨h3, h3'⟩ := h3
  obtain ⟨h4, h4'⟩ := h4
  obtain ⟨h5, h5'⟩ := h5
  have HOK := Lib.hid hok
  clear hok
  go_enter Try.func119, Try.ntmps119
  go_wp2_with fail
  refine (HCK.out _).mono ?_
  rintro e w1 ⟨rfl, hb⟩
  have HI1 := Lib.hid ((InsC.new w (.int .i64 42) (.int .i64 d) (.int .i64 n) (.int .i64 m) (.int .i64 a) (.int .i64 c) (.int .i64 i)).below' hb rfl)
  have HB1 : Hid (Below w.heap.size w w1) := Lib.hid (((Below.refl _ _).alloc (Nat.le_refl _) _).trans (hb.mono (by simp)))
  obtain ⟨hl, i0, i1, i2, i3, i4, i5, i6⟩ := HI1.out
  clear hb
  go_wp2_with fail
  refine (rbase_42 _).mono ?_
  rintro e w2 ⟨rfl, hb⟩
  have HI2 := Lib.hid (HI1.out.below' hb rfl)
  have HB2 := Lib.hid (HB1.out.trans (hb.mono HB1.out.size))
  clear hb hl i0 i1 i2 i3 i4 i5 i6 HI1 HB1
  obtain ⟨hl, i0, i1, i2, i3, i4, i5, i6⟩ := HI2.out
  have hi : 0 ≤ i ∧ i ≤ 65535 := by have := HOK.out; omega
  obtain ⟨hi0, hi1⟩ := hi
  go_wp2
  go_ret2
  refine ⟨?_, HB2.out⟩
  rw [or_5_16 3556769793 i (by decide : (0 : Int) ≤ 3556769793 ∧ (3556769793 : Int) < 4294967296) (by omega) (by have := HOK.out; omega) (by decide)]
  rfl
end Go.Proofs.Ytnbpgoacooddjaa.En
