import Derived.Test.YtnbpgoacooddjaaEWd
import Derived.Test.YtnbpgoacooddjaaERfB
import Derived.Test.YtnbpgoacooddjaaERfC
import Derived.Test.YtnbpgoacooddjaaERfD
import Derived.Test.YtnbpgoacooddjaaERfE
import Derived.Test.YtnbpgoacooddjaaEEm
namespace Go.Proofs.Ytnbpgoacooddjaa.Fr
end Go.Proofs.Ytnbpgoacooddjaa.Fr
namespace Go.Proofs.Ytnbpgoacooddjaa.En
open Go.Proofs.Ytnbpgoacooddjaa.Fr
open Go.ChangeShapes Go.WideShapes Go.ChangeAt Go.RowKit Go.Maps
set_option linter.unusedVariables false
set_option maxRecDepth 100000 in
set_option maxHeartbeats 4000000 in
theorem rbase_1 (w : World) : Calls Try.prog 181 #[.int .i64 1] w fun e w' => e = .returned (.int .u32 3573751839) ∧ Below w.heap.size w w' := by
  go_enter Try.func181, Try.ntmps181
  go_wp2
  go_ret
  exact ⟨rfl, (Below.refl _ _).alloc (Nat.le_refl _) _⟩
set_option maxRecDepth 100000 in
set_option maxHeartbeats 4000000 in
theorem rword_1 (d n m a c i : Int) (w : World) (hok : ok_1 d n m a c i = true) : Calls Try.prog 119 #[.agg #[.int .i64 1, .int .i64 d, .int .i64 n, .int .i64 m, .int .i64 a, .int .i64 c, .int .i64 i]] w fun e w' => e = .returned (.tuple #[.int .u32 3573751839, .int .i64 0]) ∧ Below w.heap.size w w' := by
  have HCK := Lib.hid (fun w => (by have := rcheck_1 d n m a c i w; rw [hok] at this; exact this) : ∀ w, Calls Try.prog 83 #[.agg #[.int .i64 1, .int .i64 d, .int .i64 n, .int .i64 m, .int .i64 a, .int .i64 c, .int .i64 i]] w fun e w' => e = .returned (.int .i64 0) ∧ Below w.heap.size w w')
  simp only [ok_1, Bool.and_eq_true, beq_iff_eq] at hok
  obtain ⟨h1, h2⟩ : (0 ≤ d ∧ d ≤ 31) ∧ (0 ≤ n ∧ n ≤ 31) := by omega
  obtain ⟨h3, h4⟩ : (0 ≤ m ∧ m ≤ 31) ∧ (0 ≤ a ∧ a ≤ 31) := by omega
  have h5 : 0 ≤ c ∧ c ≤ 15 := by omega
  obtain ⟨h1, h1'⟩ := h1
  obtain ⟨h2, h2'⟩ := h2
  obtain ⟨h3, h3'⟩ := h3
  obtain ⟨h4, h4'⟩ := h4
  obtain ⟨h5, h5'⟩ := h5
  have HOK := Lib.hid hok
  clear hok
  go_enter Try.func119, Try.ntmps119
  go_wp2_with fail
  refine (HCK.out _).mono ?_
  rintro e w1 ⟨rfl, hb⟩
  have HI1 := Lib.hid ((InsC.new w (.int .i64 1) (.int .i64 d) (.int .i64 n) (.int .i64 m) (.int .i64 a) (.int .i64 c) (.int .i64 i)).below' hb rfl)
  have HB1 : Hid (Below w.heap.size w w1) := Lib.hid (((Below.refl _ _).alloc (Nat.le_refl _) _).trans (hb.mono (by simp)))
  obtain ⟨hl, i0, i1, i2, i3, i4, i5, i6⟩ := HI1.out
  clear hb
  go_wp2_with fail
  refine (rbase_1 _).mono ?_
  rintro e w2 ⟨rfl, hb⟩
  have HI2 := Lib.hid (HI1.out.below' hb rfl)
  have HB2 := Lib.hid (HB1.out.trans (hb.mono HB1.out.size))
  clear hb hl i0 i1 i2 i3 i4 i5 i6 HI1 HB1
  obtain ⟨hl, i0, i1, i2, i3, i4, i5, i6⟩ := HI2.out
  go_wp2
  go_ret2
  refine ⟨?_, HB2.out⟩
  rfl
set_option maxRecDepth 100000 in
set_option maxHeartbeats 4000000 in
theorem rbase_5 (w : World) : Calls Try.prog 181 #[.int .i64 5] w fun e w' => e = .returned (.int .u32 3506438144) ∧ Below w.heap.size w w' := by
  go_enter Try.func181, Try.ntmps181
  go_wp2
  go_ret
  exact ⟨rfl, (Below.refl _ _).alloc (Nat.le_refl _) _⟩
set_option maxRecDepth 100000 in
set_option maxHeartbeats 4000000 in
theorem rword_5 (d n m a c i : Int) (w : World) (hok : ok_5 d n m a c i = true) : Calls Try.prog 119 #[.agg #[.int .i64 5, .int .i64 d, .int .i64 n, .int .i64 m, .int .i64 a, .int .i64 c, .int .i64 i]] w fun e w' => e = .returned (.tuple #[.int .u32 (putS (putS (putS 3506438144 10 12 i) 5 5 n) 0 5 d), .int .i64 0]) ∧ Below w.heap.size w w' := by
  have HCK := Lib.hid (fun w => (by have := rcheck_5 d n m a c i w; rw [hok] at this; exact this) : ∀ w, Calls Try.prog 83 #[.agg #[.int .i64 5, .int .i64 d, .int .i64 n, .int .i64 m, .int .i64 a, .int .i64 c, .int .i64 i]] w fun e w' => e = .returned (.int .i64 0) ∧ Below w.heap.size w w')
  simp only [ok_5, wi, Bool.and_eq_true, decide_eq_true_eq, beq_iff_eq] at hok
  obtain ⟨h1, h2⟩ : (0 ≤ d ∧ d ≤ 31) ∧ (0 ≤ n ∧ n ≤ 31) := by omega
  obtain ⟨h3, h4⟩ : (0 ≤ m ∧ m ≤ 31) ∧ (0 ≤ a ∧ a ≤ 31) := by omega
  have h5 : 0 ≤ c ∧ c ≤ 15 := by omega
  obtain ⟨h1, h1'⟩ := h1
  obtain ⟨h2, h2'⟩ := h2
  obtain ⟨h3, h3'⟩ := h3
  obtain ⟨h4, h4'⟩ := h4
  obtain ⟨h5, h5'⟩ := h5
  have HOK := Lib.hid hok
  clear hok
  go_enter Try.func119, Try.ntmps119
  go_wp2_with fail
  refine (HCK.out _).mono ?_
  rintro e w1 ⟨rfl, hb⟩
  have HI1 := Lib.hid ((InsC.new w (.int .i64 5) (.int .i64 d) (.int .i64 n) (.int .i64 m) (.int .i64 a) (.int .i64 c) (.int .i64 i)).below' hb rfl)
  have HB1 : Hid (Below w.heap.size w w1) := Lib.hid (((Below.refl _ _).alloc (Nat.le_refl _) _).trans (hb.mono (by simp)))
  obtain ⟨hl, i0, i1, i2, i3, i4, i5, i6⟩ := HI1.out
  clear hb
  go_wp2_with fail
  refine (rbase_5 _).mono ?_
  rintro e w2 ⟨rfl, hb⟩
  have HI2 := Lib.hid (HI1.out.below' hb rfl)
  have HB2 := Lib.hid (HB1.out.trans (hb.mono HB1.out.size))
  clear hb hl i0 i1 i2 i3 i4 i5 i6 HI1 HB1
  obtain ⟨hl, i0, i1, i2, i3, i4, i5, i6⟩ := HI2.out
  have hi : 0 ≤ i ∧ i ≤ 4095 := by have := HOK.out; omega
  obtain ⟨hi0, hi1⟩ := hi
  go_wp2
  go_ret2
  refine ⟨?_, HB2.out⟩
  rw [or_10_12 3506438144 i (by decide : (0 : Int) ≤ 3506438144 ∧ (3506438144 : Int) < 4294967296) (by omega) (by have := HOK.out; omega) (by decide), or_5_5 (putS 3506438144 10 12 i) n (putS_lt 3506438144 10 12 i (by decide : (0 : Int) ≤ 3506438144 ∧ (3506438144 : Int) < 4294967296).1 (by decide : (0 : Int) ≤ 3506438144 ∧ (3506438144 : Int) < 4294967296).2) (by omega) (by have := HOK.out; omega) (zput 3506438144 i 10 12 5 5 (by decide : (0 : Int) ≤ 3506438144 ∧ (3506438144 : Int) < 4294967296) (by decide) (by decide) (by decide) (by decide)), or_0_5 (putS (putS 3506438144 10 12 i) 5 5 n) d (putS_lt (putS 3506438144 10 12 i) 5 5 n (putS_lt 3506438144 10 12 i (by decide : (0 : Int) ≤ 3506438144 ∧ (3506438144 : Int) < 4294967296).1 (by decide : (0 : Int) ≤ 3506438144 ∧ (3506438144 : Int) < 4294967296).2).1 (putS_lt 3506438144 10 12 i (by decide : (0 : Int) ≤ 3506438144 ∧ (3506438144 : Int) < 4294967296).1 (by decide : (0 : Int) ≤ 3506438144 ∧ (3506438144 : Int) < 4294967296).2).2) (by omega) (by have := HOK.out; omega) (zput (putS 3506438144 10 12 i) n 5 5 0 5 (putS_lt 3506438144 10 12 i (by decide : (0 : Int) ≤ 3506438144 ∧ (3506438144 : Int) < 4294967296).1 (by decide : (0 : Int) ≤ 3506438144 ∧ (3506438144 : Int) < 4294967296).2) (by decide) (by decide) (by decide) (zput 3506438144 i 10 12 0 5 (by decide : (0 : Int) ≤ 3506438144 ∧ (3506438144 : Int) < 4294967296) (by decide) (by decide) (by decide) (by decide)))]
  rfl
set_option maxRecDepth 100000 in
set_option maxHeartbeats 4000000 in
theorem rbase_9 (w : World) : Calls Try.prog 181 #[.int .i64 9] w fun e w' => e = .returned (.int .u32 3942645760) ∧ Below w.heap.size w w' := by
  go_enter Try.func181, Try.ntmps181
  go_wp2
  go_ret
  exact ⟨rfl, (Below.refl _ _).alloc (Nat.le_refl _) _⟩
set_option maxRecDepth 100000 in
set_option maxHeartbeats 4000000 in
theorem rword_9 (d n m a c i : Int) (w : World) (hok : ok_9 d n m a c i = true) : Calls Try.prog 119 #[.agg #[.int .i64 9, .int .i64 d, .int .i64 n, .int .i64 m, .int .i64 a, .int .i64 c, .int .i64 i]] w fun e w' => e = .returned (.tuple #[.int .u32 (putS (putS (putS 3942645760 16 5 m) 5 5 n) 0 5 d), .int .i64 0]) ∧ Below w.heap.size w w' := by
  have HCK := Lib.hid (fun w => (by have := rcheck_9 d n m a c i w; rw [hok] at this; exact this) : ∀ w, Calls Try.prog 83 #[.agg #[.int .i64 9, .int .i64 d, .int .i64 n, .int .i64 m, .int .i64 a, .int .i64 c, .int .i64 i]] w fun e w' => e = .returned (.int .i64 0) ∧ Below w.heap.size w w')
  simp only [ok_9, wi, Bool.and_eq_true, decide_eq_true_eq, beq_iff_eq] at hok
  obtain ⟨h1, h2⟩ : (0 ≤ d ∧ d ≤ 31) ∧ (0 ≤ n ∧ n ≤ 31) := by omega
  obtain ⟨h3, h4⟩ : (0 ≤ m ∧ m ≤ 31) ∧ (0 ≤ a ∧ a ≤ 31) := by omega
  have h5 : 0 ≤ c ∧ c ≤ 15 := by omega
  obtain ⟨h1, h1'⟩ := h1
  obtain ⟨h2, h2'⟩ := h2
  obtain ⟨h3, h3'⟩ := h3
  obtain ⟨h4, h4'⟩ := h4
  obtain ⟨h5, h5'⟩ := h5
  have HOK := Lib.hid hok
  clear hok
  go_enter Try.func119, Try.ntmps119
  go_wp2_with fail
  refine (HCK.out _).mono ?_
  rintro e w1 ⟨rfl, hb⟩
  have HI1 := Lib.hid ((InsC.new w (.int .i64 9) (.int .i64 d) (.int .i64 n) (.int .i64 m) (.int .i64 a) (.int .i64 c) (.int .i64 i)).below' hb rfl)
  have HB1 : Hid (Below w.heap.size w w1) := Lib.hid (((Below.refl _ _).alloc (Nat.le_refl _) _).trans (hb.mono (by simp)))
  obtain ⟨hl, i0, i1, i2, i3, i4, i5, i6⟩ := HI1.out
  clear hb
  go_wp2_with fail
  refine (rbase_9 _).mono ?_
  rintro e w2 ⟨rfl, hb⟩
  have HI2 := Lib.hid (HI1.out.below' hb rfl)
  have HB2 := Lib.hid (HB1.out.trans (hb.mono HB1.out.size))
  clear hb hl i0 i1 i2 i3 i4 i5 i6 HI1 HB1
  obtain ⟨hl, i0, i1, i2, i3, i4, i5, i6⟩ := HI2.out
  go_wp2
  go_ret2
  refine ⟨?_, HB2.out⟩
  rw [or_16_5 3942645760 m (by decide : (0 : Int) ≤ 3942645760 ∧ (3942645760 : Int) < 4294967296) (by omega) (by have := HOK.out; omega) (by decide), or_5_5 (putS 3942645760 16 5 m) n (putS_lt 3942645760 16 5 m (by decide : (0 : Int) ≤ 3942645760 ∧ (3942645760 : Int) < 4294967296).1 (by decide : (0 : Int) ≤ 3942645760 ∧ (3942645760 : Int) < 4294967296).2) (by omega) (by have := HOK.out; omega) (zput 3942645760 m 16 5 5 5 (by decide : (0 : Int) ≤ 3942645760 ∧ (3942645760 : Int) < 4294967296) (by decide) (by decide) (by decide) (by decide)), or_0_5 (putS (putS 3942645760 16 5 m) 5 5 n) d (putS_lt (putS 3942645760 16 5 m) 5 5 n (putS_lt 3942645760 16 5 m (by decide : (0 : Int) ≤ 3942645760 ∧ (3942645760 : Int) < 4294967296).1 (by decide : (0 : Int) ≤ 3942645760 ∧ (3942645760 : Int) < 4294967296).2).1 (putS_lt 3942645760 16 5 m (by decide : (0 : Int) ≤ 3942645760 ∧ (3942645760 : Int) < 4294967296).1 (by decide : (0 : Int) ≤ 3942645760 ∧ (3942645760 : Int) < 4294967296).2).2) (by omega) (by have := HOK.out; omega) (zput (putS 3942645760 16 5 m) n 5 5 0 5 (putS_lt 3942645760 16 5 m (by decide : (0 : Int) ≤ 3942645760 ∧ (3942645760 : Int) < 4294967296).1 (by decide : (0 : Int) ≤ 3942645760 ∧ (3942645760 : Int) < 4294967296).2) (by decide) (by decide) (by decide) (zput 3942645760 m 16 5 0 5 (by decide : (0 : Int) ≤ 3942645760 ∧ (3942645760 : Int) < 4294967296) (by decide) (by decide) (by decide) (by decide)))]
  rfl
set_option maxRecDepth 100000 in
set_option maxHeartbeats 4000000 in
theorem rbase_13 (w : World) : Calls Try.prog 181 #[.int .i64 13] w fun e w' => e = .returned (.int .u32 2600468480) ∧ Below w.heap.size w w' := by
  go_enter Try.func181, Try.ntmps181
  go_wp2
  go_ret
  exact ⟨rfl, (Below.refl _ _).alloc (Nat.le_refl _) _⟩
set_option maxRecDepth 100000 in
set_option maxHeartbeats 4000000 in
theorem rword_13 (d n m a c i : Int) (w : World) (hok : ok_13 d n m a c i = true) : Calls Try.prog 119 #[.agg #[.int .i64 13, .int .i64 d, .int .i64 n, .int .i64 m, .int .i64 a, .int .i64 c, .int .i64 i]] w fun e w' => e = .returned (.tuple #[.int .u32 (putS (putS (putS (putS 2600468480 16 5 m) 10 5 a) 5 5 n) 0 5 d), .int .i64 0]) ∧ Below w.heap.size w w' := by
  have HCK := Lib.hid (fun w => (by have := rcheck_13 d n m a c i w; rw [hok] at this; exact this) : ∀ w, Calls Try.prog 83 #[.agg #[.int .i64 13, .int .i64 d, .int .i64 n, .int .i64 m, .int .i64 a, .int .i64 c, .int .i64 i]] w fun e w' => e = .returned (.int .i64 0) ∧ Below w.heap.size w w')
  simp only [ok_13, wi, Bool.and_eq_true, decide_eq_true_eq, beq_iff_eq] at hok
  obtain ⟨h1, h2⟩ : (0 ≤ d ∧ d ≤ 31) ∧ (0 ≤ n ∧ n ≤ 31) := by omega
  obtain ⟨h3, h4⟩ : (0 ≤ m ∧ m ≤ 31) ∧ (0 ≤ a ∧ a ≤ 31) := by omega
  have h5 : 0 ≤ c ∧ c ≤ 15 := by omega
  obtain ⟨h1, h1'⟩ := h1
  obtain ⟨h2, h2'⟩ := h2
  obtain ⟨h3, h3'⟩ := h3
  obtain ⟨h4, h4'⟩ := h4
  obtain ⟨h5, h5'⟩ := h5
  have HOK := Lib.hid hok
  clear hok
  go_enter Try.func119, Try.ntmps119
  go_wp2_with fail
  refine (HCK.out _).mono ?_
  rintro e w1 ⟨rfl, hb⟩
  have HI1 := Lib.hid ((InsC.new w (.int .i64 13) (.int .i64 d) (.int .i64 n) (.int .i64 m) (.int .i64 a) (.int .i64 c) (.int .i64 i)).below' hb rfl)
  have HB1 : Hid (Below w.heap.size w w1) := Lib.hid (((Below.refl _ _).alloc (Nat.le_refl _) _).trans (hb.mono (by simp)))
  obtain ⟨hl, i0, i1, i2, i3, i4, i5, i6⟩ := HI1.out
  clear hb
  go_wp2_with fail
  refine (rbase_13 _).mono ?_
  rintro e w2 ⟨rfl, hb⟩
  have HI2 := Lib.hid (HI1.out.below' hb rfl)
  have HB2 := Lib.hid (HB1.out.trans (hb.mono HB1.out.size))
  clear hb hl i0 i1 i2 i3 i4 i5 i6 HI1 HB1
  obtain ⟨hl, i0, i1, i2, i3, i4, i5, i6⟩ := HI2.out
  go_wp2
  go_ret2
  refine ⟨?_, HB2.out⟩
  rw [or_16_5 2600468480 m (by decide : (0 : Int) ≤ 2600468480 ∧ (2600468480 : Int) < 4294967296) (by omega) (by have := HOK.out; omega) (by decide), or_10_5 (putS 2600468480 16 5 m) a (putS_lt 2600468480 16 5 m (by decide : (0 : Int) ≤ 2600468480 ∧ (2600468480 : Int) < 4294967296).1 (by decide : (0 : Int) ≤ 2600468480 ∧ (2600468480 : Int) < 4294967296).2) (by omega) (by have := HOK.out; omega) (zput 2600468480 m 16 5 10 5 (by decide : (0 : Int) ≤ 2600468480 ∧ (2600468480 : Int) < 4294967296) (by decide) (by decide) (by decide) (by decide)), or_5_5 (putS (putS 2600468480 16 5 m) 10 5 a) n (putS_lt (putS 2600468480 16 5 m) 10 5 a (putS_lt 2600468480 16 5 m (by decide : (0 : Int) ≤ 2600468480 ∧ (2600468480 : Int) < 4294967296).1 (by decide : (0 : Int) ≤ 2600468480 ∧ (2600468480 : Int) < 4294967296).2).1 (putS_lt 2600468480 16 5 m (by decide : (0 : Int) ≤ 2600468480 ∧ (2600468480 : Int) < 4294967296).1 (by decide : (0 : Int) ≤ 2600468480 ∧ (2600468480 : Int) < 4294967296).2).2) (by omega) (by have := HOK.out; omega) (zput (putS 2600468480 16 5 m) a 10 5 5 5 (putS_lt 2600468480 16 5 m (by decide : (0 : Int) ≤ 2600468480 ∧ (2600468480 : Int) < 4294967296).1 (by decide : (0 : Int) ≤ 2600468480 ∧ (2600468480 : Int) < 4294967296).2) (by decide) (by decide) (by decide) (zput 2600468480 m 16 5 5 5 (by decide : (0 : Int) ≤ 2600468480 ∧ (2600468480 : Int) < 4294967296) (by decide) (by decide) (by decide) (by decide))), or_0_5 (putS (putS (putS 2600468480 16 5 m) 10 5 a) 5 5 n) d (putS_lt (putS (putS 2600468480 16 5 m) 10 5 a) 5 5 n (putS_lt (putS 2600468480 16 5 m) 10 5 a (putS_lt 2600468480 16 5 m (by decide : (0 : Int) ≤ 2600468480 ∧ (2600468480 : Int) < 4294967296).1 (by decide : (0 : Int) ≤ 2600468480 ∧ (2600468480 : Int) < 4294967296).2).1 (putS_lt 2600468480 16 5 m (by decide : (0 : Int) ≤ 2600468480 ∧ (2600468480 : Int) < 4294967296).1 (by decide : (0 : Int) ≤ 2600468480 ∧ (2600468480 : Int) < 4294967296).2).2).1 (putS_lt (putS 2600468480 16 5 m) 10 5 a (putS_lt 2600468480 16 5 m (by decide : (0 : Int) ≤ 2600468480 ∧ (2600468480 : Int) < 4294967296).1 (by decide : (0 : Int) ≤ 2600468480 ∧ (2600468480 : Int) < 4294967296).2).1 (putS_lt 2600468480 16 5 m (by decide : (0 : Int) ≤ 2600468480 ∧ (2600468480 : Int) < 4294967296).1 (by decide : (0 : Int) ≤ 2600468480 ∧ (2600468480 : Int) < 4294967296).2).2).2) (by omega) (by have := HOK.out; omega) (zput (putS (putS 2600468480 16 5 m) 10 5 a) n 5 5 0 5 (putS_lt (putS 2600468480 16 5 m) 10 5 a (putS_lt 2600468480 16 5 m (by decide : (0 : Int) ≤ 2600468480 ∧ (2600468480 : Int) < 4294967296).1 (by decide : (0 : Int) ≤ 2600468480 ∧ (2600468480 : Int) < 4294967296).2).1 (putS_lt 2600468480 16 5 m (by decide : (0 : Int) ≤ 2600468480 ∧ (2600468480 : Int) < 4294967296).1 (by decide : (0 : Int) ≤ 2600468480 ∧ (2600468480 : Int) < 4294967296).2).2) (by decide) (by decide) (by decide) (zput (putS 2600468480 16 5 m) a 10 5 0 5 (putS_lt 2600468480 16 5 m (by decide : (0 : Int) ≤ 2600468480 ∧ (2600468480 : Int) < 4294967296).1 (by decide : (0 : Int) ≤ 2600468480 ∧ (2600468480 : Int) < 4294967296).2) (by decide) (by decide) (by decide) (zput 2600468480 m 16 5 0 5 (by decide : (0 : Int) ≤ 2600468480 ∧ (2600468480 : Int) < 4294967296) (by decide) (by decide) (by decide) (by decide))))]
  rfl
set_option maxRecDepth 100000 in
set_option maxHeartbeats 4000000 in
theorem rbase_17 (w : World) : Calls Try.prog 181 #[.int .i64 17] w fun e w' => e = .returned (.int .u32 2596283392) ∧ Below w.heap.size w w' := by
  go_enter Try.func181, Try.ntmps181
  go_wp2
  go_ret
  exact ⟨rfl, (Below.refl _ _).alloc (Nat.le_refl _) _⟩
set_option maxRecDepth 100000 in
set_option maxHeartbeats 4000000 in
theorem rword_17 (d n m a c i : Int) (w : World) (hok : ok_17 d n m a c i = true) : Calls Try.prog 119 #[.agg #[.int .i64 17, .int .i64 d, .int .i64 n, .int .i64 m, .int .i64 a, .int .i64 c, .int .i64 i]] w fun e w' => e = .returned (.tuple #[.int .u32 (putS (putS (putS 2596283392 16 5 m) 5 5 n) 0 5 d), .int .i64 0]) ∧ Below w.heap.size w w' := by
  have HCK := Lib.hid (fun w => (by have := rcheck_17 d n m a c i w; rw [hok] at this; exact this) : ∀ w, Calls Try.prog 83 #[.agg #[.int .i64 17, .int .i64 d, .int .i64 n, .int .i64 m, .int .i64 a, .int .i64 c, .int .i64 i]] w fun e w' => e = .returned (.int .i64 0) ∧ Below w.heap.size w w')
  simp only [ok_17, wi, Bool.and_eq_true, decide_eq_true_eq, beq_iff_eq] at hok
  obtain ⟨h1, h2⟩ : (0 ≤ d ∧ d ≤ 31) ∧ (0 ≤ n ∧ n ≤ 31) := by omega
  obtain ⟨h3, h4⟩ : (0 ≤ m ∧ m ≤ 31) ∧ (0 ≤ a ∧ a ≤ 31) := by omega
  have h5 : 0 ≤ c ∧ c ≤ 15 := by omega
  obtain ⟨h1, h1'⟩ := h1
  obtain ⟨h2, h2'⟩ := h2
  obtain ⟨h3, h3'⟩ := h3
  obtain ⟨h4, h4'⟩ := h4
  obtain ⟨h5, h5'⟩ := h5
  have HOK := Lib.hid hok
  clear hok
  go_enter Try.func119, Try.ntmps119
  go_wp2_with fail
  refine (HCK.out _).mono ?_
  rintro e w1 ⟨rfl, hb⟩
  have HI1 := Lib.hid ((InsC.new w (.int .i64 17) (.int .i64 d) (.int .i64 n) (.int .i64 m) (.int .i64 a) (.int .i64 c) (.int .i64 i)).below' hb rfl)
  have HB1 : Hid (Below w.heap.size w w1) := Lib.hid (((Below.refl _ _).alloc (Nat.le_refl _) _).trans (hb.mono (by simp)))
  obtain ⟨hl, i0, i1, i2, i3, i4, i5, i6⟩ := HI1.out
  clear hb
  go_wp2_with fail
  refine (rbase_17 _).mono ?_
  rintro e w2 ⟨rfl, hb⟩
  have HI2 := Lib.hid (HI1.out.below' hb rfl)
  have HB2 := Lib.hid (HB1.out.trans (hb.mono HB1.out.size))
  clear hb hl i0 i1 i2 i3 i4 i5 i6 HI1 HB1
  obtain ⟨hl, i0, i1, i2, i3, i4, i5, i6⟩ := HI2.out
  go_wp2
  go_ret2
  refine ⟨?_, HB2.out⟩
  rw [or_16_5 2596283392 m (by decide : (0 : Int) ≤ 2596283392 ∧ (2596283392 : Int) < 4294967296) (by omega) (by have := HOK.out; omega) (by decide), or_5_5 (putS 2596283392 16 5 m) n (putS_lt 2596283392 16 5 m (by decide : (0 : Int) ≤ 2596283392 ∧ (2596283392 : Int) < 4294967296).1 (by decide : (0 : Int) ≤ 2596283392 ∧ (2596283392 : Int) < 4294967296).2) (by omega) (by have := HOK.out; omega) (zput 2596283392 m 16 5 5 5 (by decide : (0 : Int) ≤ 2596283392 ∧ (2596283392 : Int) < 4294967296) (by decide) (by decide) (by decide) (by decide)), or_0_5 (putS (putS 2596283392 16 5 m) 5 5 n) d (putS_lt (putS 2596283392 16 5 m) 5 5 n (putS_lt 2596283392 16 5 m (by decide : (0 : Int) ≤ 2596283392 ∧ (2596283392 : Int) < 4294967296).1 (by decide : (0 : Int) ≤ 2596283392 ∧ (2596283392 : Int) < 4294967296).2).1 (putS_lt 2596283392 16 5 m (by decide : (0 : Int) ≤ 2596283392 ∧ (2596283392 : Int) < 4294967296).1 (by decide : (0 : Int) ≤ 2596283392 ∧ (2596283392 : Int) < 4294967296).2).2) (by omega) (by have := HOK.out; omega) (zput (putS 2596283392 16 5 m) n 5 5 0 5 (putS_lt 2596283392 16 5 m (by decide : (0 : Int) ≤ 2596283392 ∧ (2596283392 : Int) < 4294967296).1 (by decide : (0 : Int) ≤ 2596283392 ∧ (2596283392 : Int) < 4294967296).2) (by decide) (by decide) (by decide) (zput 2596283392 m 16 5 0 5 (by decide : (0 : Int) ≤ 2596283392 ∧ (2596283392 : Int) < 4294967296) (by decide) (by decide) (by decide) (by decide)))]
  rfl
set_option maxRecDepth 100000 in
set_option maxHeartbeats 4000000 in
theorem rbase_21 (w : World) : Calls Try.prog 181 #[.int .i64 21] w fun e w' => e = .returned (.int .u32 1409286144) ∧ Below w.heap.size w w' := by
  go_enter Try.func181, Try.ntmps181
  go_wp2
  go_ret
  exact ⟨rfl, (Below.refl _ _).alloc (Nat.le_refl _) _⟩
set_option maxRecDepth 100000 in
set_option maxHeartbeats 4000000 in
theorem rword_21 (d n m a c i : Int) (w : World) (hok : ok_21 d n m a c i = true) : Calls Try.prog 119 #[.agg #[.int .i64 21, .int .i64 d, .int .i64 n, .int .i64 m, .int .i64 a, .int .i64 c, .int .i64 i]] w fun e w' => e = .returned (.tuple #[.int .u32 (putS (putS 1409286144 5 19 (i / 4 % 4294967296)) 0 4 c), .int .i64 0]) ∧ Below w.heap.size w w' := by
  have HCK := Lib.hid (fun w => (by have := rcheck_21 d n m a c i w; rw [hok] at this; exact this) : ∀ w, Calls Try.prog 83 #[.agg #[.int .i64 21, .int .i64 d, .int .i64 n, .int .i64 m, .int .i64 a, .int .i64 c, .int .i64 i]] w fun e w' => e = .returned (.int .i64 0) ∧ Below w.heap.size w w')
  simp only [ok_21, wi, wm, Bool.and_eq_true, decide_eq_true_eq, beq_iff_eq] at hok
  obtain ⟨h1, h2⟩ : (0 ≤ d ∧ d ≤ 31) ∧ (0 ≤ n ∧ n ≤ 31) := by omega
  obtain ⟨h3, h4⟩ : (0 ≤ m ∧ m ≤ 31) ∧ (0 ≤ a ∧ a ≤ 31) := by omega
  have h5 : 0 ≤ c ∧ c ≤ 15 := by omega
  obtain ⟨h1, h1'⟩ := h1
  obtain ⟨h2, h2'⟩ := h2
  obtain ⟨h3, h3'⟩ := h3
  obtain ⟨h4, h4'⟩ := h4
  obtain ⟨h5, h5'⟩ := h5
  have HOK := Lib.hid hok
  clear hok
  go_enter Try.func119, Try.ntmps119
  go_wp2_with fail
  refine (HCK.out _).mono ?_
  rintro e w1 ⟨rfl, hb⟩
  have HI1 := Lib.hid ((InsC.new w (.int .i64 21) (.int .i64 d) (.int .i64 n) (.int .i64 m) (.int .i64 a) (.int .i64 c) (.int .i64 i)).below' hb rfl)
  have HB1 : Hid (Below w.heap.size w w1) := Lib.hid (((Below.refl _ _).alloc (Nat.le_refl _) _).trans (hb.mono (by simp)))
  obtain ⟨hl, i0, i1, i2, i3, i4, i5, i6⟩ := HI1.out
  clear hb
  go_wp2_with fail
  refine (rbase_21 _).mono ?_
  rintro e w2 ⟨rfl, hb⟩
  have HI2 := Lib.hid (HI1.out.below' hb rfl)
  have HB2 := Lib.hid (HB1.out.trans (hb.mono HB1.out.size))
  clear hb hl i0 i1 i2 i3 i4 i5 i6 HI1 HB1
  obtain ⟨hl, i0, i1, i2, i3, i4, i5, i6⟩ := HI2.out
  have hi : -1048576 ≤ i ∧ i ≤ 1048572 := by have := HOK.out; omega
  obtain ⟨hi0, hi1⟩ := hi
  go_wp2
  go_ret2
  refine ⟨?_, HB2.out⟩
  rw [near_l 1409286144 i (by decide : (0 : Int) ≤ 1409286144 ∧ (1409286144 : Int) < 4294967296) (by decide) (by have := HOK.out; omega), or_0_4 (putS 1409286144 5 19 (i / 4 % 4294967296)) c (putS_lt 1409286144 5 19 (i / 4 % 4294967296) (by decide : (0 : Int) ≤ 1409286144 ∧ (1409286144 : Int) < 4294967296).1 (by decide : (0 : Int) ≤ 1409286144 ∧ (1409286144 : Int) < 4294967296).2) (by omega) (by have := HOK.out; omega) (zput 1409286144 (i / 4 % 4294967296) 5 19 0 4 (by decide : (0 : Int) ≤ 1409286144 ∧ (1409286144 : Int) < 4294967296) (by decide) (by decide) (by decide) (by decide))]
  rfl
set_option maxRecDepth 100000 in
set_option maxHeartbeats 4000000 in
theorem rbase_25 (w : World) : Calls Try.prog 181 #[.int .i64 25] w fun e w' => e = .returned (.int .u32 3592355840) ∧ Below w.heap.size w w' := by
  go_enter Try.func181, Try.ntmps181
  go_wp2
  go_ret
  exact ⟨rfl, (Below.refl _ _).alloc (Nat.le_refl _) _⟩
set_option maxRecDepth 100000 in
set_option maxHeartbeats 4000000 in
theorem rword_25 (d n m a c i : Int) (w : World) (hok : ok_25 d n m a c i = true) : Calls Try.prog 119 #[.agg #[.int .i64 25, .int .i64 d, .int .i64 n, .int .i64 m, .int .i64 a, .int .i64 c, .int .i64 i]] w fun e w' => e = .returned (.tuple #[.int .u32 (putS 3592355840 5 5 n), .int .i64 0]) ∧ Below w.heap.size w w' := by
  have HCK := Lib.hid (fun w => (by have := rcheck_25 d n m a c i w; rw [hok] at this; exact this) : ∀ w, Calls Try.prog 83 #[.agg #[.int .i64 25, .int .i64 d, .int .i64 n, .int .i64 m, .int .i64 a, .int .i64 c, .int .i64 i]] w fun e w' => e = .returned (.int .i64 0) ∧ Below w.heap.size w w')
  simp only [ok_25, wi, Bool.and_eq_true, decide_eq_true_eq, beq_iff_eq] at hok
  obtain ⟨h1, h2⟩ : (0 ≤ d ∧ d ≤ 31) ∧ (0 ≤ n ∧ n ≤ 31) := by omega
  obtain ⟨h3, h4⟩ : (0 ≤ m ∧ m ≤ 31) ∧ (0 ≤ a ∧ a ≤ 31) := by omega
  have h5 : 0 ≤ c ∧ c ≤ 15 := by omega
  obtain ⟨h1, h1'⟩ := h1
  obtain ⟨h2, h2'⟩ := h2
  obtain ⟨h3, h3'⟩ := h3
  obtain ⟨h4, h4'⟩ := h4
  obtain ⟨h5, h5'⟩ := h5
  have HOK := Lib.hid hok
  clear hok
  go_enter Try.func119, Try.ntmps119
  go_wp2_with fail
  refine (HCK.out _).mono ?_
  rintro e w1 ⟨rfl, hb⟩
  have HI1 := Lib.hid ((InsC.new w (.int .i64 25) (.int .i64 d) (.int .i64 n) (.int .i64 m) (.int .i64 a) (.int .i64 c) (.int .i64 i)).below' hb rfl)
  have HB1 : Hid (Below w.heap.size w w1) := Lib.hid (((Below.refl _ _).alloc (Nat.le_refl _) _).trans (hb.mono (by simp)))
  obtain ⟨hl, i0, i1, i2, i3, i4, i5, i6⟩ := HI1.out
  clear hb
  go_wp2_with fail
  refine (rbase_25 _).mono ?_
  rintro e w2 ⟨rfl, hb⟩
  have HI2 := Lib.hid (HI1.out.below' hb rfl)
  have HB2 := Lib.hid (HB1.out.trans (hb.mono HB1.out.size))
  clear hb hl i0 i1 i2 i3 i4 i5 i6 HI1 HB1
  obtain ⟨hl, i0, i1, i2, i3, i4, i5, i6⟩ := HI2.out
  go_wp2
  go_ret2
  refine ⟨?_, HB2.out⟩
  rw [or_5_5 3592355840 n (by decide : (0 : Int) ≤ 3592355840 ∧ (3592355840 : Int) < 4294967296) (by omega) (by have := HOK.out; omega) (by decide)]
  rfl
set_option maxRecDepth 100000 in
set_option maxHeartbeats 4000000 in
theorem rbase_29 (w : World) : Calls Try.prog 181 #[.int .i64 29] w fun e w' => e = .returned (.int .u32 4177526784) ∧ Below w.heap.size w w' := by
  go_enter Try.func181, Try.ntmps181
  go_wp2
  go_ret
  exact ⟨rfl, (Below.refl _ _).alloc (Nat.le_refl _) _⟩
set_option maxRecDepth 100000 in
set_option maxHeartbeats 4000000 in
theorem rword_29 (d n m a c i : Int) (w : World) (hok : ok_29 d n m a c i = true) : Calls Try.prog 119 #[.agg #[.int .i64 29, .int .i64 d, .int .i64 n, .int .i64 m, .int .i64 a, .int .i64 c, .int .i64 i]] w fun e w' => e = .returned (.tuple #[.int .u32 (putS (putS (putS 4177526784 10 12 (i / 8)) 5 5 n) 0 5 d), .int .i64 0]) ∧ Below w.heap.size w w' := by
  have HCK := Lib.hid (fun w => (by have := rcheck_29 d n m a c i w; rw [hok] at this; exact this) : ∀ w, Calls Try.prog 83 #[.agg #[.int .i64 29, .int .i64 d, .int .i64 n, .int .i64 m, .int .i64 a, .int .i64 c, .int .i64 i]] w fun e w' => e = .returned (.int .i64 0) ∧ Below w.heap.size w w')
  simp only [ok_29, wi, wm, Bool.and_eq_true, decide_eq_true_eq, beq_iff_eq] at hok
  obtain ⟨h1, h2⟩ : (0 ≤ d ∧ d ≤ 31) ∧ (0 ≤ n ∧ n ≤ 31) := by omega
  obtain ⟨h3, h4⟩ : (0 ≤ m ∧ m ≤ 31) ∧ (0 ≤ a ∧ a ≤ 31) := by omega
  have h5 : 0 ≤ c ∧ c ≤ 15 := by omega
  obtain ⟨h1, h1'⟩ := h1
  obtain ⟨h2, h2'⟩ := h2
  obtain ⟨h3, h3'⟩ := h3
  obtain ⟨h4, h4'⟩ := h4
  obtain ⟨h5, h5'⟩ := h5
  have HOK := Lib.hid hok
  clear hok
  go_enter Try.func119, Try.ntmps119
  go_wp2_with fail
  refine (HCK.out _).mono ?_
  rintro e w1 ⟨rfl, hb⟩
  have HI1 := Lib.hid ((InsC.new w (.int .i64 29) (.int .i64 d) (.int .i64 n) (.int .i64 m) (.int .i64 a) (.int .i64 c) (.int .i64 i)).below' hb rfl)
  have HB1 : Hid (Below w.heap.size w w1) := Lib.hid (((Below.refl _ _).alloc (Nat.le_refl _) _).trans (hb.mono (by simp)))
  obtain ⟨hl, i0, i1, i2, i3, i4, i5, i6⟩ := HI1.out
  clear hb
  go_wp2_with fail
  refine (rbase_29 _).mono ?_
  rintro e w2 ⟨rfl, hb⟩
  have HI2 := Lib.hid (HI1.out.below' hb rfl)
  have HB2 := Lib.hid (HB1.out.trans (hb.mono HB1.out.size))
  clear hb hl i0 i1 i2 i3 i4 i5 i6 HI1 HB1
  obtain ⟨hl, i0, i1, i2, i3, i4, i5, i6⟩ := HI2.out
  have hi : 0 ≤ i ∧ i ≤ 32760 := by have := HOK.out; omega
  obtain ⟨hi0, hi1⟩ := hi
  go_wp2
  go_ret2
  refine ⟨?_, HB2.out⟩
  rw [or_10_12 4177526784 (i / 8) (by decide : (0 : Int) ≤ 4177526784 ∧ (4177526784 : Int) < 4294967296) (by omega) (by have := HOK.out; omega) (by decide), or_5_5 (putS 4177526784 10 12 (i / 8)) n (putS_lt 4177526784 10 12 (i / 8) (by decide : (0 : Int) ≤ 4177526784 ∧ (4177526784 : Int) < 4294967296).1 (by decide : (0 : Int) ≤ 4177526784 ∧ (4177526784 : Int) < 4294967296).2) (by omega) (by have := HOK.out; omega) (zput 4177526784 (i / 8) 10 12 5 5 (by decide : (0 : Int) ≤ 4177526784 ∧ (4177526784 : Int) < 4294967296) (by decide) (by decide) (by decide) (by decide)), or_0_5 (putS (putS 4177526784 10 12 (i / 8)) 5 5 n) d (putS_lt (putS 4177526784 10 12 (i / 8)) 5 5 n (putS_lt 4177526784 10 12 (i / 8) (by decide : (0 : Int) ≤ 4177526784 ∧ (4177526784 : Int) < 4294967296).1 (by decide : (0 : Int) ≤ 4177526784 ∧ (4177526784 : Int) < 4294967296).2).1 (putS_lt 4177526784 10 12 (i / 8) (by decide : (0 : Int) ≤ 4177526784 ∧ (4177526784 : Int) < 4294967296).1 (by decide : (0 : Int) ≤ 4177526784 ∧ (4177526784 : Int) < 4294967296).2).2) (by omega) (by have := HOK.out; omega) (zput (putS 4177526784 10 12 (i / 8)) n 5 5 0 5 (putS_lt 4177526784 10 12 (i / 8) (by decide : (0 : Int) ≤ 4177526784 ∧ (4177526784 : Int) < 4294967296).1 (by decide : (0 : Int) ≤ 4177526784 ∧ (4177526784 : Int) < 4294967296).2) (by decide) (by decide) (by decide) (zput 4177526784 (i / 8) 10 12 0 5 (by decide : (0 : Int) ≤ 4177526784 ∧ (4177526784 : Int) < 4294967296) (by decide) (by decide) (by decide) (by decide)))]
  rfl
set_option maxRecDepth 100000 in
set_option maxHeartbeats 4000000 in
theorem rbase_33 (w : World) : Calls Try.prog 181 #[.int .i64 33] w fun e w' => e = .returned (.int .u32 3370122240) ∧ Below w.heap.size w w' := by
  go_enter Try.func181, Try.ntmps181
  go_wp2
  go_ret
  exact ⟨rfl, (Below.refl _ _).alloc (Nat.le_refl _) _⟩
set_option maxRecDepth 100000 in
set_option maxHeartbeats 4000000 in
theorem rword_33 (d n m a c i : Int) (w : World) (hok : ok_33 d n m a c i = true) : Calls Try.prog 119 #[.agg #[.int .i64 33, .int .i64 d, .int .i64 n, .int .i64 m, .int .i64 a, .int .i64 c, .int .i64 i]] w fun e w' => e = .returned (.tuple #[.int .u32 (putS (putS 3370122240 5 5 n) 0 5 d), .int .i64 0]) ∧ Below w.heap.size w w' := by
  have HCK := Lib.hid (fun w => (by have := rcheck_33 d n m a c i w; rw [hok] at this; exact this) : ∀ w, Calls Try.prog 83 #[.agg #[.int .i64 33, .int .i64 d, .int .i64 n, .int .i64 m, .int .i64 a, .int .i64 c, .int .i64 i]] w fun e w' => e = .returned (.int .i64 0) ∧ Below w.heap.size w w')
  simp only [ok_33, wi, Bool.and_eq_true, decide_eq_true_eq, beq_iff_eq] at hok
  obtain ⟨h1, h2⟩ : (0 ≤ d ∧ d ≤ 31) ∧ (0 ≤ n ∧ n ≤ 31) := by omega
  obtain ⟨h3, h4⟩ : (0 ≤ m ∧ m ≤ 31) ∧ (0 ≤ a ∧ a ≤ 31) := by omega
  have h5 : 0 ≤ c ∧ c ≤ 15 := by omega
  obtain ⟨h1, h1'⟩ := h1
  obtain ⟨h2, h2'⟩ := h2
  obtain ⟨h3, h3'⟩ := h3
  obtain ⟨h4, h4'⟩ := h4
  obtain ⟨h5, h5'⟩ := h5
  have HOK := Lib.hid hok
  clear hok
  go_enter Try.func119, Try.ntmps119
  go_wp2_with fail
  refine (HCK.out _).mono ?_
  rintro e w1 ⟨rfl, hb⟩
  have HI1 := Lib.hid ((InsC.new w (.int .i64 33) (.int .i64 d) (.int .i64 n) (.int .i64 m) (.int .i64 a) (.int .i64 c) (.int .i64 i)).below' hb rfl)
  have HB1 : Hid (Below w.heap.size w w1) := Lib.hid (((Below.refl _ _).alloc (Nat.le_refl _) _).trans (hb.mono (by simp)))
  obtain ⟨hl, i0, i1, i2, i3, i4, i5, i6⟩ := HI1.out
  clear hb
  go_wp2_with fail
  refine (rbase_33 _).mono ?_
  rintro e w2 ⟨rfl, hb⟩
  have HI2 := Lib.hid (HI1.out.below' hb rfl)
  have HB2 := Lib.hid (HB1.out.trans (hb.mono HB1.out.size))
  clear hb hl i0 i1 i2 i3 i4 i5 i6 HI1 HB1
  obtain ⟨hl, i0, i1, i2, i3, i4, i5, i6⟩ := HI2.out
  go_wp2
  go_ret2
  refine ⟨?_, HB2.out⟩
  rw [or_5_5 3370122240 n (by decide : (0 : Int) ≤ 3370122240 ∧ (3370122240 : Int) < 4294967296) (by omega) (by have := HOK.out; omega) (by decide), or_0_5 (putS 3370122240 5 5 n) d (putS_lt 3370122240 5 5 n (by decide : (0 : Int) ≤ 3370122240 ∧ (3370122240 : Int) < 4294967296).1 (by decide : (0 : Int) ≤ 3370122240 ∧ (3370122240 : Int) < 4294967296).2) (by omega) (by have := HOK.out; omega) (zput 3370122240 n 5 5 0 5 (by decide : (0 : Int) ≤ 3370122240 ∧ (3370122240 : Int) < 4294967296) (by decide) (by decide) (by decide) (by decide))]
  rfl
set_option maxRecDepth 100000 in
set_option maxHeartbeats 4000000 in
theorem rbase_37 (w : World) : Calls Try.prog 181 #[.int .i64 37] w fun e w' => e = .returned (.int .u32 3573758911) ∧ Below w.heap.size w w' := by
  go_enter Try.func181, Try.ntmps181
  go_wp2
  go_ret
  exact ⟨rfl, (Below.refl _ _).alloc (Nat.le_refl _) _⟩
set_option maxRecDepth 100000 in
set_option maxHeartbeats 4000000 in
theorem rword_37 (d n m a c i : Int) (w : World) (hok : ok_37 d n m a c i = true) : Calls Try.prog 119 #[.agg #[.int .i64 37, .int .i64 d, .int .i64 n, .int .i64 m, .int .i64 a, .int .i64 c, .int .i64 i]] w fun e w' => e = .returned (.tuple #[.int .u32 (barS 3573758911 i), .int .i64 0]) ∧ Below w.heap.size w w' := by
  have HCK := Lib.hid (fun w => (by have := rcheck_37 d n m a c i w; rw [hok] at this; exact this) : ∀ w, Calls Try.prog 83 #[.agg #[.int .i64 37, .int .i64 d, .int .i64 n, .int .i64 m, .int .i64 a, .int .i64 c, .int .i64 i]] w fun e w' => e = .returned (.int .i64 0) ∧ Below w.heap.size w w')
  simp only [ok_37, wi, Bool.and_eq_true, decide_eq_true_eq, beq_iff_eq] at hok
  obtain ⟨h1, h2⟩ : (0 ≤ d ∧ d ≤ 31) ∧ (0 ≤ n ∧ n ≤ 31) := by omega
  obtain ⟨h3, h4⟩ : (0 ≤ m ∧ m ≤ 31) ∧ (0 ≤ a ∧ a ≤ 31) := by omega
  have h5 : 0 ≤ c ∧ c ≤ 15 := by omega
  obtain ⟨h1, h1'⟩ := h1
  obtain ⟨h2, h2'⟩ := h2
  obtain ⟨h3, h3'⟩ := h3
  obtain ⟨h4, h4'⟩ := h4
  obtain ⟨h5, h5'⟩ := h5
  have HOK := Lib.hid hok
  clear hok
  go_enter Try.func119, Try.ntmps119
  go_wp2_with fail
  refine (HCK.out _).mono ?_
  rintro e w1 ⟨rfl, hb⟩
  have HI1 := Lib.hid ((InsC.new w (.int .i64 37) (.int .i64 d) (.int .i64 n) (.int .i64 m) (.int .i64 a) (.int .i64 c) (.int .i64 i)).below' hb rfl)
  have HB1 : Hid (Below w.heap.size w w1) := Lib.hid (((Below.refl _ _).alloc (Nat.le_refl _) _).trans (hb.mono (by simp)))
  obtain ⟨hl, i0, i1, i2, i3, i4, i5, i6⟩ := HI1.out
  clear hb
  go_wp2_with fail
  refine (rbase_37 _).mono ?_
  rintro e w2 ⟨rfl, hb⟩
  have HI2 := Lib.hid (HI1.out.below' hb rfl)
  have HB2 := Lib.hid (HB1.out.trans (hb.mono HB1.out.size))
  clear hb hl i0 i1 i2 i3 i4 i5 i6 HI1 HB1
  obtain ⟨hl, i0, i1, i2, i3, i4, i5, i6⟩ := HI2.out
  have h3 : i = 0 ∨ i = 1 ∨ i = 2 := by have := HOK.out; omega
  rcases h3 with rfl | rfl | rfl
  · go_wp2
    go_ret2
    refine ⟨?_, (HB2.out.alloc HB2.out.size _)⟩
    rw [show barS 3573758911 0 = 3573758911 from by decide]
    rfl
  · go_wp2
    go_ret2
    refine ⟨?_, (HB2.out.alloc HB2.out.size _)⟩
    rw [show barS 3573758911 1 = 3573758399 from by decide]
    rfl
  · go_wp2
    go_ret2
    refine ⟨?_, (HB2.out.alloc HB2.out.size _)⟩
    rw [show barS 3573758911 2 = 3573758655 from by decide]
    rfl
set_option maxRecDepth 100000 in
set_option maxHeartbeats 4000000 in
theorem rbase_41 (w : World) : Calls Try.prog 181 #[.int .i64 41] w fun e w' => e = .returned (.int .u32 3574297888) ∧ Below w.heap.size w w' := by
  go_enter Try.func181, Try.ntmps181
  go_wp2
  go_ret
  exact ⟨rfl, (Below.refl _ _).alloc (Nat.le_refl _) _⟩
set_option maxRecDepth 100000 in
set_option maxHeartbeats 4000000 in
theorem rword_41 (d n m a c i : Int) (w : World) (hok : ok_41 d n m a c i = true) : Calls Try.prog 119 #[.agg #[.int .i64 41, .int .i64 d, .int .i64 n, .int .i64 m, .int .i64 a, .int .i64 c, .int .i64 i]] w fun e w' => e = .returned (.tuple #[.int .u32 (putS 3574297888 0 5 n), .int .i64 0]) ∧ Below w.heap.size w w' := by
  have HCK := Lib.hid (fun w => (by have := rcheck_41 d n m a c i w; rw [hok] at this; exact this) : ∀ w, Calls Try.prog 83 #[.agg #[.int .i64 41, .int .i64 d, .int .i64 n, .int .i64 m, .int .i64 a, .int .i64 c, .int .i64 i]] w fun e w' => e = .returned (.int .i64 0) ∧ Below w.heap.size w w')
  simp only [ok_41, wi, Bool.and_eq_true, decide_eq_true_eq, beq_iff_eq] at hok
  obtain ⟨h1, h2⟩ : (0 ≤ d ∧ d ≤ 31) ∧ (0 ≤ n ∧ n ≤ 31) := by omega
  obtain ⟨h3, h4⟩ : (0 ≤ m ∧ m ≤ 31) ∧ (0 ≤ a ∧ a ≤ 31) := by omega
  have h5 : 0 ≤ c ∧ c ≤ 15 := by omega
  obtain ⟨h1, h1'⟩ := h1
  obtain ⟨h2, h2'⟩ := h2
  obtain ⟨h3, h3'⟩ := h3
  obtain ⟨h4, h4'⟩ := h4
  obtain ⟨h5, h5'⟩ := h5
  have HOK := Lib.hid hok
  clear hok
  go_enter Try.func119, Try.ntmps119
  go_wp2_with fail
  refine (HCK.out _).mono ?_
  rintro e w1 ⟨rfl, hb⟩
  have HI1 := Lib.hid ((InsC.new w (.int .i64 41) (.int .i64 d) (.int .i64 n) (.int .i64 m) (.int .i64 a) (.int .i64 c) (.int .i64 i)).below' hb rfl)
  have HB1 : Hid (Below w.heap.size w w1) := Lib.hid (((Below.refl _ _).alloc (Nat.le_refl _) _).trans (hb.mono (by simp)))
  obtain ⟨hl, i0, i1, i2, i3, i4, i5, i6⟩ := HI1.out
  clear hb
  go_wp2_with fail
  refine (rbase_41 _).mono ?_
  rintro e w2 ⟨rfl, hb⟩
  have HI2 := Lib.hid (HI1.out.below' hb rfl)
  have HB2 := Lib.hid (HB1.out.trans (hb.mono HB1.out.size))
  clear hb hl i0 i1 i2 i3 i4 i5 i6 HI1 HB1
  obtain ⟨hl, i0, i1, i2, i3, i4, i5, i6⟩ := HI2.out
  go_wp2
  go_ret2
  refine ⟨?_, HB2.out⟩
  rw [or_0_5 3574297888 n (by decide : (0 : Int) ≤ 3574297888 ∧ (3574297888 : Int) < 4294967296) (by omega) (by have := HOK.out; omega) (by decide)]
  rfl
end Go.Proofs.Ytnbpgoacooddjaa.En
