import Derived.Test.YtnbpgoacooddjaaEWd
import Derived.Test.YtnbpgoacooddjaaERfB
import Derived.Test.YtnbpgoacooddjaaERfC
import Derived.Test.YtnbpgoacooddjaaERfD
import Derived.Test.YtnbpgoacooddjaaERfE
import Derived.Test.YtnbpgoacooddjaaEEm
namespace Go.Proofs.Ytnbpgoacooddjaa.Fr
end Go.Proofs.Ytnbpgoacooddjaa.Fr
namespace Go.Proofs.Ytnbpgoacooddjaa.En
open Go.Proofs.Ytnbpgoacooddjaa.Fr
open Go.ChangeShapes Go.WideShapes Go.ChangeAt Go.RowKit Go.Maps
set_option linter.unusedVariables false
set_option maxRecDepth 100000 in
set_option maxHeartbeats 4000000 in
theorem rbase_3 (w : World) : Calls Try.prog 181 #[.int .i64 3] w fun e w' => e = .returned (.int .u32 4068474880) ∧ Below w.heap.size w w' := by
  go_enter Try.func181, Try.ntmps181
  go_wp2
  go_ret
  exact ⟨rfl, (Below.refl _ _).alloc (Nat.le_refl _) _⟩
set_option maxRecDepth 100000 in
set_option maxHeartbeats 4000000 in
theorem rword_3 (d n m a c i : Int) (w : World) (hok : ok_3 d n m a c i = true) : Calls Try.prog 119 #[.agg #[.int .i64 3, .int .i64 d, .int .i64 n, .int .i64 m, .int .i64 a, .int .i64 c, .int .i64 i]] w fun e w' => e = .returned (.tuple #[.int .u32 (putS (putS (putS 4068474880 21 2 m) 5 16 i) 0 5 d), .int .i64 0]) ∧ Below w.heap.size w w' := by
  have HCK := Lib.hid (fun w => (by have := rcheck_3 d n m a c i w; rw [hok] at this; exact this) : ∀ w, Calls Try.prog 83 #[.agg #[.int .i64 3, .int .i64 d, .int .i64 n, .int .i64 m, .int .i64 a, .int .i64 c, .int .i64 i]] w fun e w' => e = .returned (.int .i64 0) ∧ Below w.heap.size w w')
  simp only [ok_3, wi, Bool.and_eq_true, decide_eq_true_eq, beq_iff_eq] at hok
  obtain ⟨h1, h2⟩ : (0 ≤ d ∧ d ≤ 31) ∧ (0 ≤ n ∧ n ≤ 31) := by omega
  obtain ⟨h3, h4⟩ : (0 ≤ m ∧ m ≤ 31) ∧ (0 ≤ a ∧ a ≤ 31) := by omega
  have h5 : 0 ≤ c ∧ c ≤ 15 := by omega
  obtain ⟨h1, h1'⟩ := h1
  obtain ⟨h2, h2'⟩ := h2
  obtain ⟨h3, h3'⟩ := h3
  obtain ⟨h4, h4'⟩ := h4
  obtain ⟨h5, h5'⟩ := h5
  have HOK := Lib.hid hok
  clear hok
  go_enter Try.func119, Try.ntmps119
  go_wp2_with fail
  refine (HCK.out _).mono ?_
  rintro e w1 ⟨rfl, hb⟩
  have HI1 := Lib.hid ((InsC.new w (.int .i64 3) (.int .i64 d) (.int .i64 n) (.int .i64 m) (.int .i64 a) (.int .i64 c) (.int .i64 i)).below' hb rfl)
  have HB1 : Hid (Below w.heap.size w w1) := Lib.hid (((Below.refl _ _).alloc (Nat.le_refl _) _).trans (hb.mono (by simp)))
  obtain ⟨hl, i0, i1, i2, i3, i4, i5, i6⟩ := HI1.out
  clear hb
  go_wp2_with fail
  refine (rbase_3 _).mono ?_
  rintro e w2 ⟨rfl, hb⟩
  have HI2 := Lib.hid (HI1.out.below' hb rfl)
  have HB2 := Lib.hid (HB1.out.trans (hb.mono HB1.out.size))
  clear hb hl i0 i1 i2 i3 i4 i5 i6 HI1 HB1
  obtain ⟨hl, i0, i1, i2, i3, i4, i5, i6⟩ := HI2.out
  have hi : 0 ≤ i ∧ i ≤ 65535 := by have := HOK.out; omega
  obtain ⟨hi0, hi1⟩ := hi
  go_wp2
  go_ret2
  refine ⟨?_, HB2.out⟩
  rw [or_21_2 4068474880 m (by decide : (0 : Int) ≤ 4068474880 ∧ (4068474880 : Int) < 4294967296) (by omega) (by have := HOK.out; omega) (by decide), or_5_16 (putS 4068474880 21 2 m) i (putS_lt 4068474880 21 2 m (by decide : (0 : Int) ≤ 4068474880 ∧ (4068474880 : Int) < 4294967296).1 (by decide : (0 : Int) ≤ 4068474880 ∧ (4068474880 : Int) < 4294967296).2) (by omega) (by have := HOK.out; omega) (zput 4068474880 m 21 2 5 16 (by decide : (0 : Int) ≤ 4068474880 ∧ (4068474880 : Int) < 4294967296) (by decide) (by decide) (by decide) (by decide)), or_0_5 (putS (putS 4068474880 21 2 m) 5 16 i) d (putS_lt (putS 4068474880 21 2 m) 5 16 i (putS_lt 4068474880 21 2 m (by decide : (0 : Int) ≤ 4068474880 ∧ (4068474880 : Int) < 4294967296).1 (by decide : (0 : Int) ≤ 4068474880 ∧ (4068474880 : Int) < 4294967296).2).1 (putS_lt 4068474880 21 2 m (by decide : (0 : Int) ≤ 4068474880 ∧ (4068474880 : Int) < 4294967296).1 (by decide : (0 : Int) ≤ 4068474880 ∧ (4068474880 : Int) < 4294967296).2).2) (by omega) (by have := HOK.out; omega) (zput (putS 4068474880 21 2 m) i 5 16 0 5 (putS_lt 4068474880 21 2 m (by decide : (0 : Int) ≤ 4068474880 ∧ (4068474880 : Int) < 4294967296).1 (by decide : (0 : Int) ≤ 4068474880 ∧ (4068474880 : Int) < 4294967296).2) (by decide) (by decide) (by decide) (zput 4068474880 m 21 2 0 5 (by decide : (0 : Int) ≤ 4068474880 ∧ (4068474880 : Int) < 4294967296) (by decide) (by decide) (by decide) (by decide)))]
  rfl
set_option maxRecDepth 100000 in
set_option maxHeartbeats 4000000 in
theorem rbase_7 (w : World) : Calls Try.prog 181 #[.int .i64 7] w fun e w' => e = .returned (.int .u32 2332033024) ∧ Below w.heap.size w w' := by
  go_enter Try.func181, Try.ntmps181
  go_wp2
  go_ret
  exact ⟨rfl, (Below.refl _ _).alloc (Nat.le_refl _) _⟩
set_option maxRecDepth 100000 in
set_option maxHeartbeats 4000000 in
theorem rword_7 (d n m a c i : Int) (w : World) (hok : ok_7 d n m a c i = true) : Calls Try.prog 119 #[.agg #[.int .i64 7, .int .i64 d, .int .i64 n, .int .i64 m, .int .i64 a, .int .i64 c, .int .i64 i]] w fun e w' => e = .returned (.tuple #[.int .u32 (putS (putS (putS 2332033024 16 5 m) 5 5 n) 0 5 d), .int .i64 0]) ∧ Below w.heap.size w w' := by
  have HCK := Lib.hid (fun w => (by have := rcheck_7 d n m a c i w; rw [hok] at this; exact this) : ∀ w, Calls Try.prog 83 #[.agg #[.int .i64 7, .int .i64 d, .int .i64 n, .int .i64 m, .int .i64 a, .int .i64 c, .int .i64 i]] w fun e w' => e = .returned (.int .i64 0) ∧ Below w.heap.size w w')
  simp only [ok_7, wi, Bool.and_eq_true, decide_eq_true_eq, beq_iff_eq] at hok
  obtain ⟨h1, h2⟩ : (0 ≤ d ∧ d ≤ 31) ∧ (0 ≤ n ∧ n ≤ 31) := by omega
  obtain ⟨h3, h4⟩ : (0 ≤ m ∧ m ≤ 31) ∧ (0 ≤ a ∧ a ≤ 31) := by omega
  have h5 : 0 ≤ c ∧ c ≤ 15 := by omega
  obtain ⟨h1, h1'⟩ := h1
  obtain ⟨h2, h2'⟩ := h2
  obtain ⟨h3, h3'⟩ := h3
  obtain ⟨h4, h4'⟩ := h4
  obtain ⟨h5, h5'⟩ := h5
  have HOK := Lib.hid hok
  clear hok
  go_enter Try.func119, Try.ntmps119
  go_wp2_with fail
  refine (HCK.out _).mono ?_
  rintro e w1 ⟨rfl, hb⟩
  have HI1 := Lib.hid ((InsC.new w (.int .i64 7) (.int .i64 d) (.int .i64 n) (.int .i64 m) (.int .i64 a) (.int .i64 c) (.int .i64 i)).below' hb rfl)
  have HB1 : Hid (Below w.heap.size w w1) := Lib.hid (((Below.refl _ _).alloc (Nat.le_refl _) _).trans (hb.mono (by simp)))
  obtain ⟨hl, i0, i1, i2, i3, i4, i5, i6⟩ := HI1.out
  clear hb
  go_wp2_with fail
  refine (rbase_7 _).mono ?_
  rintro e w2 ⟨rfl, hb⟩
  have HI2 := Lib.hid (HI1.out.below' hb rfl)
  have HB2 := Lib.hid (HB1.out.trans (hb.mono HB1.out.size))
  clear hb hl i0 i1 i2 i3 i4 i5 i6 HI1 HB1
  obtain ⟨hl, i0, i1, i2, i3, i4, i5, i6⟩ := HI2.out
  go_wp2
  go_ret2
  refine ⟨?_, HB2.out⟩
  rw [or_16_5 2332033024 m (by decide : (0 : Int) ≤ 2332033024 ∧ (2332033024 : Int) < 4294967296) (by omega) (by have := HOK.out; omega) (by decide), or_5_5 (putS 2332033024 16 5 m) n (putS_lt 2332033024 16 5 m (by decide : (0 : Int) ≤ 2332033024 ∧ (2332033024 : Int) < 4294967296).1 (by decide : (0 : Int) ≤ 2332033024 ∧ (2332033024 : Int) < 4294967296).2) (by omega) (by have := HOK.out; omega) (zput 2332033024 m 16 5 5 5 (by decide : (0 : Int) ≤ 2332033024 ∧ (2332033024 : Int) < 4294967296) (by decide) (by decide) (by decide) (by decide)), or_0_5 (putS (putS 2332033024 16 5 m) 5 5 n) d (putS_lt (putS 2332033024 16 5 m) 5 5 n (putS_lt 2332033024 16 5 m (by decide : (0 : Int) ≤ 2332033024 ∧ (2332033024 : Int) < 4294967296).1 (by decide : (0 : Int) ≤ 2332033024 ∧ (2332033024 : Int) < 4294967296).2).1 (putS_lt 2332033024 16 5 m (by decide : (0 : Int) ≤ 2332033024 ∧ (2332033024 : Int) < 4294967296).1 (by decide : (0 : Int) ≤ 2332033024 ∧ (2332033024 : Int) < 4294967296).2).2) (by omega) (by have := HOK.out; omega) (zput (putS 2332033024 16 5 m) n 5 5 0 5 (putS_lt 2332033024 16 5 m (by decide : (0 : Int) ≤ 2332033024 ∧ (2332033024 : Int) < 4294967296).1 (by decide : (0 : Int) ≤ 2332033024 ∧ (2332033024 : Int) < 4294967296).2) (by decide) (by decide) (by decide) (zput 2332033024 m 16 5 0 5 (by decide : (0 : Int) ≤ 2332033024 ∧ (2332033024 : Int) < 4294967296) (by decide) (by decide) (by decide) (by decide)))]
  rfl
set_option maxRecDepth 100000 in
set_option maxHeartbeats 4000000 in
theorem rbase_11 (w : World) : Calls Try.prog 181 #[.int .i64 11] w fun e w' => e = .returned (.int .u32 2852126720) ∧ Below w.heap.size w w' := by
  go_enter Try.func181, Try.ntmps181
  go_wp2
  go_ret
  exact ⟨rfl, (Below.refl _ _).alloc (Nat.le_refl _) _⟩
set_option maxRecDepth 100000 in
set_option maxHeartbeats 4000000 in
theorem rword_11 (d n m a c i : Int) (w : World) (hok : ok_11 d n m a c i = true) : Calls Try.prog 119 #[.agg #[.int .i64 11, .int .i64 d, .int .i64 n, .int .i64 m, .int .i64 a, .int .i64 c, .int .i64 i]] w fun e w' => e = .returned (.tuple #[.int .u32 (putS (putS (putS 2852126720 16 5 m) 5 5 n) 0 5 d), .int .i64 0]) ∧ Below w.heap.size w w' := by
  have HCK := Lib.hid (fun w => (by have := rcheck_11 d n m a c i w; rw [hok] at this; exact this) : ∀ w, Calls Try.prog 83 #[.agg #[.int .i64 11, .int .i64 d, .int .i64 n, .int .i64 m, .int .i64 a, .int .i64 c, .int .i64 i]] w fun e w' => e = .returned (.int .i64 0) ∧ Below w.heap.size w w')
  simp only [ok_11, wi, Bool.and_eq_true, decide_eq_true_eq, beq_iff_eq] at hok
  obtain ⟨h1, h2⟩ : (0 ≤ d ∧ d ≤ 31) ∧ (0 ≤ n ∧ n ≤ 31) := by omega
  obtain ⟨h3, h4⟩ : (0 ≤ m ∧ m ≤ 31) ∧ (0 ≤ a ∧ a ≤ 31) := by omega
  have h5 : 0 ≤ c ∧ c ≤ 15 := by omega
  obtain ⟨h1, h1'⟩ := h1
  obtain ⟨h2, h2'⟩ := h2
  obtain ⟨h3, h3'⟩ := h3
  obtain ⟨h4, h4'⟩ := h4
  obtain ⟨h5, h5'⟩ := h5
  have HOK := Lib.hid hok
  clear hok
  go_enter Try.func119, Try.ntmps119
  go_wp2_with fail
  refine (HCK.out _).mono ?_
  rintro e w1 ⟨rfl, hb⟩
  have HI1 := Lib.hid ((InsC.new w (.int .i64 11) (.int .i64 d) (.int .i64 n) (.int .i64 m) (.int .i64 a) (.int .i64 c) (.int .i64 i)).below' hb rfl)
  have HB1 : Hid (Below w.heap.size w w1) := Lib.hid (((Below.refl _ _).alloc (Nat.le_refl _) _).trans (hb.mono (by simp)))
  obtain ⟨hl, i0, i1, i2, i3, i4, i5, i6⟩ := HI1.out
  clear hb
  go_wp2_with fail
  refine (rbase_11 _).mono ?_
  rintro e w2 ⟨rfl, hb⟩
  have HI2 := Lib.hid (HI1.out.below' hb rfl)
  have HB2 := Lib.hid (HB1.out.trans (hb.mono HB1.out.size))
  clear hb hl i0 i1 i2 i3 i4 i5 i6 HI1 HB1
  obtain ⟨hl, i0, i1, i2, i3, i4, i5, i6⟩ := HI2.out
  go_wp2
  go_ret2
  refine ⟨?_, HB2.out⟩
  rw [or_16_5 2852126720 m (by decide : (0 : Int) ≤ 2852126720 ∧ (2852126720 : Int) < 4294967296) (by omega) (by have := HOK.out; omega) (by decide), or_5_5 (putS 2852126720 16 5 m) n (putS_lt 2852126720 16 5 m (by decide : (0 : Int) ≤ 2852126720 ∧ (2852126720 : Int) < 4294967296).1 (by decide : (0 : Int) ≤ 2852126720 ∧ (2852126720 : Int) < 4294967296).2) (by omega) (by have := HOK.out; omega) (zput 2852126720 m 16 5 5 5 (by decide : (0 : Int) ≤ 2852126720 ∧ (2852126720 : Int) < 4294967296) (by decide) (by decide) (by decide) (by decide)), or_0_5 (putS (putS 2852126720 16 5 m) 5 5 n) d (putS_lt (putS 2852126720 16 5 m) 5 5 n (putS_lt 2852126720 16 5 m (by decide : (0 : Int) ≤ 2852126720 ∧ (2852126720 : Int) < 4294967296).1 (by decide : (0 : Int) ≤ 2852126720 ∧ (2852126720 : Int) < 4294967296).2).1 (putS_lt 2852126720 16 5 m (by decide : (0 : Int) ≤ 2852126720 ∧ (2852126720 : Int) < 4294967296).1 (by decide : (0 : Int) ≤ 2852126720 ∧ (2852126720 : Int) < 4294967296).2).2) (by omega) (by have := HOK.out; omega) (zput (putS 2852126720 16 5 m) n 5 5 0 5 (putS_lt 2852126720 16 5 m (by decide : (0 : Int) ≤ 2852126720 ∧ (2852126720 : Int) < 4294967296).1 (by decide : (0 : Int) ≤ 2852126720 ∧ (2852126720 : Int) < 4294967296).2) (by decide) (by decide) (by decide) (zput 2852126720 m 16 5 0 5 (by decide : (0 : Int) ≤ 2852126720 ∧ (2852126720 : Int) < 4294967296) (by decide) (by decide) (by decide) (by decide)))]
  rfl
set_option maxRecDepth 100000 in
set_option maxHeartbeats 4000000 in
theorem rbase_15 (w : World) : Calls Try.prog 181 #[.int .i64 15] w fun e w' => e = .returned (.int .u32 2596277248) ∧ Below w.heap.size w w' := by
  go_enter Try.func181, Try.ntmps181
  go_wp2
  go_ret
  exact ⟨rfl, (Below.refl _ _).alloc (Nat.le_refl _) _⟩
set_option maxRecDepth 100000 in
set_option maxHeartbeats 4000000 in
theorem rword_15 (d n m a c i : Int) (w : World) (hok : ok_15 d n m a c i = true) : Calls Try.prog 119 #[.agg #[.int .i64 15, .int .i64 d, .int .i64 n, .int .i64 m, .int .i64 a, .int .i64 c, .int .i64 i]] w fun e w' => e = .returned (.tuple #[.int .u32 (putS (putS (putS 2596277248 16 5 m) 5 5 n) 0 5 d), .int .i64 0]) ∧ Below w.heap.size w w' := by
  have HCK := Lib.hid (fun w => (by have := rcheck_15 d n m a c i w; rw [hok] at this; exact this) : ∀ w, Calls Try.prog 83 #[.agg #[.int .i64 15, .int .i64 d, .int .i64 n, .int .i64 m, .int .i64 a, .int .i64 c, .int .i64 i]] w fun e w' => e = .returned (.int .i64 0) ∧ Below w.heap.size w w')
  simp only [ok_15, wi, Bool.and_eq_true, decide_eq_true_eq, beq_iff_eq] at hok
  obtain ⟨h1, h2⟩ : (0 ≤ d ∧ d ≤ 31) ∧ (0 ≤ n ∧ n ≤ 31) := by omega
  obtain ⟨h3, h4⟩ : (0 ≤ m ∧ m ≤ 31) ∧ (0 ≤ a ∧ a ≤ 31) := by omega
  have h5 : 0 ≤ c ∧ c ≤ 15 := by omega
  obtain ⟨h1, h1'⟩ := h1
  obtain ⟨h2, h2'⟩ := h2
  obtain ⟨h3, h3'⟩ := h3
  obtain ⟨h4, h4'⟩ := h4
  obtain ⟨h5, h5'⟩ := h5
  have HOK := Lib.hid hok
  clear hok
  go_enter Try.func119, Try.ntmps119
  go_wp2_with fail
  refine (HCK.out _).mono ?_
  rintro e w1 ⟨rfl, hb⟩
  have HI1 := Lib.hid ((InsC.new w (.int .i64 15) (.int .i64 d) (.int .i64 n) (.int .i64 m) (.int .i64 a) (.int .i64 c) (.int .i64 i)).below' hb rfl)
  have HB1 : Hid (Below w.heap.size w w1) := Lib.hid (((Below.refl _ _).alloc (Nat.le_refl _) _).trans (hb.mono (by simp)))
  obtain ⟨hl, i0, i1, i2, i3, i4, i5, i6⟩ := HI1.out
  clear hb
  go_wp2_with fail
  refine (rbase_15 _).mono ?_
  rintro e w2 ⟨rfl, hb⟩
  have HI2 := Lib.hid (HI1.out.below' hb rfl)
  have HB2 := Lib.hid (HB1.out.trans (hb.mono HB1.out.size))
  clear hb hl i0 i1 i2 i3 i4 i5 i6 HI1 HB1
  obtain ⟨hl, i0, i1, i2, i3, i4, i5, i6⟩ := HI2.out
  go_wp2
  go_ret2
  refine ⟨?_, HB2.out⟩
  rw [or_16_5 2596277248 m (by decide : (0 : Int) ≤ 2596277248 ∧ (2596277248 : Int) < 4294967296) (by omega) (by have := HOK.out; omega) (by decide), or_5_5 (putS 2596277248 16 5 m) n (putS_lt 2596277248 16 5 m (by decide : (0 : Int) ≤ 2596277248 ∧ (2596277248 : Int) < 4294967296).1 (by decide : (0 : Int) ≤ 2596277248 ∧ (2596277248 : Int) < 4294967296).2) (by omega) (by have := HOK.out; omega) (zput 2596277248 m 16 5 5 5 (by decide : (0 : Int) ≤ 2596277248 ∧ (2596277248 : Int) < 4294967296) (by decide) (by decide) (by decide) (by decide)), or_0_5 (putS (putS 2596277248 16 5 m) 5 5 n) d (putS_lt (putS 2596277248 16 5 m) 5 5 n (putS_lt 2596277248 16 5 m (by decide : (0 : Int) ≤ 2596277248 ∧ (2596277248 : Int) < 4294967296).1 (by decide : (0 : Int) ≤ 2596277248 ∧ (2596277248 : Int) < 4294967296).2).1 (putS_lt 2596277248 16 5 m (by decide : (0 : Int) ≤ 2596277248 ∧ (2596277248 : Int) < 4294967296).1 (by decide : (0 : Int) ≤ 2596277248 ∧ (2596277248 : Int) < 4294967296).2).2) (by omega) (by have := HOK.out; omega) (zput (putS 2596277248 16 5 m) n 5 5 0 5 (putS_lt 2596277248 16 5 m (by decide : (0 : Int) ≤ 2596277248 ∧ (2596277248 : Int) < 4294967296).1 (by decide : (0 : Int) ≤ 2596277248 ∧ (2596277248 : Int) < 4294967296).2) (by decide) (by decide) (by decide) (zput 2596277248 m 16 5 0 5 (by decide : (0 : Int) ≤ 2596277248 ∧ (2596277248 : Int) < 4294967296) (by decide) (by decide) (by decide) (by decide)))]
  rfl
set_option maxRecDepth 100000 in
set_option maxHeartbeats 4000000 in
theorem rbase_19 (w : World) : Calls Try.prog 181 #[.int .i64 19] w fun e w' => e = .returned (.int .u32 2592080896) ∧ Below w.heap.size w w' := by
  go_enter Try.func181, Try.ntmps181
  go_wp2
  go_ret
  exact ⟨rfl, (Below.refl _ _).alloc (Nat.le_refl _) _⟩
set_option maxRecDepth 100000 in
set_option maxHeartbeats 4000000 in
theorem rword_19 (d n m a c i : Int) (w : World) (hok : ok_19 d n m a c i = true) : Calls Try.prog 119 #[.agg #[.int .i64 19, .int .i64 d, .int .i64 n, .int .i64 m, .int .i64 a, .int .i64 c, .int .i64 i]] w fun e w' => e = .returned (.tuple #[.int .u32 (putS (putS (putS (putS 2592080896 16 5 m) 12 4 c) 5 5 n) 0 5 d), .int .i64 0]) ∧ Below w.heap.size w w' := by
  have HCK := Lib.hid (fun w => (by have := rcheck_19 d n m a c i w; rw [hok] at this; exact this) : ∀ w, Calls Try.prog 83 #[.agg #[.int .i64 19, .int .i64 d, .int .i64 n, .int .i64 m, .int .i64 a, .int .i64 c, .int .i64 i]] w fun e w' => e = .returned (.int .i64 0) ∧ Below w.heap.size w w')
  simp only [ok_19, wi, Bool.and_eq_true, decide_eq_true_eq, beq_iff_eq] at hok
  obtain ⟨h1, h2⟩ : (0 ≤ d ∧ d ≤ 31) ∧ (0 ≤ n ∧ n ≤ 31) := by omega
  obtain ⟨h3, h4⟩ : (0 ≤ m ∧ m ≤ 31) ∧ (0 ≤ a ∧ a ≤ 31) := by omega
  have h5 : 0 ≤ c ∧ c ≤ 15 := by omega
  obtain ⟨h1, h1'⟩ := h1
  obtain ⟨h2, h2'⟩ := h2
  obtain ⟨h3, h3'⟩ := h3
  obtain ⟨h4, h4'⟩ := h4
  obtain ⟨h5, h5'⟩ := h5
  have HOK := Lib.hid hok
  clear hok
  go_enter Try.func119, Try.ntmps119
  go_wp2_with fail
  refine (HCK.out _).mono ?_
  rintro e w1 ⟨rfl, hb⟩
  have HI1 := Lib.hid ((InsC.new w (.int .i64 19) (.int .i64 d) (.int .i64 n) (.int .i64 m) (.int .i64 a) (.int .i64 c) (.int .i64 i)).below' hb rfl)
  have HB1 : Hid (Below w.heap.size w w1) := Lib.hid (((Below.refl _ _).alloc (Nat.le_refl _) _).trans (hb.mono (by simp)))
  obtain ⟨hl, i0, i1, i2, i3, i4, i5, i6⟩ := HI1.out
  clear hb
  go_wp2_with fail
  refine (rbase_19 _).mono ?_
  rintro e w2 ⟨rfl, hb⟩
  have HI2 := Lib.hid (HI1.out.below' hb rfl)
  have HB2 := Lib.hid (HB1.out.trans (hb.mono HB1.out.size))
  clear hb hl i0 i1 i2 i3 i4 i5 i6 HI1 HB1
  obtain ⟨hl, i0, i1, i2, i3, i4, i5, i6⟩ := HI2.out
  go_wp2
  go_ret2
  refine ⟨?_, HB2.out⟩
  rw [or_16_5 2592080896 m (by decide : (0 : Int) ≤ 2592080896 ∧ (2592080896 : Int) < 4294967296) (by omega) (by have := HOK.out; omega) (by decide), or_12_4 (putS 2592080896 16 5 m) c (putS_lt 2592080896 16 5 m (by decide : (0 : Int) ≤ 2592080896 ∧ (2592080896 : Int) < 4294967296).1 (by decide : (0 : Int) ≤ 2592080896 ∧ (2592080896 : Int) < 4294967296).2) (by omega) (by have := HOK.out; omega) (zput 2592080896 m 16 5 12 4 (by decide : (0 : Int) ≤ 2592080896 ∧ (2592080896 : Int) < 4294967296) (by decide) (by decide) (by decide) (by decide)), or_5_5 (putS (putS 2592080896 16 5 m) 12 4 c) n (putS_lt (putS 2592080896 16 5 m) 12 4 c (putS_lt 2592080896 16 5 m (by decide : (0 : Int) ≤ 2592080896 ∧ (2592080896 : Int) < 4294967296).1 (by decide : (0 : Int) ≤ 2592080896 ∧ (2592080896 : Int) < 4294967296).2).1 (putS_lt 2592080896 16 5 m (by decide : (0 : Int) ≤ 2592080896 ∧ (2592080896 : Int) < 4294967296).1 (by decide : (0 : Int) ≤ 2592080896 ∧ (2592080896 : Int) < 4294967296).2).2) (by omega) (by have := HOK.out; omega) (zput (putS 2592080896 16 5 m) c 12 4 5 5 (putS_lt 2592080896 16 5 m (by decide : (0 : Int) ≤ 2592080896 ∧ (2592080896 : Int) < 4294967296).1 (by decide : (0 : Int) ≤ 2592080896 ∧ (2592080896 : Int) < 4294967296).2) (by decide) (by decide) (by decide) (zput 2592080896 m 16 5 5 5 (by decide : (0 : Int) ≤ 2592080896 ∧ (2592080896 : Int) < 4294967296) (by decide) (by decide) (by decide) (by decide))), or_0_5 (putS (putS (putS 2592080896 16 5 m) 12 4 c) 5 5 n) d (putS_lt (putS (putS 2592080896 16 5 m) 12 4 c) 5 5 n (putS_lt (putS 2592080896 16 5 m) 12 4 c (putS_lt 2592080896 16 5 m (by decide : (0 : Int) ≤ 2592080896 ∧ (2592080896 : Int) < 4294967296).1 (by decide : (0 : Int) ≤ 2592080896 ∧ (2592080896 : Int) < 4294967296).2).1 (putS_lt 2592080896 16 5 m (by decide : (0 : Int) ≤ 2592080896 ∧ (2592080896 : Int) < 4294967296).1 (by decide : (0 : Int) ≤ 2592080896 ∧ (2592080896 : Int) < 4294967296).2).2).1 (putS_lt (putS 2592080896 16 5 m) 12 4 c (putS_lt 2592080896 16 5 m (by decide : (0 : Int) ≤ 2592080896 ∧ (2592080896 : Int) < 4294967296).1 (by decide : (0 : Int) ≤ 2592080896 ∧ (2592080896 : Int) < 4294967296).2).1 (putS_lt 2592080896 16 5 m (by decide : (0 : Int) ≤ 2592080896 ∧ (2592080896 : Int) < 4294967296).1 (by decide : (0 : Int) ≤ 2592080896 ∧ (2592080896 : Int) < 4294967296).2).2).2) (by omega) (by have := HOK.out; omega) (zput (putS (putS 2592080896 16 5 m) 12 4 c) n 5 5 0 5 (putS_lt (putS 2592080896 16 5 m) 12 4 c (putS_lt 2592080896 16 5 m (by decide : (0 : Int) ≤ 2592080896 ∧ (2592080896 : Int) < 4294967296).1 (by decide : (0 : Int) ≤ 2592080896 ∧ (2592080896 : Int) < 4294967296).2).1 (putS_lt 2592080896 16 5 m (by decide : (0 : Int) ≤ 2592080896 ∧ (2592080896 : Int) < 4294967296).1 (by decide : (0 : Int) ≤ 2592080896 ∧ (2592080896 : Int) < 4294967296).2).2) (by decide) (by decide) (by decide) (zput (putS 2592080896 16 5 m) c 12 4 0 5 (putS_lt 2592080896 16 5 m (by decide : (0 : Int) ≤ 2592080896 ∧ (2592080896 : Int) < 4294967296).1 (by decide : (0 : Int) ≤ 2592080896 ∧ (2592080896 : Int) < 4294967296).2) (by decide) (by decide) (by decide) (zput 2592080896 m 16 5 0 5 (by decide : (0 : Int) ≤ 2592080896 ∧ (2592080896 : Int) < 4294967296) (by decide) (by decide) (by decide) (by decide))))]
  rfl
set_option maxRecDepth 100000 in
set_option maxHeartbeats 4000000 in
theorem rbase_23 (w : World) : Calls Try.prog 181 #[.int .i64 23] w fun e w' => e = .returned (.int .u32 3036676096) ∧ Below w.heap.size w w' := by
  go_enter Try.func181, Try.ntmps181
  go_wp2
  go_ret
  exact ⟨rfl, (Below.refl _ _).alloc (Nat.le_refl _) _⟩
set_option maxRecDepth 100000 in
set_option maxHeartbeats 4000000 in
theorem rword_23 (d n m a c i : Int) (w : World) (hok : ok_23 d n m a c i = true) : Calls Try.prog 119 #[.agg #[.int .i64 23, .int .i64 d, .int .i64 n, .int .i64 m, .int .i64 a, .int .i64 c, .int .i64 i]] w fun e w' => e = .returned (.tuple #[.int .u32 (putS (putS 3036676096 5 19 (i / 4 % 4294967296)) 0 5 d), .int .i64 0]) ∧ Below w.heap.size w w' := by
  have HCK := Lib.hid (fun w => (by have := rcheck_23 d n m a c i w; rw [hok] at this; exact this) : ∀ w, Calls Try.prog 83 #[.agg #[.int .i64 23, .int .i64 d, .int .i64 n, .int .i64 m, .int .i64 a, .int .i64 c, .int .i64 i]] w fun e w' => e = .returned (.int .i64 0) ∧ Below w.heap.size w w')
  simp only [ok_23, wi, wm, Bool.and_eq_true, decide_eq_true_eq, beq_iff_eq] at hok
  obtain ⟨h1, h2⟩ : (0 ≤ d ∧ d ≤ 31) ∧ (0 ≤ n ∧ n ≤ 31) := by omega
  obtain ⟨h3, h4⟩ : (0 ≤ m ∧ m ≤ 31) ∧ (0 ≤ a ∧ a ≤ 31) := by omega
  have h5 : 0 ≤ c ∧ c ≤ 15 := by omega
  obtain ⟨h1, h1'⟩ := h1
  obtain ⟨h2, h2'⟩ := h2
  obtain ⟨h3, h3'⟩ := h3
  obtain ⟨h4, h4'⟩ := h4
  obtain ⟨h5, h5'⟩ := h5
  have HOK := Lib.hid hok
  clear hok
  go_enter Try.func119, Try.ntmps119
  go_wp2_with fail
  refine (HCK.out _).mono ?_
  rintro e w1 ⟨rfl, hb⟩
  have HI1 := Lib.hid ((InsC.new w (.int .i64 23) (.int .i64 d) (.int .i64 n) (.int .i64 m) (.int .i64 a) (.int .i64 c) (.int .i64 i)).below' hb rfl)
  have HB1 : Hid (Below w.heap.size w w1) := Lib.hid (((Below.refl _ _).alloc (Nat.le_refl _) _).trans (hb.mono (by simp)))
  obtain ⟨hl, i0, i1, i2, i3, i4, i5, i6⟩ := HI1.out
  clear hb
  go_wp2_with fail
  refine (rbase_23 _).mono ?_
  rintro e w2 ⟨rfl, hb⟩
  have HI2 := Lib.hid (HI1.out.below' hb rfl)
  have HB2 := Lib.hid (HB1.out.trans (hb.mono HB1.out.size))
  clear hb hl i0 i1 i2 i3 i4 i5 i6 HI1 HB1
  obtain ⟨hl, i0, i1, i2, i3, i4, i5, i6⟩ := HI2.out
  have hi : -1048576 ≤ i ∧ i ≤ 1048572 := by have := HOK.out; omega
  obtain ⟨hi0, hi1⟩ := hi
  go_wp2
  go_ret2
  refine ⟨?_, HB2.out⟩
  rw [near_l 3036676096 i (by decide : (0 : Int) ≤ 3036676096 ∧ (3036676096 : Int) < 4294967296) (by decide) (by have := HOK.out; omega), or_0_5 (putS 3036676096 5 19 (i / 4 % 4294967296)) d (putS_lt 3036676096 5 19 (i / 4 % 4294967296) (by decide : (0 : Int) ≤ 3036676096 ∧ (3036676096 : Int) < 4294967296).1 (by decide : (0 : Int) ≤ 3036676096 ∧ (3036676096 : Int) < 4294967296).2) (by omega) (by have := HOK.out; omega) (zput 3036676096 (i / 4 % 4294967296) 5 19 0 5 (by decide : (0 : Int) ≤ 3036676096 ∧ (3036676096 : Int) < 4294967296) (by decide) (by decide) (by decide) (by decide))]
  rfl
set_option maxRecDepth 100000 in
set_option maxHeartbeats 4000000 in
theorem rbase_27 (w : World) : Calls Try.prog 181 #[.int .i64 27] w fun e w' => e = .returned (.int .u32 3596550144) ∧ Below w.heap.size w w' := by
  go_enter Try.func181, Try.ntmps181
  go_wp2
  go_ret
  exact ⟨rfl, (Below.refl _ _).alloc (Nat.le_refl _) _⟩
set_option maxRecDepth 100000 in
set_option maxHeartbeats 4000000 in
theorem rword_27 (d n m a c i : Int) (w : World) (hok : ok_27 d n m a c i = true) : Calls Try.prog 119 #[.agg #[.int .i64 27, .int .i64 d, .int .i64 n, .int .i64 m, .int .i64 a, .int .i64 c, .int .i64 i]] w fun e w' => e = .returned (.tuple #[.int .u32 (putS 3596550144 5 5 n), .int .i64 0]) ∧ Below w.heap.size w w' := by
  have HCK := Lib.hid (fun w => (by have := rcheck_27 d n m a c i w; rw [hok] at this; exact this) : ∀ w, Calls Try.prog 83 #[.agg #[.int .i64 27, .int .i64 d, .int .i64 n, .int .i64 m, .int .i64 a, .int .i64 c, .int .i64 i]] w fun e w' => e = .returned (.int .i64 0) ∧ Below w.heap.size w w')
  simp only [ok_27, wi, Bool.and_eq_true, decide_eq_true_eq, beq_iff_eq] at hok
  obtain ⟨h1, h2⟩ : (0 ≤ d ∧ d ≤ 31) ∧ (0 ≤ n ∧ n ≤ 31) := by omega
  obtain ⟨h3, h4⟩ : (0 ≤ m ∧ m ≤ 31) ∧ (0 ≤ a ∧ a ≤ 31) := by omega
  have h5 : 0 ≤ c ∧ c ≤ 15 := by omega
  obtain ⟨h1, h1'⟩ := h1
  obtain ⟨h2, h2'⟩ := h2
  obtain ⟨h3, h3'⟩ := h3
  obtain ⟨h4, h4'⟩ := h4
  obtain ⟨h5, h5'⟩ := h5
  have HOK := Lib.hid hok
  clear hok
  go_enter Try.func119, Try.ntmps119
  go_wp2_with fail
  refine (HCK.out _).mono ?_
  rintro e w1 ⟨rfl, hb⟩
  have HI1 := Lib.hid ((InsC.new w (.int .i64 27) (.int .i64 d) (.int .i64 n) (.int .i64 m) (.int .i64 a) (.int .i64 c) (.int .i64 i)).below' hb rfl)
  have HB1 : Hid (Below w.heap.size w w1) := Lib.hid (((Below.refl _ _).alloc (Nat.le_refl _) _).trans (hb.mono (by simp)))
  obtain ⟨hl, i0, i1, i2, i3, i4, i5, i6⟩ := HI1.out
  clear hb
  go_wp2_with fail
  refine (rbase_27 _).mono ?_
  rintro e w2 ⟨rfl, hb⟩
  have HI2 := Lib.hid (HI1.out.below' hb rfl)
  have HB2 := Lib.hid (HB1.out.trans (hb.mono HB1.out.size))
  clear hb hl i0 i1 i2 i3 i4 i5 i6 HI1 HB1
  obtain ⟨hl, i0, i1, i2, i3, i4, i5, i6⟩ := HI2.out
  go_wp2
  go_ret2
  refine ⟨?_, HB2.out⟩
  rw [or_5_5 3596550144 n (by decide : (0 : Int) ≤ 3596550144 ∧ (3596550144 : Int) < 4294967296) (by omega) (by have := HOK.out; omega) (by decide)]
  rfl
set_option maxRecDepth 100000 in
set_option maxHeartbeats 4000000 in
theorem rbase_31 (w : World) : Calls Try.prog 181 #[.int .i64 31] w fun e w' => e = .returned (.int .u32 4167071744) ∧ Below w.heap.size w w' := by
  go_enter Try.func181, Try.ntmps181
  go_wp2
  go_ret
  exact ⟨rfl, (Below.refl _ _).alloc (Nat.le_refl _) _⟩
set_option maxRecDepth 100000 in
set_option maxHeartbeats 4000000 in
theorem rword_31 (d n m a c i : Int) (w : World) (hok : ok_31 d n m a c i = true) : Calls Try.prog 119 #[.agg #[.int .i64 31, .int .i64 d, .int .i64 n, .int .i64 m, .int .i64 a, .int .i64 c, .int .i64 i]] w fun e w' => e = .returned (.tuple #[.int .u32 (putS (putS (putS 4167071744 16 5 m) 5 5 n) 0 5 d), .int .i64 0]) ∧ Below w.heap.size w w' := by
  have HCK := Lib.hid (fun w => (by have := rcheck_31 d n m a c i w; rw [hok] at this; exact this) : ∀ w, Calls Try.prog 83 #[.agg #[.int .i64 31, .int .i64 d, .int .i64 n, .int .i64 m, .int .i64 a, .int .i64 c, .int .i64 i]] w fun e w' => e = .returned (.int .i64 0) ∧ Below w.heap.size w w')
  simp only [ok_31, wi, Bool.and_eq_true, decide_eq_true_eq, beq_iff_eq] at hok
  obtain ⟨h1, h2⟩ : (0 ≤ d ∧ d ≤ 31) ∧ (0 ≤ n ∧ n ≤ 31) := by omega
  obtain ⟨h3, h4⟩ : (0 ≤ m ∧ m ≤ 31) ∧ (0 ≤ a ∧ a ≤ 31) := by omega
  have h5 : 0 ≤ c ∧ c ≤ 15 := by omega
  obtain ⟨h1, h1'⟩ := h1
  obtain ⟨h2, h2'⟩ := h2
  obtain ⟨h3, h3'⟩ := h3
  obtain ⟨h4, h4'⟩ := h4
  obtain ⟨h5, h5'⟩ := h5
  have HOK := Lib.hid hok
  clear hok
  go_enter Try.func119, Try.ntmps119
  go_wp2_with fail
  refine (HCK.out _).mono ?_
  rintro e w1 ⟨rfl, hb⟩
  have HI1 := Lib.hid ((InsC.new w (.int .i64 31) (.int .i64 d) (.int .i64 n) (.int .i64 m) (.int .i64 a) (.int .i64 c) (.int .i64 i)).below' hb rfl)
  have HB1 : Hid (Below w.heap.size w w1) := Lib.hid (((Below.refl _ _).alloc (Nat.le_refl _) _).trans (hb.mono (by simp)))
  obtain ⟨hl, i0, i1, i2, i3, i4, i5, i6⟩ := HI1.out
  clear hb
  go_wp2_with fail
  refine (rbase_31 _).mono ?_
  rintro e w2 ⟨rfl, hb⟩
  have HI2 := Lib.hid (HI1.out.below' hb rfl)
  have HB2 := Lib.hid (HB1.out.trans (hb.mono HB1.out.size))
  clear hb hl i0 i1 i2 i3 i4 i5 i6 HI1 HB1
  obtain ⟨hl, i0, i1, i2, i3, i4, i5, i6⟩ := HI2.out
  go_wp2
  go_ret2
  refine ⟨?_, HB2.out⟩
  rw [or_16_5 4167071744 m (by decide : (0 : Int) ≤ 4167071744 ∧ (4167071744 : Int) < 4294967296) (by omega) (by have := HOK.out; omega) (by decide), or_5_5 (putS 4167071744 16 5 m) n (putS_lt 4167071744 16 5 m (by decide : (0 : Int) ≤ 4167071744 ∧ (4167071744 : Int) < 4294967296).1 (by decide : (0 : Int) ≤ 4167071744 ∧ (4167071744 : Int) < 4294967296).2) (by omega) (by have := HOK.out; omega) (zput 4167071744 m 16 5 5 5 (by decide : (0 : Int) ≤ 4167071744 ∧ (4167071744 : Int) < 4294967296) (by decide) (by decide) (by decide) (by decide)), or_0_5 (putS (putS 4167071744 16 5 m) 5 5 n) d (putS_lt (putS 4167071744 16 5 m) 5 5 n (putS_lt 4167071744 16 5 m (by decide : (0 : Int) ≤ 4167071744 ∧ (4167071744 : Int) < 4294967296).1 (by decide : (0 : Int) ≤ 4167071744 ∧ (4167071744 : Int) < 4294967296).2).1 (putS_lt 4167071744 16 5 m (by decide : (0 : Int) ≤ 4167071744 ∧ (4167071744 : Int) < 4294967296).1 (by decide : (0 : Int) ≤ 4167071744 ∧ (4167071744 : Int) < 4294967296).2).2) (by omega) (by have := HOK.out; omega) (zput (putS 4167071744 16 5 m) n 5 5 0 5 (putS_lt 4167071744 16 5 m (by decide : (0 : Int) ≤ 4167071744 ∧ (4167071744 : Int) < 4294967296).1 (by decide : (0 : Int) ≤ 4167071744 ∧ (4167071744 : Int) < 4294967296).2) (by decide) (by decide) (by decide) (zput 4167071744 m 16 5 0 5 (by decide : (0 : Int) ≤ 4167071744 ∧ (4167071744 : Int) < 4294967296) (by decide) (by decide) (by decide) (by decide)))]
  rfl
set_option maxRecDepth 100000 in
set_option maxHeartbeats 4000000 in
theorem rbase_35 (w : World) : Calls Try.prog 181 #[.int .i64 35] w fun e w' => e = .returned (.int .u32 3361700864) ∧ Below w.heap.size w w' := by
  go_enter Try.func181, Try.ntmps181
  go_wp2
  go_ret
  exact ⟨rfl, (Below.refl _ _).alloc (Nat.le_refl _) _⟩
set_option maxRecDepth 100000 in
set_option maxHeartbeats 4000000 in
theorem rword_35 (d n m a c i : Int) (w : World) (hok : ok_35 d n m a c i = true) : Calls Try.prog 119 #[.agg #[.int .i64 35, .int .i64 d, .int .i64 n, .int .i64 m, .int .i64 a, .int .i64 c, .int .i64 i]] w fun e w' => e = .returned (.tuple #[.int .u32 (putS (putS 3361700864 5 5 n) 0 5 d), .int .i64 0]) ∧ Below w.heap.size w w' := by
  have HCK := Lib.hid (fun w => (by have := rcheck_35 d n m a c i w; rw [hok] at this; exact this) : ∀ w, Calls Try.prog 83 #[.agg #[.int .i64 35, .int .i64 d, .int .i64 n, .int .i64 m, .int .i64 a, .int .i64 c, .int .i64 i]] w fun e w' => e = .returned (.int .i64 0) ∧ Below w.heap.size w w')
  simp only [ok_35, wi, Bool.and_eq_true, decide_eq_true_eq, beq_iff_eq] at hok
  obtain ⟨h1, h2⟩ : (0 ≤ d ∧ d ≤ 31) ∧ (0 ≤ n ∧ n ≤ 31) := by omega
  obtain ⟨h3, h4⟩ : (0 ≤ m ∧ m ≤ 31) ∧ (0 ≤ a ∧ a ≤ 31) := by omega
  have h5 : 0 ≤ c ∧ c ≤ 15 := by omega
  obtain ⟨h1, h1'⟩ := h1
  obtain ⟨h2, h2'⟩ := h2
  obtain ⟨h3, h3'⟩ := h3
  obtain ⟨h4, h4'⟩ := h4
  obtain ⟨h5, h5'⟩ := h5
  have HOK := Lib.hid hok
  clear hok
  go_enter Try.func119, Try.ntmps119
  go_wp2_with fail
  refine (HCK.out _).mono ?_
  rintro e w1 ⟨rfl, hb⟩
  have HI1 := Lib.hid ((InsC.new w (.int .i64 35) (.int .i64 d) (.int .i64 n) (.int .i64 m) (.int .i64 a) (.int .i64 c) (.int .i64 i)).below' hb rfl)
  have HB1 : Hid (Below w.heap.size w w1) := Lib.hid (((Below.refl _ _).alloc (Nat.le_refl _) _).trans (hb.mono (by simp)))
  obtain ⟨hl, i0, i1, i2, i3, i4, i5, i6⟩ := HI1.out
  clear hb
  go_wp2_with fail
  refine (rbase_35 _).mono ?_
  rintro e w2 ⟨rfl, hb⟩
  have HI2 := Lib.hid (HI1.out.below' hb rfl)
  have HB2 := Lib.hid (HB1.out.trans (hb.mono HB1.out.size))
  clear hb hl i0 i1 i2 i3 i4 i5 i6 HI1 HB1
  obtain ⟨hl, i0, i1, i2, i3, i4, i5, i6⟩ := HI2.out
  go_wp2
  go_ret2
  refine ⟨?_, HB2.out⟩
  rw [or_5_5 3361700864 n (by decide : (0 : Int) ≤ 3361700864 ∧ (3361700864 : Int) < 4294967296) (by omega) (by have := HOK.out; omega) (by decide), or_0_5 (putS 3361700864 5 5 n) d (putS_lt 3361700864 5 5 n (by decide : (0 : Int) ≤ 3361700864 ∧ (3361700864 : Int) < 4294967296).1 (by decide : (0 : Int) ≤ 3361700864 ∧ (3361700864 : Int) < 4294967296).2) (by omega) (by have := HOK.out; omega) (zput 3361700864 n 5 5 0 5 (by decide : (0 : Int) ≤ 3361700864 ∧ (3361700864 : Int) < 4294967296) (by decide) (by decide) (by decide) (by decide))]
  rfl
set_option maxRecDepth 100000 in
set_option maxHeartbeats 4000000 in
theorem rbase_39 (w : World) : Calls Try.prog 181 #[.int .i64 39] w fun e w' => e = .returned (.int .u32 3573759967) ∧ Below w.heap.size w w' := by
  go_enter Try.func181, Try.ntmps181
  go_wp2
  go_ret
  exact ⟨rfl, (Below.refl _ _).alloc (Nat.le_refl _) _⟩
set_option maxRecDepth 100000 in
set_option maxHeartbeats 4000000 in
theorem rword_39 (d n m a c i : Int) (w : World) (hok : ok_39 d n m a c i = true) : Calls Try.prog 119 #[.agg #[.int .i64 39, .int .i64 d, .int .i64 n, .int .i64 m, .int .i64 a, .int .i64 c, .int .i64 i]] w fun e w' => e = .returned (.tuple #[.int .u32 3573759967, .int .i64 0]) ∧ Below w.heap.size w w' := by
  have HCK := Lib.hid (fun w => (by have := rcheck_39 d n m a c i w; rw [hok] at this; exact this) : ∀ w, Calls Try.prog 83 #[.agg #[.int .i64 39, .int .i64 d, .int .i64 n, .int .i64 m, .int .i64 a, .int .i64 c, .int .i64 i]] w fun e w' => e = .returned (.int .i64 0) ∧ Below w.heap.size w w')
  simp only [ok_39, Bool.and_eq_true, beq_iff_eq] at hok
  obtain ⟨h1, h2⟩ : (0 ≤ d ∧ d ≤ 31) ∧ (0 ≤ n ∧ n ≤ 31) := by omega
  obtain ⟨h3, h4⟩ : (0 ≤ m ∧ m ≤ 31) ∧ (0 ≤ a ∧ a ≤ 31) := by omega
  have h5 : 0 ≤ c ∧ c ≤ 15 := by omega
  obtain ⟨h1, h1'⟩ := h1
  obtain ⟨h2, h2'⟩ := h2
  obtain ⟨h3, h3'⟩ := h3
  obtain ⟨h4, h4'⟩ := h4
  obtain ⟨h5, h5'⟩ := h5
  have HOK := Lib.hid hok
  clear hok
  go_enter Try.func119, Try.ntmps119
  go_wp2_with fail
  refine (HCK.out _).mono ?_
  rintro e w1 ⟨rfl, hb⟩
  have HI1 := Lib.hid ((InsC.new w (.int .i64 39) (.int .i64 d) (.int .i64 n) (.int .i64 m) (.int .i64 a) (.int .i64 c) (.int .i64 i)).below' hb rfl)
  have HB1 : Hid (Below w.heap.size w w1) := Lib.hid (((Below.refl _ _).alloc (Nat.le_refl _) _).trans (hb.mono (by simp)))
  obtain ⟨hl, i0, i1, i2, i3, i4, i5, i6⟩ := HI1.out
  clear hb
  go_wp2_with fail
  refine (rbase_39 _).mono ?_
  rintro e w2 ⟨rfl, hb⟩
  have HI2 := Lib.hid (HI1.out.below' hb rfl)
  have HB2 := Lib.hid (HB1.out.trans (hb.mono HB1.out.size))
  clear hb hl i0 i1 i2 i3 i4 i5 i6 HI1 HB1
  obtain ⟨hl, i0, i1, i2, i3, i4, i5, i6⟩ := HI2.out
  go_wp2
  go_ret2
  refine ⟨?_, HB2.out⟩
  rfl
end Go.Proofs.Ytnbpgoacooddjaa.En
