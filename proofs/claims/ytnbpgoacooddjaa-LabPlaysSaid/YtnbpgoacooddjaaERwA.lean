import Derived.Test.YtnbpgoacooddjaaEWd
import Derived.Test.YtnbpgoacooddjaaERfB
import Derived.Test.YtnbpgoacooddjaaERfC
import Derived.Test.YtnbpgoacooddjaaERfD
import Derived.Test.YtnbpgoacooddjaaERfE
import Derived.Test.YtnbpgoacooddjaaEEm
namespace Go.Proofs.Ytnbpgoacooddjaa.Fr
end Go.Proofs.Ytnbpgoacooddjaa.Fr
namespace Go.Proofs.Ytnbpgoacooddjaa.En
open Go.Proofs.Ytnbpgoacooddjaa.Fr
open Go.ChangeShapes Go.WideShapes Go.ChangeAt Go.RowKit Go.Maps
set_option linter.unusedVariables false
set_option maxRecDepth 100000 in
set_option maxHeartbeats 4000000 in
theorem rbase_0 (w : World) : Calls Try.prog 181 #[.int .i64 0] w fun e w' => e = .returned (.int .u32 0) ∧ Below w.heap.size w w' := by
  go_enter Try.func181, Try.ntmps181
  go_wp2
  go_ret
  exact ⟨rfl, (Below.refl _ _).alloc (Nat.le_refl _) _⟩
set_option maxRecDepth 100000 in
set_option maxHeartbeats 4000000 in
theorem rword_0 (d n m a c i : Int) (w : World) (hok : ok_0 d n m a c i = true) : Calls Try.prog 119 #[.agg #[.int .i64 0, .int .i64 d, .int .i64 n, .int .i64 m, .int .i64 a, .int .i64 c, .int .i64 i]] w fun e w' => e = .returned (.tuple #[.int .u32 (putS 0 0 16 i), .int .i64 0]) ∧ Below w.heap.size w w' := by
  have HCK := Lib.hid (fun w => (by have := rcheck_0 d n m a c i w; rw [hok] at this; exact this) : ∀ w, Calls Try.prog 83 #[.agg #[.int .i64 0, .int .i64 d, .int .i64 n, .int .i64 m, .int .i64 a, .int .i64 c, .int .i64 i]] w fun e w' => e = .returned (.int .i64 0) ∧ Below w.heap.size w w')
  simp only [ok_0, wi, Bool.and_eq_true, decide_eq_true_eq, beq_iff_eq] at hok
  obtain ⟨h1, h2⟩ : (0 ≤ d ∧ d ≤ 31) ∧ (0 ≤ n ∧ n ≤ 31) := by omega
  obtain ⟨h3, h4⟩ : (0 ≤ m ∧ m ≤ 31) ∧ (0 ≤ a ∧ a ≤ 31) := by omega
  have h5 : 0 ≤ c ∧ c ≤ 15 := by omega
  obtain ⟨h1, h1'⟩ := h1
  obtain ⟨h2, h2'⟩ := h2
  obtain ⟨h3, h3'⟩ := h3
  obtain ⟨h4, h4'⟩ := h4
  obtain ⟨h5, h5'⟩ := h5
  have HOK := Lib.hid hok
  clear hok
  go_enter Try.func119, Try.ntmps119
  go_wp2_with fail
  refine (HCK.out _).mono ?_
  rintro e w1 ⟨rfl, hb⟩
  have HI1 := Lib.hid ((InsC.new w (.int .i64 0) (.int .i64 d) (.int .i64 n) (.int .i64 m) (.int .i64 a) (.int .i64 c) (.int .i64 i)).below' hb rfl)
  have HB1 : Hid (Below w.heap.size w w1) := Lib.hid (((Below.refl _ _).alloc (Nat.le_refl _) _).trans (hb.mono (by simp)))
  obtain ⟨hl, i0, i1, i2, i3, i4, i5, i6⟩ := HI1.out
  clear hb
  go_wp2_with fail
  refine (rbase_0 _).mono ?_
  rintro e w2 ⟨rfl, hb⟩
  have HI2 := Lib.hid (HI1.out.below' hb rfl)
  have HB2 := Lib.hid (HB1.out.trans (hb.mono HB1.out.size))
  clear hb hl i0 i1 i2 i3 i4 i5 i6 HI1 HB1
  obtain ⟨hl, i0, i1, i2, i3, i4, i5, i6⟩ := HI2.out
  have hi : 0 ≤ i ∧ i ≤ 65535 := by have := HOK.out; omega
  obtain ⟨hi0, hi1⟩ := hi
  go_wp2
  go_ret2
  refine ⟨?_, HB2.out⟩
  rw [put_zero i (by omega)]
  rfl
set_option maxRecDepth 100000 in
set_option maxHeartbeats 4000000 in
theorem rbase_4 (w : World) : Calls Try.prog 181 #[.int .i64 4] w fun e w' => e = .returned (.int .u32 2432696320) ∧ Below w.heap.size w w' := by
  go_enter Try.func181, Try.ntmps181
  go_wp2
  go_ret
  exact ⟨rfl, (Below.refl _ _).alloc (Nat.le_refl _) _⟩
set_option maxRecDepth 100000 in
set_option maxHeartbeats 4000000 in
theorem rword_4 (d n m a c i : Int) (w : World) (hok : ok_4 d n m a c i = true) : Calls Try.prog 119 #[.agg #[.int .i64 4, .int .i64 d, .int .i64 n, .int .i64 m, .int .i64 a, .int .i64 c, .int .i64 i]] w fun e w' => e = .returned (.tuple #[.int .u32 (putS (putS (putS 2432696320 10 12 i) 5 5 n) 0 5 d), .int .i64 0]) ∧ Below w.heap.size w w' := by
  have HCK := Lib.hid (fun w => (by have := rcheck_4 d n m a c i w; rw [hok] at this; exact this) : ∀ w, Calls Try.prog 83 #[.agg #[.int .i64 4, .int .i64 d, .int .i64 n, .int .i64 m, .int .i64 a, .int .i64 c, .int .i64 i]] w fun e w' => e = .returned (.int .i64 0) ∧ Below w.heap.size w w')
  simp only [ok_4, wi, Bool.and_eq_true, decide_eq_true_eq, beq_iff_eq] at hok
  obtain ⟨h1, h2⟩ : (0 ≤ d ∧ d ≤ 31) ∧ (0 ≤ n ∧ n ≤ 31) := by omega
  obtain ⟨h3, h4⟩ : (0 ≤ m ∧ m ≤ 31) ∧ (0 ≤ a ∧ a ≤ 31) := by omega
  have h5 : 0 ≤ c ∧ c ≤ 15 := by omega
  obtain ⟨h1, h1'⟩ := h1
  obtain ⟨h2, h2'⟩ := h2
  obtain ⟨h3, h3'⟩ := h3
  obtain ⟨h4, h4'⟩ := h4
  obtain ⟨h5, h5'⟩ := h5
  have HOK := Lib.hid hok
  clear hok
  go_enter Try.func119, Try.ntmps119
  go_wp2_with fail
  refine (HCK.out _).mono ?_
  rintro e w1 ⟨rfl, hb⟩
  have HI1 := Lib.hid ((InsC.new w (.int .i64 4) (.int .i64 d) (.int .i64 n) (.int .i64 m) (.int .i64 a) (.int .i64 c) (.int .i64 i)).below' hb rfl)
  have HB1 : Hid (Below w.heap.size w w1) := Lib.hid (((Below.refl _ _).alloc (Nat.le_refl _) _).trans (hb.mono (by simp)))
  obtain ⟨hl, i0, i1, i2, i3, i4, i5, i6⟩ := HI1.out
  clear hb
  go_wp2_with fail
  refine (rbase_4 _).mono ?_
  rintro e w2 ⟨rfl, hb⟩
  have HI2 := Lib.hid (HI1.out.below' hb rfl)
  have HB2 := Lib.hid (HB1.out.trans (hb.mono HB1.out.size))
  clear hb hl i0 i1 i2 i3 i4 i5 i6 HI1 HB1
  obtain ⟨hl, i0, i1, i2, i3, i4, i5, i6⟩ := HI2.out
  have hi : 0 ≤ i ∧ i ≤ 4095 := by have := HOK.out; omega
  obtain ⟨hi0, hi1⟩ := hi
  go_wp2
  go_ret2
  refine ⟨?_, HB2.out⟩
  rw [or_10_12 2432696320 i (by decide : (0 : Int) ≤ 2432696320 ∧ (2432696320 : Int) < 4294967296) (by omega) (by have := HOK.out; omega) (by decide), or_5_5 (putS 2432696320 10 12 i) n (putS_lt 2432696320 10 12 i (by decide : (0 : Int) ≤ 2432696320 ∧ (2432696320 : Int) < 4294967296).1 (by decide : (0 : Int) ≤ 2432696320 ∧ (2432696320 : Int) < 4294967296).2) (by omega) (by have := HOK.out; omega) (zput 2432696320 i 10 12 5 5 (by decide : (0 : Int) ≤ 2432696320 ∧ (2432696320 : Int) < 4294967296) (by decide) (by decide) (by decide) (by decide)), or_0_5 (putS (putS 2432696320 10 12 i) 5 5 n) d (putS_lt (putS 2432696320 10 12 i) 5 5 n (putS_lt 2432696320 10 12 i (by decide : (0 : Int) ≤ 2432696320 ∧ (2432696320 : Int) < 4294967296).1 (by decide : (0 : Int) ≤ 2432696320 ∧ (2432696320 : Int) < 4294967296).2).1 (putS_lt 2432696320 10 12 i (by decide : (0 : Int) ≤ 2432696320 ∧ (2432696320 : Int) < 4294967296).1 (by decide : (0 : Int) ≤ 2432696320 ∧ (2432696320 : Int) < 4294967296).2).2) (by omega) (by have := HOK.out; omega) (zput (putS 2432696320 10 12 i) n 5 5 0 5 (putS_lt 2432696320 10 12 i (by decide : (0 : Int) ≤ 2432696320 ∧ (2432696320 : Int) < 4294967296).1 (by decide : (0 : Int) ≤ 2432696320 ∧ (2432696320 : Int) < 4294967296).2) (by decide) (by decide) (by decide) (zput 2432696320 i 10 12 0 5 (by decide : (0 : Int) ≤ 2432696320 ∧ (2432696320 : Int) < 4294967296) (by decide) (by decide) (by decide) (by decide)))]
  rfl
set_option maxRecDepth 100000 in
set_option maxHeartbeats 4000000 in
theorem rbase_8 (w : World) : Calls Try.prog 181 #[.int .i64 8] w fun e w' => e = .returned (.int .u32 3405774848) ∧ Below w.heap.size w w' := by
  go_enter Try.func181, Try.ntmps181
  go_wp2
  go_ret
  exact ⟨rfl, (Below.refl _ _).alloc (Nat.le_refl _) _⟩
set_option maxRecDepth 100000 in
set_option maxHeartbeats 4000000 in
theorem rword_8 (d n m a c i : Int) (w : World) (hok : ok_8 d n m a c i = true) : Calls Try.prog 119 #[.agg #[.int .i64 8, .int .i64 d, .int .i64 n, .int .i64 m, .int .i64 a, .int .i64 c, .int .i64 i]] w fun e w' => e = .returned (.tuple #[.int .u32 (putS (putS (putS 3405774848 16 5 m) 5 5 n) 0 5 d), .int .i64 0]) ∧ Below w.heap.size w w' := by
  have HCK := Lib.hid (fun w => (by have := rcheck_8 d n m a c i w; rw [hok] at this; exact this) : ∀ w, Calls Try.prog 83 #[.agg #[.int .i64 8, .int .i64 d, .int .i64 n, .int .i64 m, .int .i64 a, .int .i64 c, .int .i64 i]] w fun e w' => e = .returned (.int .i64 0) ∧ Below w.heap.size w w')
  simp only [ok_8, wi, Bool.and_eq_true, decide_eq_true_eq, beq_iff_eq] at hok
  obtain ⟨h1, h2⟩ : (0 ≤ d ∧ d ≤ 31) ∧ (0 ≤ n ∧ n ≤ 31) := by omega
  obtain ⟨h3, h4⟩ : (0 ≤ m ∧ m ≤ 31) ∧ (0 ≤ a ∧ a ≤ 31) := by omega
  have h5 : 0 ≤ c ∧ c ≤ 15 := by omega
  obtain ⟨h1, h1'⟩ := h1
  obtain ⟨h2, h2'⟩ := h2
  obtain ⟨h3, h3'⟩ := h3
  obtain ⟨h4, h4'⟩ := h4
  obtain ⟨h5, h5'⟩ := h5
  have HOK := Lib.hid hok
  clear hok
  go_enter Try.func119, Try.ntmps119
  go_wp2_with fail
  refine (HCK.out _).mono ?_
  rintro e w1 ⟨rfl, hb⟩
  have HI1 := Lib.hid ((InsC.new w (.int .i64 8) (.int .i64 d) (.int .i64 n) (.int .i64 m) (.int .i64 a) (.int .i64 c) (.int .i64 i)).below' hb rfl)
  have HB1 : Hid (Below w.heap.size w w1) := Lib.hid (((Below.refl _ _).alloc (Nat.le_refl _) _).trans (hb.mono (by simp)))
  obtain ⟨hl, i0, i1, i2, i3, i4, i5, i6⟩ := HI1.out
  clear hb
  go_wp2_with fail
  refine (rbase_8 _).mono ?_
  rintro e w2 ⟨rfl, hb⟩
  have HI2 := Lib.hid (HI1.out.below' hb rfl)
  have HB2 := Lib.hid (HB1.out.trans (hb.mono HB1.out.size))
  clear hb hl i0 i1 i2 i3 i4 i5 i6 HI1 HB1
  obtain ⟨hl, i0, i1, i2, i3, i4, i5, i6⟩ := HI2.out
  go_wp2
  go_ret2
  refine ⟨?_, HB2.out⟩
  rw [or_16_5 3405774848 m (by decide : (0 : Int) ≤ 3405774848 ∧ (3405774848 : Int) < 4294967296) (by omega) (by have := HOK.out; omega) (by decide), or_5_5 (putS 3405774848 16 5 m) n (putS_lt 3405774848 16 5 m (by decide : (0 : Int) ≤ 3405774848 ∧ (3405774848 : Int) < 4294967296).1 (by decide : (0 : Int) ≤ 3405774848 ∧ (3405774848 : Int) < 4294967296).2) (by omega) (by have := HOK.out; omega) (zput 3405774848 m 16 5 5 5 (by decide : (0 : Int) ≤ 3405774848 ∧ (3405774848 : Int) < 4294967296) (by decide) (by decide) (by decide) (by decide)), or_0_5 (putS (putS 3405774848 16 5 m) 5 5 n) d (putS_lt (putS 3405774848 16 5 m) 5 5 n (putS_lt 3405774848 16 5 m (by decide : (0 : Int) ≤ 3405774848 ∧ (3405774848 : Int) < 4294967296).1 (by decide : (0 : Int) ≤ 3405774848 ∧ (3405774848 : Int) < 4294967296).2).1 (putS_lt 3405774848 16 5 m (by decide : (0 : Int) ≤ 3405774848 ∧ (3405774848 : Int) < 4294967296).1 (by decide : (0 : Int) ≤ 3405774848 ∧ (3405774848 : Int) < 4294967296).2).2) (by omega) (by have := HOK.out; omega) (zput (putS 3405774848 16 5 m) n 5 5 0 5 (putS_lt 3405774848 16 5 m (by decide : (0 : Int) ≤ 3405774848 ∧ (3405774848 : Int) < 4294967296).1 (by decide : (0 : Int) ≤ 3405774848 ∧ (3405774848 : Int) < 4294967296).2) (by decide) (by decide) (by decide) (zput 3405774848 m 16 5 0 5 (by decide : (0 : Int) ≤ 3405774848 ∧ (3405774848 : Int) < 4294967296) (by decide) (by decide) (by decide) (by decide)))]
  rfl
set_option maxRecDepth 100000 in
set_option maxHeartbeats 4000000 in
theorem rbase_12 (w : World) : Calls Try.prog 181 #[.int .i64 12] w fun e w' => e = .returned (.int .u32 3388997632) ∧ Below w.heap.size w w' := by
  go_enter Try.func181, Try.ntmps181
  go_wp2
  go_ret
  exact ⟨rfl, (Below.refl _ _).alloc (Nat.le_refl _) _⟩
set_option maxRecDepth 100000 in
set_option maxHeartbeats 4000000 in
theorem rword_12 (d n m a c i : Int) (w : World) (hok : ok_12 d n m a c i = true) : Calls Try.prog 119 #[.agg #[.int .i64 12, .int .i64 d, .int .i64 n, .int .i64 m, .int .i64 a, .int .i64 c, .int .i64 i]] w fun e w' => e = .returned (.tuple #[.int .u32 (putS (putS (putS 3388997632 16 5 m) 5 5 n) 0 5 d), .int .i64 0]) ∧ Below w.heap.size w w' := by
  have HCK := Lib.hid (fun w => (by have := rcheck_12 d n m a c i w; rw [hok] at this; exact this) : ∀ w, Calls Try.prog 83 #[.agg #[.int .i64 12, .int .i64 d, .int .i64 n, .int .i64 m, .int .i64 a, .int .i64 c, .int .i64 i]] w fun e w' => e = .returned (.int .i64 0) ∧ Below w.heap.size w w')
  simp only [ok_12, wi, Bool.and_eq_true, decide_eq_true_eq, beq_iff_eq] at hok
  obtain ⟨h1, h2⟩ : (0 ≤ d ∧ d ≤ 31) ∧ (0 ≤ n ∧ n ≤ 31) := by omega
  obtain ⟨h3, h4⟩ : (0 ≤ m ∧ m ≤ 31) ∧ (0 ≤ a ∧ a ≤ 31) := by omega
  have h5 : 0 ≤ c ∧ c ≤ 15 := by omega
  obtain ⟨h1, h1'⟩ := h1
  obtain ⟨h2, h2'⟩ := h2
  obtain ⟨h3, h3'⟩ := h3
  obtain ⟨h4, h4'⟩ := h4
  obtain ⟨h5, h5'⟩ := h5
  have HOK := Lib.hid hok
  clear hok
  go_enter Try.func119, Try.ntmps119
  go_wp2_with fail
  refine (HCK.out _).mono ?_
  rintro e w1 ⟨rfl, hb⟩
  have HI1 := Lib.hid ((InsC.new w (.int .i64 12) (.int .i64 d) (.int .i64 n) (.int .i64 m) (.int .i64 a) (.int .i64 c) (.int .i64 i)).below' hb rfl)
  have HB1 : Hid (Below w.heap.size w w1) := Lib.hid (((Below.refl _ _).alloc (Nat.le_refl _) _).trans (hb.mono (by simp)))
  obtain ⟨hl, i0, i1, i2, i3, i4, i5, i6⟩ := HI1.out
  clear hb
  go_wp2_with fail
  refine (rbase_12 _).mono ?_
  rintro e w2 ⟨rfl, hb⟩
  have HI2 := Lib.hid (HI1.out.below' hb rfl)
  have HB2 := Lib.hid (HB1.out.trans (hb.mono HB1.out.size))
  clear hb hl i0 i1 i2 i3 i4 i5 i6 HI1 HB1
  obtain ⟨hl, i0, i1, i2, i3, i4, i5, i6⟩ := HI2.out
  go_wp2
  go_ret2
  refine ⟨?_, HB2.out⟩
  rw [or_16_5 3388997632 m (by decide : (0 : Int) ≤ 3388997632 ∧ (3388997632 : Int) < 4294967296) (by omega) (by have := HOK.out; omega) (by decide), or_5_5 (putS 3388997632 16 5 m) n (putS_lt 3388997632 16 5 m (by decide : (0 : Int) ≤ 3388997632 ∧ (3388997632 : Int) < 4294967296).1 (by decide : (0 : Int) ≤ 3388997632 ∧ (3388997632 : Int) < 4294967296).2) (by omega) (by have := HOK.out; omega) (zput 3388997632 m 16 5 5 5 (by decide : (0 : Int) ≤ 3388997632 ∧ (3388997632 : Int) < 4294967296) (by decide) (by decide) (by decide) (by decide)), or_0_5 (putS (putS 3388997632 16 5 m) 5 5 n) d (putS_lt (putS 3388997632 16 5 m) 5 5 n (putS_lt 3388997632 16 5 m (by decide : (0 : Int) ≤ 3388997632 ∧ (3388997632 : Int) < 4294967296).1 (by decide : (0 : Int) ≤ 3388997632 ∧ (3388997632 : Int) < 4294967296).2).1 (putS_lt 3388997632 16 5 m (by decide : (0 : Int) ≤ 3388997632 ∧ (3388997632 : Int) < 4294967296).1 (by decide : (0 : Int) ≤ 3388997632 ∧ (3388997632 : Int) < 4294967296).2).2) (by omega) (by have := HOK.out; omega) (zput (putS 3388997632 16 5 m) n 5 5 0 5 (putS_lt 3388997632 16 5 m (by decide : (0 : Int) ≤ 3388997632 ∧ (3388997632 : Int) < 4294967296).1 (by decide : (0 : Int) ≤ 3388997632 ∧ (3388997632 : Int) < 4294967296).2) (by decide) (by decide) (by decide) (zput 3388997632 m 16 5 0 5 (by decide : (0 : Int) ≤ 3388997632 ∧ (3388997632 : Int) < 4294967296) (by decide) (by decide) (by decide) (by decide)))]
  rfl
set_option maxRecDepth 100000 in
set_option maxHeartbeats 4000000 in
theorem rbase_16 (w : World) : Calls Try.prog 181 #[.int .i64 16] w fun e w' => e = .returned (.int .u32 2596282368) ∧ Below w.heap.size w w' := by
  go_enter Try.func181, Try.ntmps181
  go_wp2
  go_ret
  exact ⟨rfl, (Below.refl _ _).alloc (Nat.le_refl _) _⟩
set_option maxRecDepth 100000 in
set_option maxHeartbeats 4000000 in
theorem rword_16 (d n m a c i : Int) (w : World) (hok : ok_16 d n m a c i = true) : Calls Try.prog 119 #[.agg #[.int .i64 16, .int .i64 d, .int .i64 n, .int .i64 m, .int .i64 a, .int .i64 c, .int .i64 i]] w fun e w' => e = .returned (.tuple #[.int .u32 (putS (putS (putS 2596282368 16 5 m) 5 5 n) 0 5 d), .int .i64 0]) ∧ Below w.heap.size w w' := by
  have HCK := Lib.hid (fun w => (by have := rcheck_16 d n m a c i w; rw [hok] at this; exact this) : ∀ w, Calls Try.prog 83 #[.agg #[.int .i64 16, .int .i64 d, .int .i64 n, .int .i64 m, .int .i64 a, .int .i64 c, .int .i64 i]] w fun e w' => e = .returned (.int .i64 0) ∧ Below w.heap.size w w')
  simp only [ok_16, wi, Bool.and_eq_true, decide_eq_true_eq, beq_iff_eq] at hok
  obtain ⟨h1, h2⟩ : (0 ≤ d ∧ d ≤ 31) ∧ (0 ≤ n ∧ n ≤ 31) := by omega
  obtain ⟨h3, h4⟩ : (0 ≤ m ∧ m ≤ 31) ∧ (0 ≤ a ∧ a ≤ 31) := by omega
  have h5 : 0 ≤ c ∧ c ≤ 15 := by omega
  obtain ⟨h1, h1'⟩ := h1
  obtain ⟨h2, h2'⟩ := h2
  obtain ⟨h3, h3'⟩ := h3
  obtain ⟨h4, h4'⟩ := h4
  obtain ⟨h5, h5'⟩ := h5
  have HOK := Lib.hid hok
  clear hok
  go_enter Try.func119, Try.ntmps119
  go_wp2_with fail
  refine (HCK.out _).mono ?_
  rintro e w1 ⟨rfl, hb⟩
  have HI1 := Lib.hid ((InsC.new w (.int .i64 16) (.int .i64 d) (.int .i64 n) (.int .i64 m) (.int .i64 a) (.int .i64 c) (.int .i64 i)).below' hb rfl)
  have HB1 : Hid (Below w.heap.size w w1) := Lib.hid (((Below.refl _ _).alloc (Nat.le_refl _) _).trans (hb.mono (by simp)))
  obtain ⟨hl, i0, i1, i2, i3, i4, i5, i6⟩ := HI1.out
  clear hb
  go_wp2_with fail
  refine (rbase_16 _).mono ?_
  rintro e w2 ⟨rfl, hb⟩
  have HI2 := Lib.hid (HI1.out.below' hb rfl)
  have HB2 := Lib.hid (HB1.out.trans (hb.mono HB1.out.size))
  clear hb hl i0 i1 i2 i3 i4 i5 i6 HI1 HB1
  obtain ⟨hl, i0, i1, i2, i3, i4, i5, i6⟩ := HI2.out
  go_wp2
  go_ret2
  refine ⟨?_, HB2.out⟩
  rw [or_16_5 2596282368 m (by decide : (0 : Int) ≤ 2596282368 ∧ (2596282368 : Int) < 4294967296) (by omega) (by have := HOK.out; omega) (by decide), or_5_5 (putS 2596282368 16 5 m) n (putS_lt 2596282368 16 5 m (by decide : (0 : Int) ≤ 2596282368 ∧ (2596282368 : Int) < 4294967296).1 (by decide : (0 : Int) ≤ 2596282368 ∧ (2596282368 : Int) < 4294967296).2) (by omega) (by have := HOK.out; omega) (zput 2596282368 m 16 5 5 5 (by decide : (0 : Int) ≤ 2596282368 ∧ (2596282368 : Int) < 4294967296) (by decide) (by decide) (by decide) (by decide)), or_0_5 (putS (putS 2596282368 16 5 m) 5 5 n) d (putS_lt (putS 2596282368 16 5 m) 5 5 n (putS_lt 2596282368 16 5 m (by decide : (0 : Int) ≤ 2596282368 ∧ (2596282368 : Int) < 4294967296).1 (by decide : (0 : Int) ≤ 2596282368 ∧ (2596282368 : Int) < 4294967296).2).1 (putS_lt 2596282368 16 5 m (by decide : (0 : Int) ≤ 2596282368 ∧ (2596282368 : Int) < 4294967296).1 (by decide : (0 : Int) ≤ 2596282368 ∧ (2596282368 : Int) < 4294967296).2).2) (by omega) (by have := HOK.out; omega) (zput (putS 2596282368 16 5 m) n 5 5 0 5 (putS_lt 2596282368 16 5 m (by decide : (0 : Int) ≤ 2596282368 ∧ (2596282368 : Int) < 4294967296).1 (by decide : (0 : Int) ≤ 2596282368 ∧ (2596282368 : Int) < 4294967296).2) (by decide) (by decide) (by decide) (zput 2596282368 m 16 5 0 5 (by decide : (0 : Int) ≤ 2596282368 ∧ (2596282368 : Int) < 4294967296) (by decide) (by decide) (by decide) (by decide)))]
  rfl
set_option maxRecDepth 100000 in
set_option maxHeartbeats 4000000 in
theorem rbase_20 (w : World) : Calls Try.prog 181 #[.int .i64 20] w fun e w' => e = .returned (.int .u32 335544320) ∧ Below w.heap.size w w' := by
  go_enter Try.func181, Try.ntmps181
  go_wp2
  go_ret
  exact ⟨rfl, (Below.refl _ _).alloc (Nat.le_refl _) _⟩
set_option maxRecDepth 100000 in
set_option maxHeartbeats 4000000 in
theorem rword_20 (d n m a c i : Int) (w : World) (hok : ok_20 d n m a c i = true) : Calls Try.prog 119 #[.agg #[.int .i64 20, .int .i64 d, .int .i64 n, .int .i64 m, .int .i64 a, .int .i64 c, .int .i64 i]] w fun e w' => e = .returned (.tuple #[.int .u32 (putS 335544320 0 26 (i / 4 % 4294967296)), .int .i64 0]) ∧ Below w.heap.size w w' := by
  have HCK := Lib.hid (fun w => (by have := rcheck_20 d n m a c i w; rw [hok] at this; exact this) : ∀ w, Calls Try.prog 83 #[.agg #[.int .i64 20, .int .i64 d, .int .i64 n, .int .i64 m, .int .i64 a, .int .i64 c, .int .i64 i]] w fun e w' => e = .returned (.int .i64 0) ∧ Below w.heap.size w w')
  simp only [ok_20, wi, wm, Bool.and_eq_true, decide_eq_true_eq, beq_iff_eq] at hok
  obtain ⟨h1, h2⟩ : (0 ≤ d ∧ d ≤ 31) ∧ (0 ≤ n ∧ n ≤ 31) := by omega
  obtain ⟨h3, h4⟩ : (0 ≤ m ∧ m ≤ 31) ∧ (0 ≤ a ∧ a ≤ 31) := by omega
  have h5 : 0 ≤ c ∧ c ≤ 15 := by omega
  obtain ⟨h1, h1'⟩ := h1
  obtain ⟨h2, h2'⟩ := h2
  obtain ⟨h3, h3'⟩ := h3
  obtain ⟨h4, h4'⟩ := h4
  obtain ⟨h5, h5'⟩ := h5
  have HOK := Lib.hid hok
  clear hok
  go_enter Try.func119, Try.ntmps119
  go_wp2_with fail
  refine (HCK.out _).mono ?_
  rintro e w1 ⟨rfl, hb⟩
  have HI1 := Lib.hid ((InsC.new w (.int .i64 20) (.int .i64 d) (.int .i64 n) (.int .i64 m) (.int .i64 a) (.int .i64 c) (.int .i64 i)).below' hb rfl)
  have HB1 : Hid (Below w.heap.size w w1) := Lib.hid (((Below.refl _ _).alloc (Nat.le_refl _) _).trans (hb.mono (by simp)))
  obtain ⟨hl, i0, i1, i2, i3, i4, i5, i6⟩ := HI1.out
  clear hb
  go_wp2_with fail
  refine (rbase_20 _).mono ?_
  rintro e w2 ⟨rfl, hb⟩
  have HI2 := Lib.hid (HI1.out.below' hb rfl)
  have HB2 := Lib.hid (HB1.out.trans (hb.mono HB1.out.size))
  clear hb hl i0 i1 i2 i3 i4 i5 i6 HI1 HB1
  obtain ⟨hl, i0, i1, i2, i3, i4, i5, i6⟩ := HI2.out
  have hi : -134217728 ≤ i ∧ i ≤ 134217724 := by have := HOK.out; omega
  obtain ⟨hi0, hi1⟩ := hi
  go_wp2
  go_ret2
  refine ⟨?_, HB2.out⟩
  rw [far_l 335544320 i (by decide) (by decide) (by have := HOK.out; omega)]
  rfl
set_option maxRecDepth 100000 in
set_option maxHeartbeats 4000000 in
theorem rbase_24 (w : World) : Calls Try.prog 181 #[.int .i64 24] w fun e w' => e = .returned (.int .u32 2483027968) ∧ Below w.heap.size w w' := by
  go_enter Try.func181, Try.ntmps181
  go_wp2
  go_ret
  exact ⟨rfl, (Below.refl _ _).alloc (Nat.le_refl _) _⟩
set_option maxRecDepth 100000 in
set_option maxHeartbeats 4000000 in
theorem rword_24 (d n m a c i : Int) (w : World) (hok : ok_24 d n m a c i = true) : Calls Try.prog 119 #[.agg #[.int .i64 24, .int .i64 d, .int .i64 n, .int .i64 m, .int .i64 a, .int .i64 c, .int .i64 i]] w fun e w' => e = .returned (.tuple #[.int .u32 (putS 2483027968 0 26 (i / 4 % 4294967296)), .int .i64 0]) ∧ Below w.heap.size w w' := by
  have HCK := Lib.hid (fun w => (by have := rcheck_24 d n m a c i w; rw [hok] at this; exact this) : ∀ w, Calls Try.prog 83 #[.agg #[.int .i64 24, .int .i64 d, .int .i64 n, .int .i64 m, .int .i64 a, .int .i64 c, .int .i64 i]] w fun e w' => e = .returned (.int .i64 0) ∧ Below w.heap.size w w')
  simp only [ok_24, wi, wm, Bool.and_eq_true, decide_eq_true_eq, beq_iff_eq] at hok
  obtain ⟨h1, h2⟩ : (0 ≤ d ∧ d ≤ 31) ∧ (0 ≤ n ∧ n ≤ 31) := by omega
  obtain ⟨h3, h4⟩ : (0 ≤ m ∧ m ≤ 31) ∧ (0 ≤ a ∧ a ≤ 31) := by omega
  have h5 : 0 ≤ c ∧ c ≤ 15 := by omega
  obtain ⟨h1, h1'⟩ := h1
  obtain ⟨h2, h2'⟩ := h2
  obtain ⟨h3, h3'⟩ := h3
  obtain ⟨h4, h4'⟩ := h4
  obtain ⟨h5, h5'⟩ := h5
  have HOK := Lib.hid hok
  clear hok
  go_enter Try.func119, Try.ntmps119
  go_wp2_with fail
  refine (HCK.out _).mono ?_
  rintro e w1 ⟨rfl, hb⟩
  have HI1 := Lib.hid ((InsC.new w (.int .i64 24) (.int .i64 d) (.int .i64 n) (.int .i64 m) (.int .i64 a) (.int .i64 c) (.int .i64 i)).below' hb rfl)
  have HB1 : Hid (Below w.heap.size w w1) := Lib.hid (((Below.refl _ _).alloc (Nat.le_refl _) _).trans (hb.mono (by simp)))
  obtain ⟨hl, i0, i1, i2, i3, i4, i5, i6⟩ := HI1.out
  clear hb
  go_wp2_with fail
  refine (rbase_24 _).mono ?_
  rintro e w2 ⟨rfl, hb⟩
  have HI2 := Lib.hid (HI1.out.below' hb rfl)
  have HB2 := Lib.hid (HB1.out.trans (hb.mono HB1.out.size))
  clear hb hl i0 i1 i2 i3 i4 i5 i6 HI1 HB1
  obtain ⟨hl, i0, i1, i2, i3, i4, i5, i6⟩ := HI2.out
  have hi : -134217728 ≤ i ∧ i ≤ 134217724 := by have := HOK.out; omega
  obtain ⟨hi0, hi1⟩ := hi
  go_wp2
  go_ret2
  refine ⟨?_, HB2.out⟩
  rw [far_l 2483027968 i (by decide) (by decide) (by have := HOK.out; omega)]
  rfl
set_option maxRecDepth 100000 in
set_option maxHeartbeats 4000000 in
theorem rbase_28 (w : World) : Calls Try.prog 181 #[.int .i64 28] w fun e w' => e = .returned (.int .u32 4181721088) ∧ Below w.heap.size w w' := by
  go_enter Try.func181, Try.ntmps181
  go_wp2
  go_ret
  exact ⟨rfl, (Below.refl _ _).alloc (Nat.le_refl _) _⟩
set_option maxRecDepth 100000 in
set_option maxHeartbeats 4000000 in
theorem rword_28 (d n m a c i : Int) (w : World) (hok : ok_28 d n m a c i = true) : Calls Try.prog 119 #[.agg #[.int .i64 28, .int .i64 d, .int .i64 n, .int .i64 m, .int .i64 a, .int .i64 c, .int .i64 i]] w fun e w' => e = .returned (.tuple #[.int .u32 (putS (putS (putS 4181721088 10 12 (i / 8)) 5 5 n) 0 5 d), .int .i64 0]) ∧ Below w.heap.size w w' := by
  have HCK := Lib.hid (fun w => (by have := rcheck_28 d n m a c i w; rw [hok] at this; exact this) : ∀ w, Calls Try.prog 83 #[.agg #[.int .i64 28, .int .i64 d, .int .i64 n, .int .i64 m, .int .i64 a, .int .i64 c, .int .i64 i]] w fun e w' => e = .returned (.int .i64 0) ∧ Below w.heap.size w w')
  simp only [ok_28, wi, wm, Bool.and_eq_true, decide_eq_true_eq, beq_iff_eq] at hok
  obtain ⟨h1, h2⟩ : (0 ≤ d ∧ d ≤ 31) ∧ (0 ≤ n ∧ n ≤ 31) := by omega
  obtain ⟨h3, h4⟩ : (0 ≤ m ∧ m ≤ 31) ∧ (0 ≤ a ∧ a ≤ 31) := by omega
  have h5 : 0 ≤ c ∧ c ≤ 15 := by omega
  obtain ⟨h1, h1'⟩ := h1
  obtain ⟨h2, h2'⟩ := h2
  obtain ⟨h3, h3'⟩ := h3
  obtain ⟨h4, h4'⟩ := h4
  obtain ⟨h5, h5'⟩ := h5
  have HOK := Lib.hid hok
  clear hok
  go_enter Try.func119, Try.ntmps119
  go_wp2_with fail
  refine (HCK.out _).mono ?_
  rintro e w1 ⟨rfl, hb⟩
  have HI1 := Lib.hid ((InsC.new w (.int .i64 28) (.int .i64 d) (.int .i64 n) (.int .i64 m) (.int .i64 a) (.int .i64 c) (.int .i64 i)).below' hb rfl)
  have HB1 : Hid (Below w.heap.size w w1) := Lib.hid (((Below.refl _ _).alloc (Nat.le_refl _) _).trans (hb.mono (by simp)))
  obtain ⟨hl, i0, i1, i2, i3, i4, i5, i6⟩ := HI1.out
  clear hb
  go_wp2_with fail
  refine (rbase_28 _).mono ?_
  rintro e w2 ⟨rfl, hb⟩
  have HI2 := Lib.hid (HI1.out.below' hb rfl)
  have HB2 := Lib.hid (HB1.out.trans (hb.mono HB1.out.size))
  clear hb hl i0 i1 i2 i3 i4 i5 i6 HI1 HB1
  obtain ⟨hl, i0, i1, i2, i3, i4, i5, i6⟩ := HI2.out
  have hi : 0 ≤ i ∧ i ≤ 32760 := by have := HOK.out; omega
  obtain ⟨hi0, hi1⟩ := hi
  go_wp2
  go_ret2
  refine ⟨?_, HB2.out⟩
  rw [or_10_12 4181721088 (i / 8) (by decide : (0 : Int) ≤ 4181721088 ∧ (4181721088 : Int) < 4294967296) (by omega) (by have := HOK.out; omega) (by decide), or_5_5 (putS 4181721088 10 12 (i / 8)) n (putS_lt 4181721088 10 12 (i / 8) (by decide : (0 : Int) ≤ 4181721088 ∧ (4181721088 : Int) < 4294967296).1 (by decide : (0 : Int) ≤ 4181721088 ∧ (4181721088 : Int) < 4294967296).2) (by omega) (by have := HOK.out; omega) (zput 4181721088 (i / 8) 10 12 5 5 (by decide : (0 : Int) ≤ 4181721088 ∧ (4181721088 : Int) < 4294967296) (by decide) (by decide) (by decide) (by decide)), or_0_5 (putS (putS 4181721088 10 12 (i / 8)) 5 5 n) d (putS_lt (putS 4181721088 10 12 (i / 8)) 5 5 n (putS_lt 4181721088 10 12 (i / 8) (by decide : (0 : Int) ≤ 4181721088 ∧ (4181721088 : Int) < 4294967296).1 (by decide : (0 : Int) ≤ 4181721088 ∧ (4181721088 : Int) < 4294967296).2).1 (putS_lt 4181721088 10 12 (i / 8) (by decide : (0 : Int) ≤ 4181721088 ∧ (4181721088 : Int) < 4294967296).1 (by decide : (0 : Int) ≤ 4181721088 ∧ (4181721088 : Int) < 4294967296).2).2) (by omega) (by have := HOK.out; omega) (zput (putS 4181721088 10 12 (i / 8)) n 5 5 0 5 (putS_lt 4181721088 10 12 (i / 8) (by decide : (0 : Int) ≤ 4181721088 ∧ (4181721088 : Int) < 4294967296).1 (by decide : (0 : Int) ≤ 4181721088 ∧ (4181721088 : Int) < 4294967296).2) (by decide) (by decide) (by decide) (zput 4181721088 (i / 8) 10 12 0 5 (by decide : (0 : Int) ≤ 4181721088 ∧ (4181721088 : Int) < 4294967296) (by decide) (by decide) (by decide) (by decide)))]
  rfl
set_option maxRecDepth 100000 in
set_option maxHeartbeats 4000000 in
theorem rbase_32 (w : World) : Calls Try.prog 181 #[.int .i64 32] w fun e w' => e = .returned (.int .u32 4162877440) ∧ Below w.heap.size w w' := by
  go_enter Try.func181, Try.ntmps181
  go_wp2
  go_ret
  exact ⟨rfl, (Below.refl _ _).alloc (Nat.le_refl _) _⟩
set_option maxRecDepth 100000 in
set_option maxHeartbeats 4000000 in
theorem rword_32 (d n m a c i : Int) (w : World) (hok : ok_32 d n m a c i = true) : Calls Try.prog 119 #[.agg #[.int .i64 32, .int .i64 d, .int .i64 n, .int .i64 m, .int .i64 a, .int .i64 c, .int .i64 i]] w fun e w' => e = .returned (.tuple #[.int .u32 (putS (putS (putS 4162877440 16 5 m) 5 5 n) 0 5 d), .int .i64 0]) ∧ Below w.heap.size w w' := by
  have HCK := Lib.hid (fun w => (by have := rcheck_32 d n m a c i w; rw [hok] at this; exact this) : ∀ w, Calls Try.prog 83 #[.agg #[.int .i64 32, .int .i64 d, .int .i64 n, .int .i64 m, .int .i64 a, .int .i64 c, .int .i64 i]] w fun e w' => e = .returned (.int .i64 0) ∧ Below w.heap.size w w')
  simp only [ok_32, wi, Bool.and_eq_true, decide_eq_true_eq, beq_iff_eq] at hok
  obtain ⟨h1, h2⟩ : (0 ≤ d ∧ d ≤ 31) ∧ (0 ≤ n ∧ n ≤ 31) := by omega
  obtain ⟨h3, h4⟩ : (0 ≤ m ∧ m ≤ 31) ∧ (0 ≤ a ∧ a ≤ 31) := by omega
  have h5 : 0 ≤ c ∧ c ≤ 15 := by omega
  obtain ⟨h1, h1'⟩ := h1
  obtain ⟨h2, h2'⟩ := h2
  obtain ⟨h3, h3'⟩ := h3
  obtain ⟨h4, h4'⟩ := h4
  obtain ⟨h5, h5'⟩ := h5
  have HOK := Lib.hid hok
  clear hok
  go_enter Try.func119, Try.ntmps119
  go_wp2_with fail
  refine (HCK.out _).mono ?_
  rintro e w1 ⟨rfl, hb⟩
  have HI1 := Lib.hid ((InsC.new w (.int .i64 32) (.int .i64 d) (.int .i64 n) (.int .i64 m) (.int .i64 a) (.int .i64 c) (.int .i64 i)).below' hb rfl)
  have HB1 : Hid (Below w.heap.size w w1) := Lib.hid (((Below.refl _ _).alloc (Nat.le_refl _) _).trans (hb.mono (by simp)))
  obtain ⟨hl, i0, i1, i2, i3, i4, i5, i6⟩ := HI1.out
  clear hb
  go_wp2_with fail
  refine (rbase_32 _).mono ?_
  rintro e w2 ⟨rfl, hb⟩
  have HI2 := Lib.hid (HI1.out.below' hb rfl)
  have HB2 := Lib.hid (HB1.out.trans (hb.mono HB1.out.size))
  clear hb hl i0 i1 i2 i3 i4 i5 i6 HI1 HB1
  obtain ⟨hl, i0, i1, i2, i3, i4, i5, i6⟩ := HI2.out
  go_wp2
  go_ret2
  refine ⟨?_, HB2.out⟩
  rw [or_16_5 4162877440 m (by decide : (0 : Int) ≤ 4162877440 ∧ (4162877440 : Int) < 4294967296) (by omega) (by have := HOK.out; omega) (by decide), or_5_5 (putS 4162877440 16 5 m) n (putS_lt 4162877440 16 5 m (by decide : (0 : Int) ≤ 4162877440 ∧ (4162877440 : Int) < 4294967296).1 (by decide : (0 : Int) ≤ 4162877440 ∧ (4162877440 : Int) < 4294967296).2) (by omega) (by have := HOK.out; omega) (zput 4162877440 m 16 5 5 5 (by decide : (0 : Int) ≤ 4162877440 ∧ (4162877440 : Int) < 4294967296) (by decide) (by decide) (by decide) (by decide)), or_0_5 (putS (putS 4162877440 16 5 m) 5 5 n) d (putS_lt (putS 4162877440 16 5 m) 5 5 n (putS_lt 4162877440 16 5 m (by decide : (0 : Int) ≤ 4162877440 ∧ (4162877440 : Int) < 4294967296).1 (by decide : (0 : Int) ≤ 4162877440 ∧ (4162877440 : Int) < 4294967296).2).1 (putS_lt 4162877440 16 5 m (by decide : (0 : Int) ≤ 4162877440 ∧ (4162877440 : Int) < 4294967296).1 (by decide : (0 : Int) ≤ 4162877440 ∧ (4162877440 : Int) < 4294967296).2).2) (by omega) (by have := HOK.out; omega) (zput (putS 4162877440 16 5 m) n 5 5 0 5 (putS_lt 4162877440 16 5 m (by decide : (0 : Int) ≤ 4162877440 ∧ (4162877440 : Int) < 4294967296).1 (by decide : (0 : Int) ≤ 4162877440 ∧ (4162877440 : Int) < 4294967296).2) (by decide) (by decide) (by decide) (zput 4162877440 m 16 5 0 5 (by decide : (0 : Int) ≤ 4162877440 ∧ (4162877440 : Int) < 4294967296) (by decide) (by decide) (by decide) (by decide)))]
  rfl
set_option maxRecDepth 100000 in
set_option maxHeartbeats 4000000 in
theorem rbase_36 (w : World) : Calls Try.prog 181 #[.int .i64 36] w fun e w' => e = .returned (.int .u32 3355474944) ∧ Below w.heap.size w w' := by
  go_enter Try.func181, Try.ntmps181
  go_wp2
  go_ret
  exact ⟨rfl, (Below.refl _ _).alloc (Nat.le_refl _) _⟩
set_option maxRecDepth 100000 in
set_option maxHeartbeats 4000000 in
theorem rword_36 (d n m a c i : Int) (w : World) (hok : ok_36 d n m a c i = true) : Calls Try.prog 119 #[.agg #[.int .i64 36, .int .i64 d, .int .i64 n, .int .i64 m, .int .i64 a, .int .i64 c, .int .i64 i]] w fun e w' => e = .returned (.tuple #[.int .u32 (putS (putS (putS 3355474944 16 5 d) 5 5 n) 0 5 m), .int .i64 0]) ∧ Below w.heap.size w w' := by
  have HCK := Lib.hid (fun w => (by have := rcheck_36 d n m a c i w; rw [hok] at this; exact this) : ∀ w, Calls Try.prog 83 #[.agg #[.int .i64 36, .int .i64 d, .int .i64 n, .int .i64 m, .int .i64 a, .int .i64 c, .int .i64 i]] w fun e w' => e = .returned (.int .i64 0) ∧ Below w.heap.size w w')
  simp only [ok_36, wi, Bool.and_eq_true, decide_eq_true_eq, beq_iff_eq] at hok
  obtain ⟨h1, h2⟩ : (0 ≤ d ∧ d ≤ 31) ∧ (0 ≤ n ∧ n ≤ 31) := by omega
  obtain ⟨h3, h4⟩ : (0 ≤ m ∧ m ≤ 31) ∧ (0 ≤ a ∧ a ≤ 31) := by omega
  have h5 : 0 ≤ c ∧ c ≤ 15 := by omega
  obtain ⟨h1, h1'⟩ := h1
  obtain ⟨h2, h2'⟩ := h2
  obtain ⟨h3, h3'⟩ := h3
  obtain ⟨h4, h4'⟩ := h4
  obtain ⟨h5, h5'⟩ := h5
  have HOK := Lib.hid hok
  clear hok
  go_enter Try.func119, Try.ntmps119
  go_wp2_with fail
  refine (HCK.out _).mono ?_
  rintro e w1 ⟨rfl, hb⟩
  have HI1 := Lib.hid ((InsC.new w (.int .i64 36) (.int .i64 d) (.int .i64 n) (.int .i64 m) (.int .i64 a) (.int .i64 c) (.int .i64 i)).below' hb rfl)
  have HB1 : Hid (Below w.heap.size w w1) := Lib.hid (((Below.refl _ _).alloc (Nat.le_refl _) _).trans (hb.mono (by simp)))
  obtain ⟨hl, i0, i1, i2, i3, i4, i5, i6⟩ := HI1.out
  clear hb
  go_wp2_with fail
  refine (rbase_36 _).mono ?_
  rintro e w2 ⟨rfl, hb⟩
  have HI2 := Lib.hid (HI1.out.below' hb rfl)
  have HB2 := Lib.hid (HB1.out.trans (hb.mono HB1.out.size))
  clear hb hl i0 i1 i2 i3 i4 i5 i6 HI1 HB1
  obtain ⟨hl, i0, i1, i2, i3, i4, i5, i6⟩ := HI2.out
  go_wp2
  go_ret2
  refine ⟨?_, HB2.out⟩
  rw [or_16_5 3355474944 d (by decide : (0 : Int) ≤ 3355474944 ∧ (3355474944 : Int) < 4294967296) (by omega) (by have := HOK.out; omega) (by decide), or_5_5 (putS 3355474944 16 5 d) n (putS_lt 3355474944 16 5 d (by decide : (0 : Int) ≤ 3355474944 ∧ (3355474944 : Int) < 4294967296).1 (by decide : (0 : Int) ≤ 3355474944 ∧ (3355474944 : Int) < 4294967296).2) (by omega) (by have := HOK.out; omega) (zput 3355474944 d 16 5 5 5 (by decide : (0 : Int) ≤ 3355474944 ∧ (3355474944 : Int) < 4294967296) (by decide) (by decide) (by decide) (by decide)), or_0_5 (putS (putS 3355474944 16 5 d) 5 5 n) m (putS_lt (putS 3355474944 16 5 d) 5 5 n (putS_lt 3355474944 16 5 d (by decide : (0 : Int) ≤ 3355474944 ∧ (3355474944 : Int) < 4294967296).1 (by decide : (0 : Int) ≤ 3355474944 ∧ (3355474944 : Int) < 4294967296).2).1 (putS_lt 3355474944 16 5 d (by decide : (0 : Int) ≤ 3355474944 ∧ (3355474944 : Int) < 4294967296).1 (by decide : (0 : Int) ≤ 3355474944 ∧ (3355474944 : Int) < 4294967296).2).2) (by omega) (by have := HOK.out; omega) (zput (putS 3355474944 16 5 d) n 5 5 0 5 (putS_lt 3355474944 16 5 d (by decide : (0 : Int) ≤ 3355474944 ∧ (3355474944 : Int) < 4294967296).1 (by decide : (0 : Int) ≤ 3355474944 ∧ (3355474944 : Int) < 4294967296).2) (by decide) (by decide) (by decide) (zput 3355474944 d 16 5 0 5 (by decide : (0 : Int) ≤ 3355474944 ∧ (3355474944 : Int) < 4294967296) (by decide) (by decide) (by decide) (by decide)))]
  rfl
set_option maxRecDepth 100000 in
set_option maxHeartbeats 4000000 in
theorem rbase_40 (w : World) : Calls Try.prog 181 #[.int .i64 40] w fun e w' => e = .returned (.int .u32 3574299424) ∧ Below w.heap.size w w' := by
  go_enter Try.func181, Try.ntmps181
  go_wp2
  go_ret
  exact ⟨rfl, (Below.refl _ _).alloc (Nat.le_refl _) _⟩
set_option maxRecDepth 100000 in
set_option maxHeartbeats 4000000 in
theorem rword_40 (d n m a c i : Int) (w : World) (hok : ok_40 d n m a c i = true) : Calls Try.prog 119 #[.agg #[.int .i64 40, .int .i64 d, .int .i64 n, .int .i64 m, .int .i64 a, .int .i64 c, .int .i64 i]] w fun e w' => e = .returned (.tuple #[.int .u32 (putS 3574299424 0 5 n), .int .i64 0]) ∧ Below w.heap.size w w' := by
  have HCK := Lib.hid (fun w => (by have := rcheck_40 d n m a c i w; rw [hok] at this; exact this) : ∀ w, Calls Try.prog 83 #[.agg #[.int .i64 40, .int .i64 d, .int .i64 n, .int .i64 m, .int .i64 a, .int .i64 c, .int .i64 i]] w fun e w' => e = .returned (.int .i64 0) ∧ Below w.heap.size w w')
  simp only [ok_40, wi, Bool.and_eq_true, decide_eq_true_eq, beq_iff_eq] at hok
  obtain ⟨h1, h2⟩ : (0 ≤ d ∧ d ≤ 31) ∧ (0 ≤ n ∧ n ≤ 31) := by omega
  obtain ⟨h3, h4⟩ : (0 ≤ m ∧ m ≤ 31) ∧ (0 ≤ a ∧ a ≤ 31) := by omega
  have h5 : 0 ≤ c ∧ c ≤ 15 := by omega
  obtain ⟨h1, h1'⟩ := h1
  obtain ⟨h2, h2'⟩ := h2
  obtain ⟨h3, h3'⟩ := h3
  obtain ⟨h4, h4'⟩ := h4
  obtain ⟨h5, h5'⟩ := h5
  have HOK := Lib.hid hok
  clear hok
  go_enter Try.func119, Try.ntmps119
  go_wp2_with fail
  refine (HCK.out _).mono ?_
  rintro e w1 ⟨rfl, hb⟩
  have HI1 := Lib.hid ((InsC.new w (.int .i64 40) (.int .i64 d) (.int .i64 n) (.int .i64 m) (.int .i64 a) (.int .i64 c) (.int .i64 i)).below' hb rfl)
  have HB1 : Hid (Below w.heap.size w w1) := Lib.hid (((Below.refl _ _).alloc (Nat.le_refl _) _).trans (hb.mono (by simp)))
  obtain ⟨hl, i0, i1, i2, i3, i4, i5, i6⟩ := HI1.out
  clear hb
  go_wp2_with fail
  refine (rbase_40 _).mono ?_
  rintro e w2 ⟨rfl, hb⟩
  have HI2 := Lib.hid (HI1.out.below' hb rfl)
  have HB2 := Lib.hid (HB1.out.trans (hb.mono HB1.out.size))
  clear hb hl i0 i1 i2 i3 i4 i5 i6 HI1 HB1
  obtain ⟨hl, i0, i1, i2, i3, i4, i5, i6⟩ := HI2.out
  go_wp2
  go_ret2
  refine ⟨?_, HB2.out⟩
  rw [or_0_5 3574299424 n (by decide : (0 : Int) ≤ 3574299424 ∧ (3574299424 : Int) < 4294967296) (by omega) (by have := HOK.out; omega) (by decide)]
  rfl
end Go.Proofs.Ytnbpgoacooddjaa.En
