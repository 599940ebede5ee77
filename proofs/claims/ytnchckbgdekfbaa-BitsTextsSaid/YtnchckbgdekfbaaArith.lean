import Derived.Test.YtnchckbgdekfbaaRows
import Derived.Test.YtnchckbgdekfbaaMath
import Derived.WalkKit
import Derived.ProofKit
import Derived.OpenShut
import Derived.Deep.QuietTactic
import Derived.BigQuiet
import Derived.StillTailTactics
import Derived.Outline
import Derived.Lib.Hide
namespace Go.Proofs.Ytnchckbgdekfbaa
open Go.ChangeShapes Go.WideShapes Go.ChangeAt Go.RowKit
set_option linter.unusedVariables false

theorem ret_int {k : IntKind} {a b : Int} (h : a = b) : Ending.returned (.int k a) = .returned (.int k b) := by rw [h]
theorem ret_bool {a b : Bool} (h : a = b) : Ending.returned (.bool a) = .returned (.bool b) := by rw [h]

theorem shift_c (a b k : Int) (w : World) (ha : 0 ≤ a) (ha' : a < 18446744073709551616) (hb : 0 ≤ b) (hb' : b < 18446744073709551616) :
    Calls Try.prog 23 #[.int .u64 a, .int .u64 b, .int .i64 k] w fun e w' => e = .returned (.int .u64 (shS k a (b % 64).toNat)) ∧ w = w' := by
  obtain ⟨n, hn, hm, hmin⟩ : ∃ n : Nat, bits .and .u64 b 63 = (n : Int) ∧ (b % 64).toNat = n ∧ min n 64 = n := ⟨(b % 64).toNat, by rw [and63 b hb hb']; omega, rfl, by omega⟩
  rw [hm]
  clear hm
  have HW := Lib.hid (wrap64_sgn a ha ha')
  by_cases h0 : k = 0
  · subst h0
    go_enter Try.func23, Try.ntmps23
    go_wp2
    go_ret
    exact ⟨ret_int (by simp [shS, IntKind.wrap_u64]), rfl⟩
  · by_cases h1 : k = 1
    · subst h1
      go_enter Try.func23, Try.ntmps23
      go_wp2
      go_ret
      exact ⟨ret_int (by simp [shS]), rfl⟩
    · by_cases h2 : k = 2
      · subst h2
        go_enter Try.func23, Try.ntmps23
        go_wp2
        go_ret
        exact ⟨ret_int (by simp [shS, IntKind.wrap_u64, HW.out]), rfl⟩
      · go_enter Try.func23, Try.ntmps23
        go_wp2
        go_ret
        exact ⟨ret_int (by simp [shS, h0, h1, h2]), rfl⟩

theorem rshift_c (a b k : Int) (w : World) (ha : 0 ≤ a) (ha' : a < 18446744073709551616) (hb : 0 ≤ b) (hb' : b < 18446744073709551616) :
    Calls Try.prog 24 #[.int .u64 a, .int .u64 b, .int .i64 k] w fun e w' => e = .returned (.int .u64 (shS k a (b % 64).toNat)) ∧ w = w' := by
  obtain ⟨n, hn, hm, hlt⟩ : ∃ n : Nat, bits .and .u64 b 63 = (n : Int) ∧ (b % 64).toNat = n ∧ n < 64 := ⟨(b % 64).toNat, by rw [and63 b hb hb']; omega, rfl, by omega⟩
  rw [hm]
  clear hm
  have HZ := shS_zero k a ha ha'
  go_enter Try.func24, Try.ntmps24
  go_wp2
  go_loop [0, 7] (fun t i => ∃ j : Nat, j ≤ n ∧ i = .int .u64 j ∧ t = .int .u64 (shS k a j)) (fun _ i => n - (intOf i).toNat)
  case atStart => exact ⟨0, by omega, rfl, by rw [HZ]⟩
  case round =>
    obtain ⟨j, hj, rfl, rfl⟩ := hrel
    have hr := shS_range k a j ha ha'
    clear HZ
    have c1 := Lib.hid (step_shl a j ha ha')
    have c2 := Lib.hid (step_shr a j ha ha')
    have c3 := Lib.hid (step_sar a j ha ha')
    have c4 := fun x y z => Lib.hid (step_oth k a j x y z)
    by_cases hlt : j < n
    · by_cases h0 : k = 0
      · subst h0
        go_wp2
        go_round
        case rel => exact ⟨j + 1, by omega, by go_num, by rw [c1.out]⟩
        case measure => simp [intOf]; omega
      · by_cases h1 : k = 1
        · subst h1
          go_wp2
          go_round
          case rel => exact ⟨j + 1, by omega, by go_num, by rw [c2.out]⟩
          case measure => simp [intOf]; omega
        · by_cases h2 : k = 2
          · subst h2
            go_wp2
            go_round
            case rel => exact ⟨j + 1, by omega, by go_num, by rw [c3.out]⟩
            case measure => simp [intOf]; omega
          · go_wp2
            go_round
            case rel => exact ⟨j + 1, by omega, by go_num, by rw [(c4 h0 h1 h2).out]⟩
            case measure => simp [intOf]; omega
    · obtain rfl : j = n := by omega
      go_wp2
      go_ret
      exact ⟨rfl, rfl⟩

set_option maxHeartbeats 1000000 in
theorem rdiv_pp (a b : Int) (w : World) (hx : 0 ≤ a) (hx' : a < 9223372036854775808) (hy : 0 < b) (hy' : b < 9223372036854775808) : Calls Try.prog 20 #[.int .i64 a, .int .i64 b] w fun e w' => e = .returned (.int .i64 (divS a b)) ∧ w = w' := by
  obtain ⟨X, HX, HA⟩ : ∃ X : Nat, Hid (a = (X : Int)) ∧ Hid (a = (X : Int)) := ⟨a.toNat, Lib.hid (by omega), Lib.hid (by omega)⟩
  have hda : decide (a < 0) = false := decide_eq_false (by omega)
  obtain ⟨Y, HY, HB⟩ : ∃ Y : Nat, Hid (b = (Y : Int)) ∧ Hid (b = (Y : Int)) := ⟨b.toNat, Lib.hid (by omega), Lib.hid (by omega)⟩
  have hdb : decide (b < 0) = false := decide_eq_false (by omega)
  have hy1 : 0 < b := hy
  have HYP : Hid (0 < Y) := Lib.hid (by have := HY.out; omega)
  have HXL : Hid (X < 18446744073709551616) := Lib.hid (by have := HX.out; omega)
  have HYL : Hid (Y < 18446744073709551616) := Lib.hid (by have := HY.out; omega)
  have HE : Hid (divS a b = wrap64 (((X / Y : Nat) : Int))) := Lib.hid (by rw [HA.out, HB.out]; exact divS_pp X Y HYP.out)
  go_enter Try.func20, Try.ntmps20
  go_wp2
  go_loop [7, 8, 9, 10] (fun q r i o => ∃ (j : Nat) (q' r' : Int), j ≤ 64 ∧ DivRel X Y j q' r' ∧ i = .int .i64 ((j : Int) - 1) ∧ q = .int .u64 q' ∧ r = .int .u64 r') (fun _ _ i _ => (intOf i + 1).toNat)
  case atStart => exact ⟨64, 0, 0, by omega, DivRel.start X Y HXL.out, rfl, rfl, rfl⟩
  case round =>
    obtain ⟨j, q, r, hj, hD, rfl, rfl, rfl⟩ := hrel
    have hrb := hD.rb _ _ _ _ _ HYP.out
    have hqb := hD.qb
    have hr2 : r < 18446744073709551616 := by have := HYL.out; omega
    have hq2 : q < 18446744073709551616 := by have := HXL.out; omega
    have hr3 := hrb.1
    have hq3 := hqb.1
    have HQB := Lib.hid hqb.2
    clear hrb hqb
    by_cases hlt : 1 ≤ j
    · obtain ⟨m, rfl⟩ : ∃ m : Nat, j = m + 1 := ⟨j - 1, by omega⟩
      obtain ⟨t, ht, htb, hc1, hc2⟩ := div_round X Y m HYP.out HXL.out HYL.out (by omega) q r hD
      rw [← HX.out] at ht
      rw [← HY.out] at hc1 hc2
      have H1 := Lib.hid hc1
      have H2 := Lib.hid hc2
      clear hc1 hc2 hD
      by_cases hov : r / 9223372036854775808 = 1
      · go_wp2
        go_round
        case rel => exact ⟨m, _, _, by omega, H1.out (Or.inl hov), by go_num, rfl, rfl⟩
        case measure => simp only [intOf]; omega
      · rw [show IntKind.u64.wrap (r * 2) = r * 2 by rw [IntKind.wrap_u64]; omega] at ht
        have hov' : (r / 9223372036854775808 == 1) = false := by simpa using hov
        by_cases hle : b ≤ t
        · have H3 := Lib.hid (H1.out (Or.inr hle))
          rw [show IntKind.u64.wrap (t - b) = t - b by rw [IntKind.wrap_u64]; omega] at H3
          go_wp2
          go_round
          case rel => exact ⟨m, _, _, by omega, H3.out, by go_num, rfl, rfl⟩
          case measure => simp only [intOf]; omega
        · have hle' : decide (b ≤ t) = false := decide_eq_false hle
          go_wp2
          go_round
          case rel => exact ⟨m, _, _, by omega, H2.out (by omega), by go_num, rfl, rfl⟩
          case measure => simp only [intOf]; omega
    · obtain rfl : j = 0 := by omega
      have HQ := Lib.hid (hD.last)
      clear hD
      go_wp2
      go_ret
      exact ⟨ret_int (by rw [HE.out, ← HQ.out]; try (unfold wrap64; simp only [IntKind.wrap_u64]; have := HXL.out; have := HQB.out; omega)), rfl⟩
set_option maxHeartbeats 1000000 in
theorem rdiv_pn (a b : Int) (w : World) (hx : 0 ≤ a) (hx' : a < 9223372036854775808) (hy : -9223372036854775808 ≤ b) (hy' : b < 0) : Calls Try.prog 20 #[.int .i64 a, .int .i64 b] w fun e w' => e = .returned (.int .i64 (divS a b)) ∧ w = w' := by
  obtain ⟨X, HX, HA⟩ : ∃ X : Nat, Hid (a = (X : Int)) ∧ Hid (a = (X : Int)) := ⟨a.toNat, Lib.hid (by omega), Lib.hid (by omega)⟩
  have hda : decide (a < 0) = false := decide_eq_false (by omega)
  obtain ⟨y, hyw, hy0, hy1, HYB⟩ : ∃ y : Int, IntKind.u64.wrap (-IntKind.u64.wrap b) = y ∧ y < 18446744073709551616 ∧ 0 < y ∧ Hid (y = -b) := ⟨-b, by simp only [IntKind.wrap_u64]; omega, by omega, by omega, Lib.hid rfl⟩
  obtain ⟨Y, HY, HB⟩ : ∃ Y : Nat, Hid (y = (Y : Int)) ∧ Hid (b = -(Y : Int)) := ⟨y.toNat, Lib.hid (by omega), Lib.hid (by have := HYB.out; omega)⟩
  have hdb : decide (b < 0) = true := decide_eq_true (by omega)
  have HYP : Hid (0 < Y) := Lib.hid (by have := HY.out; omega)
  have HXL : Hid (X < 18446744073709551616) := Lib.hid (by have := HX.out; omega)
  have HYL : Hid (Y < 18446744073709551616) := Lib.hid (by have := HY.out; omega)
  have HE : Hid (divS a b = wrap64 (-((X / Y : Nat) : Int))) := Lib.hid (by rw [HA.out, HB.out]; exact divS_pn X Y HYP.out)
  go_enter Try.func20, Try.ntmps20
  go_wp2
  go_loop [7, 8, 9, 10] (fun q r i o => ∃ (j : Nat) (q' r' : Int), j ≤ 64 ∧ DivRel X Y j q' r' ∧ i = .int .i64 ((j : Int) - 1) ∧ q = .int .u64 q' ∧ r = .int .u64 r') (fun _ _ i _ => (intOf i + 1).toNat)
  case atStart => exact ⟨64, 0, 0, by omega, DivRel.start X Y HXL.out, rfl, rfl, rfl⟩
  case round =>
    obtain ⟨j, q, r, hj, hD, rfl, rfl, rfl⟩ := hrel
    have hrb := hD.rb _ _ _ _ _ HYP.out
    have hqb := hD.qb
    have hr2 : r < 18446744073709551616 := by have := HYL.out; omega
    have hq2 : q < 18446744073709551616 := by have := HXL.out; omega
    have hr3 := hrb.1
    have hq3 := hqb.1
    have HQB := Lib.hid hqb.2
    clear hrb hqb
    by_cases hlt : 1 ≤ j
    · obtain ⟨m, rfl⟩ : ∃ m : Nat, j = m + 1 := ⟨j - 1, by omega⟩
      obtain ⟨t, ht, htb, hc1, hc2⟩ := div_round X Y m HYP.out HXL.out HYL.out (by omega) q r hD
      rw [← HX.out] at ht
      rw [← HY.out] at hc1 hc2
      have H1 := Lib.hid hc1
      have H2 := Lib.hid hc2
      clear hc1 hc2 hD
      by_cases hov : r / 9223372036854775808 = 1
      · go_wp2
        go_round
        case rel => exact ⟨m, _, _, by omega, H1.out (Or.inl hov), by go_num, rfl, rfl⟩
        case measure => simp only [intOf]; omega
      · rw [show IntKind.u64.wrap (r * 2) = r * 2 by rw [IntKind.wrap_u64]; omega] at ht
        have hov' : (r / 9223372036854775808 == 1) = false := by simpa using hov
        by_cases hle : y ≤ t
        · have H3 := Lib.hid (H1.out (Or.inr hle))
          rw [show IntKind.u64.wrap (t - y) = t - y by rw [IntKind.wrap_u64]; omega] at H3
          go_wp2
          go_round
          case rel => exact ⟨m, _, _, by omega, H3.out, by go_num, rfl, rfl⟩
          case measure => simp only [intOf]; omega
        · have hle' : decide (y ≤ t) = false := decide_eq_false hle
          go_wp2
          go_round
          case rel => exact ⟨m, _, _, by omega, H2.out (by omega), by go_num, rfl, rfl⟩
          case measure => simp only [intOf]; omega
    · obtain rfl : j = 0 := by omega
      have HQ := Lib.hid (hD.last)
      clear hD
      go_wp2
      go_ret
      exact ⟨ret_int (by rw [HE.out, ← HQ.out]; try (unfold wrap64; simp only [IntKind.wrap_u64]; have := HXL.out; have := HQB.out; omega)), rfl⟩
set_option maxHeartbeats 1000000 in
theorem rdiv_np (a b : Int) (w : World) (hx : -9223372036854775808 ≤ a) (hx' : a < 0) (hy : 0 < b) (hy' : b < 9223372036854775808) : Calls Try.prog 20 #[.int .i64 a, .int .i64 b] w fun e w' => e = .returned (.int .i64 (divS a b)) ∧ w = w' := by
  obtain ⟨x, hxw, hx0, hx1, HXA⟩ : ∃ x : Int, IntKind.u64.wrap (-IntKind.u64.wrap a) = x ∧ 0 ≤ x ∧ x < 18446744073709551616 ∧ Hid (x = -a) := ⟨-a, by simp only [IntKind.wrap_u64]; omega, by omega, by omega, Lib.hid rfl⟩
  obtain ⟨X, HX, HA⟩ : ∃ X : Nat, Hid (x = (X : Int)) ∧ Hid (a = -(X : Int)) := ⟨x.toNat, Lib.hid (by omega), Lib.hid (by have := HXA.out; omega)⟩
  have hda : decide (a < 0) = true := decide_eq_true (by omega)
  obtain ⟨Y, HY, HB⟩ : ∃ Y : Nat, Hid (b = (Y : Int)) ∧ Hid (b = (Y : Int)) := ⟨b.toNat, Lib.hid (by omega), Lib.hid (by omega)⟩
  have hdb : decide (b < 0) = false := decide_eq_false (by omega)
  have hy1 : 0 < b := hy
  have HYP : Hid (0 < Y) := Lib.hid (by have := HY.out; omega)
  have HXL : Hid (X < 18446744073709551616) := Lib.hid (by have := HX.out; omega)
  have HYL : Hid (Y < 18446744073709551616) := Lib.hid (by have := HY.out; omega)
  have HE : Hid (divS a b = wrap64 (-((X / Y : Nat) : Int))) := Lib.hid (by rw [HA.out, HB.out]; exact divS_np X Y HYP.out)
  go_enter Try.func20, Try.ntmps20
  go_wp2
  go_loop [7, 8, 9, 10] (fun q r i o => ∃ (j : Nat) (q' r' : Int), j ≤ 64 ∧ DivRel X Y j q' r' ∧ i = .int .i64 ((j : Int) - 1) ∧ q = .int .u64 q' ∧ r = .int .u64 r') (fun _ _ i _ => (intOf i + 1).toNat)
  case atStart => exact ⟨64, 0, 0, by omega, DivRel.start X Y HXL.out, rfl, rfl, rfl⟩
  case round =>
    obtain ⟨j, q, r, hj, hD, rfl, rfl, rfl⟩ := hrel
    have hrb := hD.rb _ _ _ _ _ HYP.out
    have hqb := hD.qb
    have hr2 : r < 18446744073709551616 := by have := HYL.out; omega
    have hq2 : q < 18446744073709551616 := by have := HXL.out; omega
    have hr3 := hrb.1
    have hq3 := hqb.1
    have HQB := Lib.hid hqb.2
    clear hrb hqb
    by_cases hlt : 1 ≤ j
    · obtain ⟨m, rfl⟩ : ∃ m : Nat, j = m + 1 := ⟨j - 1, by omega⟩
      obtain ⟨t, ht, htb, hc1, hc2⟩ := div_round X Y m HYP.out HXL.out HYL.out (by omega) q r hD
      rw [← HX.out] at ht
      rw [← HY.out] at hc1 hc2
      have H1 := Lib.hid hc1
      have H2 := Lib.hid hc2
      clear hc1 hc2 hD
      by_cases hov : r / 9223372036854775808 = 1
      · go_wp2
        go_round
        case rel => exact ⟨m, _, _, by omega, H1.out (Or.inl hov), by go_num, rfl, rfl⟩
        case measure => simp only [intOf]; omega
      · rw [show IntKind.u64.wrap (r * 2) = r * 2 by rw [IntKind.wrap_u64]; omega] at ht
        have hov' : (r / 9223372036854775808 == 1) = false := by simpa using hov
        by_cases hle : b ≤ t
        · have H3 := Lib.hid (H1.out (Or.inr hle))
          rw [show IntKind.u64.wrap (t - b) = t - b by rw [IntKind.wrap_u64]; omega] at H3
          go_wp2
          go_round
          case rel => exact ⟨m, _, _, by omega, H3.out, by go_num, rfl, rfl⟩
          case measure => simp only [intOf]; omega
        · have hle' : decide (b ≤ t) = false := decide_eq_false hle
          go_wp2
          go_round
          case rel => exact ⟨m, _, _, by omega, H2.out (by omega), by go_num, rfl, rfl⟩
          case measure => simp only [intOf]; omega
    · obtain rfl : j = 0 := by omega
      have HQ := Lib.hid (hD.last)
      clear hD
      go_wp2
      go_ret
      exact ⟨ret_int (by rw [HE.out, ← HQ.out]; try (unfold wrap64; simp only [IntKind.wrap_u64]; have := HXL.out; have := HQB.out; omega)), rfl⟩
set_option maxHeartbeats 1000000 in
theorem rdiv_nn (a b : Int) (w : World) (hx : -9223372036854775808 ≤ a) (hx' : a < 0) (hy : -9223372036854775808 ≤ b) (hy' : b < 0) : Calls Try.prog 20 #[.int .i64 a, .int .i64 b] w fun e w' => e = .returned (.int .i64 (divS a b)) ∧ w = w' := by
  obtain ⟨x, hxw, hx0, hx1, HXA⟩ : ∃ x : Int, IntKind.u64.wrap (-IntKind.u64.wrap a) = x ∧ 0 ≤ x ∧ x < 18446744073709551616 ∧ Hid (x = -a) := ⟨-a, by simp only [IntKind.wrap_u64]; omega, by omega, by omega, Lib.hid rfl⟩
  obtain ⟨X, HX, HA⟩ : ∃ X : Nat, Hid (x = (X : Int)) ∧ Hid (a = -(X : Int)) := ⟨x.toNat, Lib.hid (by omega), Lib.hid (by have := HXA.out; omega)⟩
  have hda : decide (a < 0) = true := decide_eq_true (by omega)
  obtain ⟨y, hyw, hy0, hy1, HYB⟩ : ∃ y : Int, IntKind.u64.wrap (-IntKind.u64.wrap b) = y ∧ y < 18446744073709551616 ∧ 0 < y ∧ Hid (y = -b) := ⟨-b, by simp only [IntKind.wrap_u64]; omega, by omega, by omega, Lib.hid rfl⟩
  obtain ⟨Y, HY, HB⟩ : ∃ Y : Nat, Hid (y = (Y : Int)) ∧ Hid (b = -(Y : Int)) := ⟨y.toNat, Lib.hid (by omega), Lib.hid (by have := HYB.out; omega)⟩
  have hdb : decide (b < 0) = true := decide_eq_true (by omega)
  have HYP : Hid (0 < Y) := Lib.hid (by have := HY.out; omega)
  have HXL : Hid (X < 18446744073709551616) := Lib.hid (by have := HX.out; omega)
  have HYL : Hid (Y < 18446744073709551616) := Lib.hid (by have := HY.out; omega)
  have HE : Hid (divS a b = wrap64 (((X / Y : Nat) : Int))) := Lib.hid (by rw [HA.out, HB.out]; exact divS_nn X Y HYP.out)
  go_enter Try.func20, Try.ntmps20
  go_wp2
  go_loop [7, 8, 9, 10] (fun q r i o => ∃ (j : Nat) (q' r' : Int), j ≤ 64 ∧ DivRel X Y j q' r' ∧ i = .int .i64 ((j : Int) - 1) ∧ q = .int .u64 q' ∧ r = .int .u64 r') (fun _ _ i _ => (intOf i + 1).toNat)
  case atStart => exact ⟨64, 0, 0, by omega, DivRel.start X Y HXL.out, rfl, rfl, rfl⟩
  case round =>
    obtain ⟨j, q, r, hj, hD, rfl, rfl, rfl⟩ := hrel
    have hrb := hD.rb _ _ _ _ _ HYP.out
    have hqb := hD.qb
    have hr2 : r < 18446744073709551616 := by have := HYL.out; omega
    have hq2 : q < 18446744073709551616 := by have := HXL.out; omega
    have hr3 := hrb.1
    have hq3 := hqb.1
    have HQB := Lib.hid hqb.2
    clear hrb hqb
    by_cases hlt : 1 ≤ j
    · obtain ⟨m, rfl⟩ : ∃ m : Nat, j = m + 1 := ⟨j - 1, by omega⟩
      obtain ⟨t, ht, htb, hc1, hc2⟩ := div_round X Y m HYP.out HXL.out HYL.out (by omega) q r hD
      rw [← HX.out] at ht
      rw [← HY.out] at hc1 hc2
      have H1 := Lib.hid hc1
      have H2 := Lib.hid hc2
      clear hc1 hc2 hD
      by_cases hov : r / 9223372036854775808 = 1
      · go_wp2
        go_round
        case rel => exact ⟨m, _, _, by omega, H1.out (Or.inl hov), by go_num, rfl, rfl⟩
        case measure => simp only [intOf]; omega
      · rw [show IntKind.u64.wrap (r * 2) = r * 2 by rw [IntKind.wrap_u64]; omega] at ht
        have hov' : (r / 9223372036854775808 == 1) = false := by simpa using hov
        by_cases hle : y ≤ t
        · have H3 := Lib.hid (H1.out (Or.inr hle))
          rw [show IntKind.u64.wrap (t - y) = t - y by rw [IntKind.wrap_u64]; omega] at H3
          go_wp2
          go_round
          case rel => exact ⟨m, _, _, by omega, H3.out, by go_num, rfl, rfl⟩
          case measure => simp only [intOf]; omega
        · have hle' : decide (y ≤ t) = false := decide_eq_false hle
          go_wp2
          go_round
          case rel => exact ⟨m, _, _, by omega, H2.out (by omega), by go_num, rfl, rfl⟩
          case measure => simp only [intOf]; omega
    · obtain rfl : j = 0 := by omega
      have HQ := Lib.hid (hD.last)
      clear hD
      go_wp2
      go_ret
      exact ⟨ret_int (by rw [HE.out, ← HQ.out]; try (unfold wrap64; simp only [IntKind.wrap_u64]; have := HXL.out; have := HQB.out; omega)), rfl⟩

theorem rdiv_c (a b : Int) (w : World) (hx : -9223372036854775808 ≤ a) (hx' : a < 9223372036854775808) (hy : -9223372036854775808 ≤ b) (hy' : b < 9223372036854775808) : Calls Try.prog 20 #[.int .i64 a, .int .i64 b] w fun e w' => e = .returned (.int .i64 (divS a b)) ∧ w = w' := by
  rcases Int.lt_trichotomy b 0 with hb | hb | hb
  · rcases Int.lt_or_le a 0 with ha | ha
    · exact rdiv_nn a b w hx ha hy hb
    · exact rdiv_pn a b w ha hx' hy hb
  · subst hb
    go_enter Try.func20, Try.ntmps20
    go_wp2
    go_ret
    exact ⟨ret_int (by unfold divS; simp), rfl⟩
  · rcases Int.lt_or_le a 0 with ha | ha
    · exact rdiv_np a b w hx ha hb hy'
    · exact rdiv_pp a b w ha hx' hb hy'
theorem div_c (a b : Int) (w : World) : Calls Try.prog 19 #[.int .i64 a, .int .i64 b] w fun e w' => e = .returned (.int .i64 (divS a b)) ∧ w = w' := by
  by_cases hb : b = 0
  · subst hb
    go_enter Try.func19, Try.ntmps19
    go_wp2
    go_ret
    exact ⟨ret_int (by unfold divS; simp), rfl⟩
  · go_enter Try.func19, Try.ntmps19
    go_wp2
    go_ret
    exact ⟨ret_int (by unfold divS; rw [if_neg hb]), rfl⟩
def remS (a b : Int) : Int := wrap64 (a - wrap64 (divS a b * b))
theorem rem_c (a b : Int) (w : World) : Calls Try.prog 21 #[.int .i64 a, .int .i64 b] w fun e w' => e = .returned (.int .i64 (remS a b)) ∧ w = w' := by
  go_enter Try.func21, Try.ntmps21
  go_wp2_with (go_at_call 19; refine (div_c _ _ _).mono ?_; rintro e w' ⟨rfl, rfl⟩)
  go_ret
  exact ⟨rfl, rfl⟩
theorem rrem_c (a b : Int) (w : World) (hx : -9223372036854775808 ≤ a) (hx' : a < 9223372036854775808) (hy : -9223372036854775808 ≤ b) (hy' : b < 9223372036854775808) : Calls Try.prog 22 #[.int .i64 a, .int .i64 b] w fun e w' => e = .returned (.int .i64 (remS a b)) ∧ w = w' := by
  go_enter Try.func22, Try.ntmps22
  go_wp2_with (go_at_call 20; refine (rdiv_c _ _ _ hx hx' hy hy').mono ?_; rintro e w' ⟨rfl, rfl⟩)
  go_ret
  exact ⟨rfl, rfl⟩
end Go.Proofs.Ytnchckbgdekfbaa
