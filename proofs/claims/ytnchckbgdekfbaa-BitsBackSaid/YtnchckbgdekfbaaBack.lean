/- BitsBack (P106): for any word, place, length and numbers, what was put comes back and nothing else has changed, Sext undoes cutting where it Fits, a number is quotient times divisor and rest, and the digits of a number are read as it: the law returns true, with no condition on the arguments. -/
import Derived.Test.YtnchckbgdekfbaaRows
import Derived.WalkKit
import Derived.ProofKit
import Derived.OpenShut
import Derived.Outline
import Derived.Lib.Hide
import Derived.Test.YtnchckbgdekfbaaKnown
import Derived.Test.YtnchckbgdekfbaaField
import Derived.Test.YtnchckbgdekfbaaRead
import Derived.Test.YtnchckbgdekfbaaBackMath
namespace Go.Proofs.Ytnchckbgdekfbaa.bitsBack
open Go.ChangeShapes Go.WideShapes Go.ChangeAt Go.RowKit
set_option linter.unusedVariables false      -- a walk need not use every 'w<i>' (that an integer argument fits its kind)

theorem own : ownKnob Try.prog.godebug = none := by kernel_rfl

theorem grown_trans {a b c : World} (h1 : Grown a b) (h2 : Grown b c) : Grown a c :=
  ⟨World.keptBut_trans h1.1 h2.1, fun x => (h2.2.1 x).trans (h1.2.1 x), Nat.le_trans h1.2.2 h2.2.2⟩
theorem grown_drewN {W w : World} (h : Grown W w) : ∀ n, Grown W (w.drewN n)
  | 0 => h
  | n + 1 => Grown.drew (w' := w.drewN n) (grown_drewN h n)
theorem read_y (s : ByteArray) (w : World) (hs : s.size ≤ maxLen) (h : ReadOk s) : Calls Try.prog 25 #[.string s] w fun e w' => e = .returned (.tuple #[.int .u64 (val (chr s) s.size), .bool true]) ∧ w = w' :=
  (read_c s w hs).mono fun e w' ⟨hw, h'⟩ => ⟨by rcases h' with ⟨_, g⟩ | ⟨g, _⟩; exact g; exact absurd h g, hw⟩
theorem read_n (s : ByteArray) (w : World) (hs : s.size ≤ maxLen) (h : ¬ ReadOk s) : Calls Try.prog 25 #[.string s] w fun e w' => e = .returned (.tuple #[.int .u64 0, .bool false]) ∧ w = w' :=
  (read_c s w hs).mono fun e w' ⟨hw, h'⟩ => ⟨by rcases h' with ⟨g, _⟩ | ⟨_, g⟩; exact absurd g h; exact g, hw⟩
theorem rread_y (s : ByteArray) (w : World) (hs : s.size ≤ maxLen) (h : ReadOk s) : Calls Try.prog 26 #[.string s] w fun e w' => e = .returned (.tuple #[.int .u64 (val (chr s) s.size), .bool true]) ∧ w = w' :=
  (rread_c s w hs).mono fun e w' ⟨hw, h'⟩ => ⟨by rcases h' with ⟨_, g⟩ | ⟨g, _⟩; exact g; exact absurd h g, hw⟩
theorem rread_n (s : ByteArray) (w : World) (hs : s.size ≤ maxLen) (h : ¬ ReadOk s) : Calls Try.prog 26 #[.string s] w fun e w' => e = .returned (.tuple #[.int .u64 0, .bool false]) ∧ w = w' :=
  (rread_c s w hs).mono fun e w' ⟨hw, h'⟩ => ⟨by rcases h' with ⟨g, _⟩ | ⟨_, g⟩; exact absurd g h; exact g, hw⟩
theorem clamp_range (d : Int) : 1 ≤ clamp d ∧ clamp d ≤ 16 := by constructor <;> (unfold clamp; repeat' split) <;> omega
theorem readhex_c (v : Int) (d : Int) (k : Nat) (w : World) (h : 0 ≤ v) (h' : v < 18446744073709551616) (hk : HexIs v (clamp d) k) : Calls Try.prog 25 #[.string ⟨(hexL v k).toArray⟩] w fun e w' => e = .returned (.tuple #[.int .u64 v, .bool true]) ∧ w = w' := by
  have hr := readOk_hexL v (clamp d) k (clamp_range d).1 (clamp_range d).2 h h' hk
  have hs : (⟨(hexL v k).toArray⟩ : ByteArray).size = k := by simp [ByteArray.size, hexL_length]
  refine (read_y _ w (by have := hr.1.2.1; unfold maxLen; omega) hr.1).mono fun e w' ⟨he, hw⟩ => ⟨?_, hw⟩
  rw [he, hs, hr.2]
theorem most_c (a b : Int) (w : World) : Calls Try.prog 29 #[.int .i64 a, .int .i64 b] w fun e w' => e = .returned (.int .i64 (if a < b then b else a)) ∧ w = w' := by
  by_cases h : a < b
  · rw [if_pos h]
    go_enter Try.func29, Try.ntmps29
    go_wp2
    go_ret
    exact ⟨rfl, rfl⟩
  · rw [if_neg h]
    go_enter Try.func29, Try.ntmps29
    go_wp2
    go_ret
    exact ⟨rfl, rfl⟩
theorem mostu_c (a b : Int) (w : World) : Calls Try.prog 30 #[.int .u64 a, .int .u64 b] w fun e w' => e = .returned (.int .u64 (if a < b then b else a)) ∧ w = w' := by
  by_cases h : a < b
  · rw [if_pos h]
    go_enter Try.func30, Try.ntmps30
    go_wp2
    go_ret
    exact ⟨rfl, rfl⟩
  · rw [if_neg h]
    go_enter Try.func30, Try.ntmps30
    go_wp2
    go_ret
    exact ⟨rfl, rfl⟩
/-! ### STEP 1: THE WALK: the Go text returns true. 'Grown w w'': the world has at most new blocks (Derived/RowKit3.lean). Part the cases AHEAD of 'go_enter' where a test parts the walk; take each callee by a contract of your own. -/
set_option maxHeartbeats 16000000 in
theorem walk (a0 : Int) (a1 : Int) (a2 : Int) (a3 : Int) (a4 : Int) (a5 : Int) (w0 : (Lit.int .u32 a0).wf = true) (w1 : (Lit.int .i64 a1).wf = true) (w2 : (Lit.int .i64 a2).wf = true) (w3 : (Lit.int .u32 a3).wf = true) (w4 : (Lit.int .i64 a4).wf = true) (w5 : (Lit.int .i64 a5).wf = true) (w : World) :
    Calls Try.prog 6 #[.int .u32 a0, .int .i64 a1, .int .i64 a2, .int .u32 a3, .int .i64 a4, .int .i64 a5] w fun e w' => e = .returned (.bool true) ∧ Grown w w' := by
  obtain ⟨b01, b02⟩ : 0 ≤ a0 ∧ a0 < 4294967296 := by simp [Lit.wf, IntKind.min, IntKind.max, IntKind.signed, IntKind.bits] at w0; omega
  obtain ⟨b31, b32⟩ : 0 ≤ a3 ∧ a3 < 4294967296 := by simp [Lit.wf, IntKind.min, IntKind.max, IntKind.signed, IntKind.bits] at w3; omega
  obtain ⟨b21, b22⟩ : -9223372036854775808 ≤ a2 ∧ a2 < 9223372036854775808 := by simp [Lit.wf, IntKind.min, IntKind.max, IntKind.signed, IntKind.bits] at w2; omega
  obtain ⟨b41, b42⟩ : -9223372036854775808 ≤ a4 ∧ a4 < 9223372036854775808 := by simp [Lit.wf, IntKind.min, IntKind.max, IntKind.signed, IntKind.bits] at w4; omega
  clear w0 w1 w2 w3 w4 w5
  obtain ⟨ua, hua, HUA, ha1, ha2⟩ : ∃ ua : Int, IntKind.u64.wrap a4 = ua ∧ Hid (ua = a4 % 18446744073709551616) ∧ 0 ≤ ua ∧ ua < 18446744073709551616 := ⟨_, IntKind.wrap_u64 a4, Lib.hid rfl, by omega, by omega⟩
  have hb3 := back3 a4 a5 b41 b42
  obtain ⟨r, hr, HR⟩ : ∃ r : Int, remS a4 a5 = r ∧ Hid (a5 ≠ 0 → (0 ≤ a4 → 0 ≤ r) ∧ (a4 < 0 → r ≤ 0)) := ⟨_, rfl, Lib.hid (fun h => rem_sign a4 a5 h b41 b42)⟩
  rw [hr] at hb3
  have HF1 := Lib.hid (fits_back a4 a2)
  have HF2 := Lib.hid (fits_all a4 b41 b42)
  have rf0 := fieldS_range a3 0 a2 b31 b32
  have rf1 := fieldS_range a0 a1 a2 b01 b02
  have rp := putS_range a0 a1 a2 a3 b01 b02
  have HB1 := Lib.hid (back1 a0 a1 a2 a3 b01 b02 b31)
  have HB2 := Lib.hid (back2 a0 a1 a2 a3 b01 b02)
  -- the tests on the rest's sign
  have HS : Hid (a5 = 0 ∨ (a5 ≠ 0 ∧ (r = 0 ∨ (r ≠ 0 ∧ decide (r < 0) = decide (a4 < 0))))) := Lib.hid (by
    by_cases h5 : a5 = 0
    · exact Or.inl h5
    · refine Or.inr ⟨h5, ?_⟩
      by_cases h6 : r = 0
      · exact Or.inl h6
      · refine Or.inr ⟨h6, ?_⟩
        have := HR.out h5
        rw [Bool.eq_iff_iff]; simp; omega)
  have HT : Hid ((fitsG a4 a2 = true ∧ sextG ua a2 = a4) ∨ (fitsG a4 a2 = false ∧ a2 ≠ 64)) := Lib.hid (by
    rcases hf : fitsG a4 a2
    · refine Or.inr ⟨rfl, fun h => ?_⟩
      subst h; rw [HF2.out] at hf; cases hf
    · exact Or.inl ⟨rfl, by rw [HUA.out]; exact HF1.out hf⟩)
  have hf64 := HF2.out
  clear HF1 HF2 HR
  have ht := HT.out
  have hs := HS.out
  clear HT HS
  by_cases hok : 0 ≤ a1 ∧ a1 ≤ 31 ∧ 1 ≤ a2 ∧ a2 ≤ 32 - a1
  · have hb1 := HB1.out hok
    have hb2 := HB2.out hok
    obtain ⟨k1, k2, k3, k4⟩ := hok
    clear HB1 HB2
    rcases ht with ⟨ht1, ht2⟩ | ⟨ht1, ht2⟩
    · rcases hs with hs | ⟨hs1, hs | ⟨hs2, hs3⟩⟩
      · subst hs
        have h0 : wrap64 r = a4 := by
          have := hb3
          rw [Int.mul_zero, show wrap64 0 = 0 by (unfold wrap64; decide), Int.zero_add] at this
          exact this
        clear hb3
        go_enter Try.func6, Try.ntmps6
        go_wp2_with (first | (go_at_call 8; refine (known_c _).mono ?_; rintro e w' ⟨rfl, hG⟩) | (go_at_call 9; refine (field_c _ _ _ _ (by omega) (by omega)).mono ?_; rintro e w' ⟨rfl, m1, rfl⟩) | (go_at_call 11; refine (put_c _ _ _ _ _ (by omega) (by omega) (by omega) (by omega)).mono ?_; rintro e w' ⟨rfl, m2, rfl⟩) | (go_at_call 13; refine (sext_c _ _ _ (by omega) (by omega)).mono ?_; rintro e w' ⟨rfl, rfl⟩) | (go_at_call 15; refine (fits_c _ _ _ (by omega) (by omega)).mono ?_; rintro e w' ⟨rfl, rfl⟩) | (go_at_call 19; refine (div_c _ _ _).mono ?_; rintro e w' ⟨rfl, rfl⟩) | (go_at_call 21; refine (rem_c _ _ _).mono ?_; rintro e w' ⟨rfl, rfl⟩) | (go_at_call 27; refine (hex_c _ _ _ (by omega) (by omega)).mono ?_; rintro e w' ⟨k, hk, rfl, hG1⟩) | (go_at_call 25; refine (readhex_c _ _ _ _ (by omega) (by omega) hk).mono ?_; rintro e w' ⟨rfl, rfl⟩))
        all_goals (go_ret; exact ⟨rfl, by first | exact grown_trans hG hG1 | exact grown_trans (grown_drewN hG _) hG1⟩)
      · subst hs
        have h0 : wrap64 (divS a4 a5 * a5) = a4 := by
          have := hb3
          rw [Int.add_zero, wrap64_congr _ _ (wrap64_mod (divS a4 a5 * a5))] at this
          exact this
        clear hb3
        go_enter Try.func6, Try.ntmps6
        go_wp2_with (first | (go_at_call 8; refine (known_c _).mono ?_; rintro e w' ⟨rfl, hG⟩) | (go_at_call 9; refine (field_c _ _ _ _ (by omega) (by omega)).mono ?_; rintro e w' ⟨rfl, m1, rfl⟩) | (go_at_call 11; refine (put_c _ _ _ _ _ (by omega) (by omega) (by omega) (by omega)).mono ?_; rintro e w' ⟨rfl, m2, rfl⟩) | (go_at_call 13; refine (sext_c _ _ _ (by omega) (by omega)).mono ?_; rintro e w' ⟨rfl, rfl⟩) | (go_at_call 15; refine (fits_c _ _ _ (by omega) (by omega)).mono ?_; rintro e w' ⟨rfl, rfl⟩) | (go_at_call 19; refine (div_c _ _ _).mono ?_; rintro e w' ⟨rfl, rfl⟩) | (go_at_call 21; refine (rem_c _ _ _).mono ?_; rintro e w' ⟨rfl, rfl⟩) | (go_at_call 27; refine (hex_c _ _ _ (by omega) (by omega)).mono ?_; rintro e w' ⟨k, hk, rfl, hG1⟩) | (go_at_call 25; refine (readhex_c _ _ _ _ (by omega) (by omega) hk).mono ?_; rintro e w' ⟨rfl, rfl⟩))
        all_goals (go_ret; exact ⟨rfl, by first | exact grown_trans hG hG1 | exact grown_trans (grown_drewN hG _) hG1⟩)
      · go_enter Try.func6, Try.ntmps6
        go_wp2_with (first | (go_at_call 8; refine (known_c _).mono ?_; rintro e w' ⟨rfl, hG⟩) | (go_at_call 9; refine (field_c _ _ _ _ (by omega) (by omega)).mono ?_; rintro e w' ⟨rfl, m1, rfl⟩) | (go_at_call 11; refine (put_c _ _ _ _ _ (by omega) (by omega) (by omega) (by omega)).mono ?_; rintro e w' ⟨rfl, m2, rfl⟩) | (go_at_call 13; refine (sext_c _ _ _ (by omega) (by omega)).mono ?_; rintro e w' ⟨rfl, rfl⟩) | (go_at_call 15; refine (fits_c _ _ _ (by omega) (by omega)).mono ?_; rintro e w' ⟨rfl, rfl⟩) | (go_at_call 19; refine (div_c _ _ _).mono ?_; rintro e w' ⟨rfl, rfl⟩) | (go_at_call 21; refine (rem_c _ _ _).mono ?_; rintro e w' ⟨rfl, rfl⟩) | (go_at_call 27; refine (hex_c _ _ _ (by omega) (by omega)).mono ?_; rintro e w' ⟨k, hk, rfl, hG1⟩) | (go_at_call 25; refine (readhex_c _ _ _ _ (by omega) (by omega) hk).mono ?_; rintro e w' ⟨rfl, rfl⟩))
        all_goals (go_ret; exact ⟨rfl, by first | exact grown_trans hG hG1 | exact grown_trans (grown_drewN hG _) hG1⟩)
    · rcases hs with hs | ⟨hs1, hs | ⟨hs2, hs3⟩⟩
      · subst hs
        have h0 : wrap64 r = a4 := by
          have := hb3
          rw [Int.mul_zero, show wrap64 0 = 0 by (unfold wrap64; decide), Int.zero_add] at this
          exact this
        clear hb3
        go_enter Try.func6, Try.ntmps6
        go_wp2_with (first | (go_at_call 8; refine (known_c _).mono ?_; rintro e w' ⟨rfl, hG⟩) | (go_at_call 9; refine (field_c _ _ _ _ (by omega) (by omega)).mono ?_; rintro e w' ⟨rfl, m1, rfl⟩) | (go_at_call 11; refine (put_c _ _ _ _ _ (by omega) (by omega) (by omega) (by omega)).mono ?_; rintro e w' ⟨rfl, m2, rfl⟩) | (go_at_call 13; refine (sext_c _ _ _ (by omega) (by omega)).mono ?_; rintro e w' ⟨rfl, rfl⟩) | (go_at_call 15; refine (fits_c _ _ _ (by omega) (by omega)).mono ?_; rintro e w' ⟨rfl, rfl⟩) | (go_at_call 19; refine (div_c _ _ _).mono ?_; rintro e w' ⟨rfl, rfl⟩) | (go_at_call 21; refine (rem_c _ _ _).mono ?_; rintro e w' ⟨rfl, rfl⟩) | (go_at_call 27; refine (hex_c _ _ _ (by omega) (by omega)).mono ?_; rintro e w' ⟨k, hk, rfl, hG1⟩) | (go_at_call 25; refine (readhex_c _ _ _ _ (by omega) (by omega) hk).mono ?_; rintro e w' ⟨rfl, rfl⟩))
        all_goals (go_ret; exact ⟨rfl, by first | exact grown_trans hG hG1 | exact grown_trans (grown_drewN hG _) hG1⟩)
      · subst hs
        have h0 : wrap64 (divS a4 a5 * a5) = a4 := by
          have := hb3
          rw [Int.add_zero, wrap64_congr _ _ (wrap64_mod (divS a4 a5 * a5))] at this
          exact this
        clear hb3
        go_enter Try.func6, Try.ntmps6
        go_wp2_with (first | (go_at_call 8; refine (known_c _).mono ?_; rintro e w' ⟨rfl, hG⟩) | (go_at_call 9; refine (field_c _ _ _ _ (by omega) (by omega)).mono ?_; rintro e w' ⟨rfl, m1, rfl⟩) | (go_at_call 11; refine (put_c _ _ _ _ _ (by omega) (by omega) (by omega) (by omega)).mono ?_; rintro e w' ⟨rfl, m2, rfl⟩) | (go_at_call 13; refine (sext_c _ _ _ (by omega) (by omega)).mono ?_; rintro e w' ⟨rfl, rfl⟩) | (go_at_call 15; refine (fits_c _ _ _ (by omega) (by omega)).mono ?_; rintro e w' ⟨rfl, rfl⟩) | (go_at_call 19; refine (div_c _ _ _).mono ?_; rintro e w' ⟨rfl, rfl⟩) | (go_at_call 21; refine (rem_c _ _ _).mono ?_; rintro e w' ⟨rfl, rfl⟩) | (go_at_call 27; refine (hex_c _ _ _ (by omega) (by omega)).mono ?_; rintro e w' ⟨k, hk, rfl, hG1⟩) | (go_at_call 25; refine (readhex_c _ _ _ _ (by omega) (by omega) hk).mono ?_; rintro e w' ⟨rfl, rfl⟩))
        all_goals (go_ret; exact ⟨rfl, by first | exact grown_trans hG hG1 | exact grown_trans (grown_drewN hG _) hG1⟩)
      · go_enter Try.func6, Try.ntmps6
        go_wp2_with (first | (go_at_call 8; refine (known_c _).mono ?_; rintro e w' ⟨rfl, hG⟩) | (go_at_call 9; refine (field_c _ _ _ _ (by omega) (by omega)).mono ?_; rintro e w' ⟨rfl, m1, rfl⟩) | (go_at_call 11; refine (put_c _ _ _ _ _ (by omega) (by omega) (by omega) (by omega)).mono ?_; rintro e w' ⟨rfl, m2, rfl⟩) | (go_at_call 13; refine (sext_c _ _ _ (by omega) (by omega)).mono ?_; rintro e w' ⟨rfl, rfl⟩) | (go_at_call 15; refine (fits_c _ _ _ (by omega) (by omega)).mono ?_; rintro e w' ⟨rfl, rfl⟩) | (go_at_call 19; refine (div_c _ _ _).mono ?_; rintro e w' ⟨rfl, rfl⟩) | (go_at_call 21; refine (rem_c _ _ _).mono ?_; rintro e w' ⟨rfl, rfl⟩) | (go_at_call 27; refine (hex_c _ _ _ (by omega) (by omega)).mono ?_; rintro e w' ⟨k, hk, rfl, hG1⟩) | (go_at_call 25; refine (readhex_c _ _ _ _ (by omega) (by omega) hk).mono ?_; rintro e w' ⟨rfl, rfl⟩))
        all_goals (go_ret; exact ⟨rfl, by first | exact grown_trans hG hG1 | exact grown_trans (grown_drewN hG _) hG1⟩)
  · clear HB1 HB2 rf0 rf1 rp
    rcases ht with ⟨ht1, ht2⟩ | ⟨ht1, ht2⟩
    · rcases hs with hs | ⟨hs1, hs | ⟨hs2, hs3⟩⟩
      · subst hs
        have h0 : wrap64 r = a4 := by
          have := hb3
          rw [Int.mul_zero, show wrap64 0 = 0 by (unfold wrap64; decide), Int.zero_add] at this
          exact this
        clear hb3
        go_enter Try.func6, Try.ntmps6
        go_wp2_with (first | (go_at_call 8; refine (known_c _).mono ?_; rintro e w' ⟨rfl, hG⟩) | (go_at_call 9; refine (field_c _ _ _ _ (by omega) (by omega)).mono ?_; rintro e w' ⟨rfl, m1, rfl⟩) | (go_at_call 11; refine (put_c _ _ _ _ _ (by omega) (by omega) (by omega) (by omega)).mono ?_; rintro e w' ⟨rfl, m2, rfl⟩) | (go_at_call 13; refine (sext_c _ _ _ (by omega) (by omega)).mono ?_; rintro e w' ⟨rfl, rfl⟩) | (go_at_call 15; refine (fits_c _ _ _ (by omega) (by omega)).mono ?_; rintro e w' ⟨rfl, rfl⟩) | (go_at_call 19; refine (div_c _ _ _).mono ?_; rintro e w' ⟨rfl, rfl⟩) | (go_at_call 21; refine (rem_c _ _ _).mono ?_; rintro e w' ⟨rfl, rfl⟩) | (go_at_call 27; refine (hex_c _ _ _ (by omega) (by omega)).mono ?_; rintro e w' ⟨k, hk, rfl, hG1⟩) | (go_at_call 25; refine (readhex_c _ _ _ _ (by omega) (by omega) hk).mono ?_; rintro e w' ⟨rfl, rfl⟩))
        all_goals (go_ret; exact ⟨rfl, by first | exact grown_trans hG hG1 | exact grown_trans (grown_drewN hG _) hG1⟩)
      · subst hs
        have h0 : wrap64 (divS a4 a5 * a5) = a4 := by
          have := hb3
          rw [Int.add_zero, wrap64_congr _ _ (wrap64_mod (divS a4 a5 * a5))] at this
          exact this
        clear hb3
        go_enter Try.func6, Try.ntmps6
        go_wp2_with (first | (go_at_call 8; refine (known_c _).mono ?_; rintro e w' ⟨rfl, hG⟩) | (go_at_call 9; refine (field_c _ _ _ _ (by omega) (by omega)).mono ?_; rintro e w' ⟨rfl, m1, rfl⟩) | (go_at_call 11; refine (put_c _ _ _ _ _ (by omega) (by omega) (by omega) (by omega)).mono ?_; rintro e w' ⟨rfl, m2, rfl⟩) | (go_at_call 13; refine (sext_c _ _ _ (by omega) (by omega)).mono ?_; rintro e w' ⟨rfl, rfl⟩) | (go_at_call 15; refine (fits_c _ _ _ (by omega) (by omega)).mono ?_; rintro e w' ⟨rfl, rfl⟩) | (go_at_call 19; refine (div_c _ _ _).mono ?_; rintro e w' ⟨rfl, rfl⟩) | (go_at_call 21; refine (rem_c _ _ _).mono ?_; rintro e w' ⟨rfl, rfl⟩) | (go_at_call 27; refine (hex_c _ _ _ (by omega) (by omega)).mono ?_; rintro e w' ⟨k, hk, rfl, hG1⟩) | (go_at_call 25; refine (readhex_c _ _ _ _ (by omega) (by omega) hk).mono ?_; rintro e w' ⟨rfl, rfl⟩))
        all_goals (go_ret; exact ⟨rfl, by first | exact grown_trans hG hG1 | exact grown_trans (grown_drewN hG _) hG1⟩)
      · go_enter Try.func6, Try.ntmps6
        go_wp2_with (first | (go_at_call 8; refine (known_c _).mono ?_; rintro e w' ⟨rfl, hG⟩) | (go_at_call 9; refine (field_c _ _ _ _ (by omega) (by omega)).mono ?_; rintro e w' ⟨rfl, m1, rfl⟩) | (go_at_call 11; refine (put_c _ _ _ _ _ (by omega) (by omega) (by omega) (by omega)).mono ?_; rintro e w' ⟨rfl, m2, rfl⟩) | (go_at_call 13; refine (sext_c _ _ _ (by omega) (by omega)).mono ?_; rintro e w' ⟨rfl, rfl⟩) | (go_at_call 15; refine (fits_c _ _ _ (by omega) (by omega)).mono ?_; rintro e w' ⟨rfl, rfl⟩) | (go_at_call 19; refine (div_c _ _ _).mono ?_; rintro e w' ⟨rfl, rfl⟩) | (go_at_call 21; refine (rem_c _ _ _).mono ?_; rintro e w' ⟨rfl, rfl⟩) | (go_at_call 27; refine (hex_c _ _ _ (by omega) (by omega)).mono ?_; rintro e w' ⟨k, hk, rfl, hG1⟩) | (go_at_call 25; refine (readhex_c _ _ _ _ (by omega) (by omega) hk).mono ?_; rintro e w' ⟨rfl, rfl⟩))
        all_goals (go_ret; exact ⟨rfl, by first | exact grown_trans hG hG1 | exact grown_trans (grown_drewN hG _) hG1⟩)
    · rcases hs with hs | ⟨hs1, hs | ⟨hs2, hs3⟩⟩
      · subst hs
        have h0 : wrap64 r = a4 := by
          have := hb3
          rw [Int.mul_zero, show wrap64 0 = 0 by (unfold wrap64; decide), Int.zero_add] at this
          exact this
        clear hb3
        go_enter Try.func6, Try.ntmps6
        go_wp2_with (first | (go_at_call 8; refine (known_c _).mono ?_; rintro e w' ⟨rfl, hG⟩) | (go_at_call 9; refine (field_c _ _ _ _ (by omega) (by omega)).mono ?_; rintro e w' ⟨rfl, m1, rfl⟩) | (go_at_call 11; refine (put_c _ _ _ _ _ (by omega) (by omega) (by omega) (by omega)).mono ?_; rintro e w' ⟨rfl, m2, rfl⟩) | (go_at_call 13; refine (sext_c _ _ _ (by omega) (by omega)).mono ?_; rintro e w' ⟨rfl, rfl⟩) | (go_at_call 15; refine (fits_c _ _ _ (by omega) (by omega)).mono ?_; rintro e w' ⟨rfl, rfl⟩) | (go_at_call 19; refine (div_c _ _ _).mono ?_; rintro e w' ⟨rfl, rfl⟩) | (go_at_call 21; refine (rem_c _ _ _).mono ?_; rintro e w' ⟨rfl, rfl⟩) | (go_at_call 27; refine (hex_c _ _ _ (by omega) (by omega)).mono ?_; rintro e w' ⟨k, hk, rfl, hG1⟩) | (go_at_call 25; refine (readhex_c _ _ _ _ (by omega) (by omega) hk).mono ?_; rintro e w' ⟨rfl, rfl⟩))
        all_goals (go_ret; exact ⟨rfl, by first | exact grown_trans hG hG1 | exact grown_trans (grown_drewN hG _) hG1⟩)
      · subst hs
        have h0 : wrap64 (divS a4 a5 * a5) = a4 := by
          have := hb3
          rw [Int.add_zero, wrap64_congr _ _ (wrap64_mod (divS a4 a5 * a5))] at this
          exact this
        clear hb3
        go_enter Try.func6, Try.ntmps6
        go_wp2_with (first | (go_at_call 8; refine (known_c _).mono ?_; rintro e w' ⟨rfl, hG⟩) | (go_at_call 9; refine (field_c _ _ _ _ (by omega) (by omega)).mono ?_; rintro e w' ⟨rfl, m1, rfl⟩) | (go_at_call 11; refine (put_c _ _ _ _ _ (by omega) (by omega) (by omega) (by omega)).mono ?_; rintro e w' ⟨rfl, m2, rfl⟩) | (go_at_call 13; refine (sext_c _ _ _ (by omega) (by omega)).mono ?_; rintro e w' ⟨rfl, rfl⟩) | (go_at_call 15; refine (fits_c _ _ _ (by omega) (by omega)).mono ?_; rintro e w' ⟨rfl, rfl⟩) | (go_at_call 19; refine (div_c _ _ _).mono ?_; rintro e w' ⟨rfl, rfl⟩) | (go_at_call 21; refine (rem_c _ _ _).mono ?_; rintro e w' ⟨rfl, rfl⟩) | (go_at_call 27; refine (hex_c _ _ _ (by omega) (by omega)).mono ?_; rintro e w' ⟨k, hk, rfl, hG1⟩) | (go_at_call 25; refine (readhex_c _ _ _ _ (by omega) (by omega) hk).mono ?_; rintro e w' ⟨rfl, rfl⟩))
        all_goals (go_ret; exact ⟨rfl, by first | exact grown_trans hG hG1 | exact grown_trans (grown_drewN hG _) hG1⟩)
      · go_enter Try.func6, Try.ntmps6
        go_wp2_with (first | (go_at_call 8; refine (known_c _).mono ?_; rintro e w' ⟨rfl, hG⟩) | (go_at_call 9; refine (field_c _ _ _ _ (by omega) (by omega)).mono ?_; rintro e w' ⟨rfl, m1, rfl⟩) | (go_at_call 11; refine (put_c _ _ _ _ _ (by omega) (by omega) (by omega) (by omega)).mono ?_; rintro e w' ⟨rfl, m2, rfl⟩) | (go_at_call 13; refine (sext_c _ _ _ (by omega) (by omega)).mono ?_; rintro e w' ⟨rfl, rfl⟩) | (go_at_call 15; refine (fits_c _ _ _ (by omega) (by omega)).mono ?_; rintro e w' ⟨rfl, rfl⟩) | (go_at_call 19; refine (div_c _ _ _).mono ?_; rintro e w' ⟨rfl, rfl⟩) | (go_at_call 21; refine (rem_c _ _ _).mono ?_; rintro e w' ⟨rfl, rfl⟩) | (go_at_call 27; refine (hex_c _ _ _ (by omega) (by omega)).mono ?_; rintro e w' ⟨k, hk, rfl, hG1⟩) | (go_at_call 25; refine (readhex_c _ _ _ _ (by omega) (by omega) hk).mono ?_; rintro e w' ⟨rfl, rfl⟩))
        all_goals (go_ret; exact ⟨rfl, by first | exact grown_trans hG hG1 | exact grown_trans (grown_drewN hG _) hG1⟩)

/-! ### THE ROW's STEP: WRITTEN OUT: LEAVE IT -/
set_option maxRecDepth 100000 in
theorem lifted (os : Os) (started : os.Started) (H : Type) (enc : TypeId × Value → H) :
    ReturnsInHanded {} Try.checked os 6 .any (Rows.bitsBackSpec.pre6 enc Try.prog Try.f6 Rows.bitsBackRow.domain false) (Rows.bitsBackSpec.post enc Try.prog Try.f6 false true false false) := by
  refine returnsInHanded_of_change (C := Try.checked) own started (by kernel_rfl) Try.func6
    (ChangeSpec.witness6 (enc := enc) (C := Try.checked) false ⟨#[], #[.int .u32 0, .int .i64 0, .int .i64 0, .int .u32 0, .int .i64 0, .int .i64 0], []⟩ 8 (by kernel_rfl) (by kernel_rfl) (by kernel_rfl) (by kernel_rfl)) ?_
  intro W base args ds gs before hval0 hW hcnd _
  have hval : ∀ (j : Nat) t v, Try.f6.params[j]? = some t → args[j]? = some v → Value.okWide Try.prog W .any base t v := hval0
  have hW' := hW
  obtain ⟨p, q, hA0, hV, rfl, hfz, hnd⟩ := hW
  have hA : DataW.TrodAll enc Try.prog W 0 (fun _ => true) true Try.f6.params.toList args.toList ds p := hA0
  rw [Try.params6] at hA hval
  obtain ⟨v0, vs0, d0, ds0, p0, q0, hargs, rfl, rfl, h0, r0⟩ := trodAll_cons hA
  obtain ⟨v1, vs1, d1, ds1, p1, q1, rfl, rfl, rfl, h1, r1⟩ := trodAll_cons r0
  obtain ⟨v2, vs2, d2, ds2, p2, q2, rfl, rfl, rfl, h2, r2⟩ := trodAll_cons r1
  obtain ⟨v3, vs3, d3, ds3, p3, q3, rfl, rfl, rfl, h3, r3⟩ := trodAll_cons r2
  obtain ⟨v4, vs4, d4, ds4, p4, q4, rfl, rfl, rfl, h4, r4⟩ := trodAll_cons r3
  obtain ⟨v5, vs5, d5, ds5, p5, q5, rfl, rfl, rfl, h5, r5⟩ := trodAll_cons r4
  obtain ⟨rfl, rfl, rfl⟩ := trodAll_nil r5
  obtain rfl : args = #[v0, v1, v2, v3, v4, v5] := by cases args; simp_all
  obtain ⟨rfl, rfl⟩ := trodVars_none hV
  obtain ⟨a0, rfl, rfl, rfl, w0⟩ := open_int Try.underlying22 (hval 0 22 v0 rfl rfl) h0
  obtain ⟨a1, rfl, rfl, rfl, w1⟩ := open_int Try.underlying3 (hval 1 3 v1 rfl rfl) h1
  obtain ⟨a2, rfl, rfl, rfl, w2⟩ := open_int Try.underlying3 (hval 2 3 v2 rfl rfl) h2
  obtain ⟨a3, rfl, rfl, rfl, w3⟩ := open_int Try.underlying22 (hval 3 22 v3 rfl rfl) h3
  obtain ⟨a4, rfl, rfl, rfl, w4⟩ := open_int Try.underlying2 (hval 4 2 v4 rfl rfl) h4
  obtain ⟨a5, rfl, rfl, rfl, w5⟩ := open_int Try.underlying2 (hval 5 2 v5 rfl rfl) h5
  clear hA0 hval0
  simp only [List.append_nil] at hW'
  refine (walk a0 a1 a2 a3 a4 a5 w0 w1 w2 w3 w4 w5 W).mono fun e W' ⟨he, hg⟩ => ?_
  subst he
  exact ⟨_, rfl, post_of_same (pa := []) (pv := []) hW' (fun _ _ _ => (trodAll_cons_mk (shut_bool Try.underlying4 _) trodAll_mk0)) (fun sp _ => (trodAll_cons_mk (shut_int Try.underlying22 w0) (trodAll_cons_mk (shut_int Try.underlying3 w1) (trodAll_cons_mk (shut_int Try.underlying3 w2) (trodAll_cons_mk (shut_int Try.underlying22 w3) (trodAll_cons_mk (shut_int Try.underlying2 w4) (trodAll_cons_mk (shut_int Try.underlying2 w5) trodAll_mk0))))))) (fun _ _ => rfl) rfl
    (hg.frame _) hg.2.1 (ok_one (by kernel_rfl) rfl (okWide_bool_mk Try.underlying4 _))⟩

theorem over : Rows.bitsBackRow.holds Try.pinned (OpenSpec.ofChange Rows.bitsBackSpec) :=
  OpenClaim.holds_of_wide 6 Try.f6 rfl rfl rfl rfl rfl rfl rfl ⟨rfl, rfl, rfl, rfl, rfl⟩ rfl rfl rfl rfl rfl (by kernel_rfl) Try.func6 (by kernel_rfl)
    (of_decide_eq_true (by kernel_rfl)) (by unfold Func.isWrapper; first | (rw [if_pos (by decide +kernel)]; kernel_rfl) | (rw [if_neg (by decide +kernel)]; exact ⟨rfl, rfl⟩))
    (fun os started H enc _ => lifted os started H enc)

/-- ████ THE STATEMENT ████ -/
theorem proved : Rows.BitsBackSaid :=
  over
#print axioms proved
end Go.Proofs.Ytnchckbgdekfbaa.bitsBack
