import Derived.Test.YtapcapcbndooiaaRows
import Derived.WalkKit
import Derived.ProofKit
import Derived.OpenShut
import Derived.Deep.QuietTactic
import Derived.BigQuiet
import Derived.Outline
import Derived.WalkSmall
import Derived.Test.YtapcapcbndooiaaLay
import Derived.Lib.Hide
namespace Go.Proofs.Ytapcapcbndooiaa
open Go.ChangeShapes Go.WideShapes Go.ChangeAt Go.RowKit
set_option linter.unusedVariables false
/-! ### The document's own numbers -/
def ok5 (c0 c1 c2 c3 c4 : Int) : Prop := (1 ≤ c0 ∧ c0 ≤ 4) ∧ (0 ≤ c1 ∧ c1 ≤ 65536) ∧ (1 ≤ c2 ∧ c2 ≤ 200) ∧ (0 ≤ c3 ∧ c3 ≤ 65536) ∧ c3 % 16 = 0 ∧ (0 ≤ c4 ∧ c4 ≤ 1048576)
instance (c0 c1 c2 c3 c4 : Int) : Decidable (ok5 c0 c1 c2 c3 c4) := by unfold ok5; infer_instance
def checkS (c0 c1 c2 c3 c4 : Int) : Int := if ok5 c0 c1 c2 c3 c4 then 0 else 1
theorem isIn_t (v lo hi : Int) (w : World) (h1 : lo ≤ v) (h2 : v ≤ hi) : Calls Try.prog 106 #[.int .i64 v, .int .i64 lo, .int .i64 hi] w fun e w' => e = .returned (.bool true) ∧ w = w' := isIn_c v lo hi true w (decide_eq_true ⟨h1, h2⟩).symm
theorem isIn_f (v lo hi : Int) (w : World) (h : ¬ (lo ≤ v ∧ v ≤ hi)) : Calls Try.prog 106 #[.int .i64 v, .int .i64 lo, .int .i64 hi] w fun e w' => e = .returned (.bool false) ∧ w = w' := isIn_c v lo hi false w (decide_eq_false h).symm

theorem rstack_c (c : Int) (w : World) (h0 : -9223372036854775808 ≤ c) (h1 : c ≤ 9223372036854775807) : Calls Try.prog 60 #[.int .i64 c] w fun e w' => e = .returned (.tuple #[.int .u64 (stackLo c), .int .u64 (stackHi c)]) ∧ w = w' := by
  by_cases h : 0 ≤ c ∧ c ≤ 3
  · have H := Lib.hid (show stackLo c = 1048576 + 131072 * c from if_pos h)
    have H2 := Lib.hid (show stackHi c = 1048576 + 131072 * c + 131072 from if_pos h)
    obtain ⟨g1, g2⟩ := h
    go_enter Try.func60, Try.ntmps60
    go_wp2
    go_ret2
    exact ⟨by rw [H.out, H2.out]; simp [Int.mul_comm], rfl⟩
  · have H := Lib.hid (show stackLo c = 0 from if_neg h)
    have H2 := Lib.hid (show stackHi c = 0 from if_neg h)
    by_cases g : c < 0
    · clear h
      go_enter Try.func60, Try.ntmps60
      go_wp2
      go_ret2
      exact ⟨by rw [H.out, H2.out]; rfl, rfl⟩
    · have g2 : 4 ≤ c := by omega
      clear h
      go_enter Try.func60, Try.ntmps60
      go_wp2
      go_ret2
      exact ⟨by rw [H.out, H2.out]; rfl, rfl⟩
theorem robj_c (a : Int) (w : World) (h0 : 0 ≤ a) (h0' : a < 18446744073709551616) : Calls Try.prog 62 #[.int .u64 a] w fun e w' => e = .returned (.int .i64 (objS a)) ∧ w = w' := by
  by_cases h : 2097152 ≤ a ∧ a < 2621440 ∧ a % 8 = 0
  · have H := Lib.hid (show objS a = (a - 2097152) / 8 + 1 from if_pos h)
    obtain ⟨h1, h2, h3⟩ := h
    go_enter Try.func62, Try.ntmps62
    go_wp2
    go_ret
    exact ⟨ret_int H.out.symm, rfl⟩
  · have H := Lib.hid (show objS a = 0 from if_neg h)
    by_cases h1 : 2097152 ≤ a
    · by_cases h2 : a < 2621440
      · have h3 : ¬ a % 8 = 0 := fun g => h ⟨h1, h2, g⟩
        clear h
        have hd : (a % 8 != 0) = true := by simpa using h3
        go_enter Try.func62, Try.ntmps62
        go_wp2
        go_ret
        exact ⟨ret_int H.out.symm, rfl⟩
      · clear h
        have hd : decide (2621440 ≤ a) = true := decide_eq_true (by omega)
        go_enter Try.func62, Try.ntmps62
        go_wp2
        go_ret
        exact ⟨ret_int H.out.symm, rfl⟩
    · clear h
      go_enter Try.func62, Try.ntmps62
      go_wp2
      go_ret
      exact ⟨ret_int H.out.symm, rfl⟩
theorem raddr_c (o : Int) (w : World) : Calls Try.prog 64 #[.int .i64 o] w fun e w' => e = .returned (.int .u64 (addrS o)) ∧ w = w' := by
  by_cases h : 1 ≤ o ∧ o ≤ 65536
  · have H := Lib.hid (show addrS o = 2097152 + 8 * (o - 1) from if_pos h)
    obtain ⟨h1, h2⟩ := h
    go_enter Try.func64, Try.ntmps64
    go_wp2
    go_ret
    exact ⟨ret_int H.out.symm, rfl⟩
  · have H := Lib.hid (show addrS o = 0 from if_neg h)
    by_cases g : o < 1
    · clear h
      go_enter Try.func64, Try.ntmps64
      go_wp2
      go_ret
      exact ⟨ret_int H.out.symm, rfl⟩
    · have g2 : 65536 < o := by omega
      clear h
      go_enter Try.func64, Try.ntmps64
      go_wp2
      go_ret
      exact ⟨ret_int H.out.symm, rfl⟩
theorem rbytes_c (n : Int) (w : World) (h' : n ≤ 9223372036854775807) : Calls Try.prog 68 #[.int .i64 n] w fun e w' => e = .returned (.int .u64 (bytesS n)) ∧ w = w' := by
  by_cases h : n < 0
  · have H := Lib.hid (show bytesS n = 0 from if_pos h)
    go_enter Try.func68, Try.ntmps68
    go_wp2
    go_ret
    exact ⟨ret_int H.out.symm, rfl⟩
  · have H := Lib.hid (show bytesS n = (24 + 8 * n) % 18446744073709551616 from if_neg h)
    go_enter Try.func68, Try.ntmps68
    go_wp2
    go_ret
    exact ⟨ret_int (by rw [H.out]; simp only [IntKind.wrap_u64]; omega), rfl⟩
theorem rslot_c (o s : Int) (w : World) (h' : s ≤ 1099511627776) : Calls Try.prog 66 #[.int .i64 o, .int .i64 s] w fun e w' => e = .returned (.int .u64 (slotS o s)) ∧ w = w' := by
  have ha := addrS_range o
  by_cases h0 : addrS o = 0
  · have H := Lib.hid (show slotS o s = 0 from if_pos (Or.inl h0))
    go_enter Try.func66, Try.ntmps66
    go_wp2_with (go_at_call 64; refine (raddr_c _ _).mono ?_; rintro e w' ⟨rfl, rfl⟩)
    go_ret
    exact ⟨ret_int H.out.symm, rfl⟩
  · by_cases h1 : s < 0
    · have H := Lib.hid (show slotS o s = 0 from if_pos (Or.inr h1))
      go_enter Try.func66, Try.ntmps66
      go_wp2_with (go_at_call 64; refine (raddr_c _ _).mono ?_; rintro e w' ⟨rfl, rfl⟩)
      go_ret
      exact ⟨ret_int H.out.symm, rfl⟩
    · have H := Lib.hid (show slotS o s = (addrS o + bytesS s) % 18446744073709551616 from if_neg (by omega))
      have HB := Lib.hid (show bytesS s = 24 + 8 * s by unfold bytesS; rw [if_neg h1]; omega)
      have hd : decide (s < 0) = false := decide_eq_false h1
      go_enter Try.func66, Try.ntmps66
      go_wp2_with (go_at_call 64; refine (raddr_c _ _).mono ?_; rintro e w' ⟨rfl, rfl⟩)
      go_ret
      exact ⟨ret_int (by rw [H.out, HB.out]; omega), rfl⟩
theorem rkind_c (c : Int) (w : World) : Calls Try.prog 70 #[.int .i64 c] w fun e w' => e = .returned (.int .u64 (kindS c)) ∧ w = w' := by
  by_cases h : 0 ≤ c ∧ c ≤ 49
  · have H := Lib.hid (show kindS c = c + 1 from if_pos h)
    obtain ⟨h1, h2⟩ := h
    go_enter Try.func70, Try.ntmps70
    go_wp2
    go_ret
    exact ⟨ret_int H.out.symm, rfl⟩
  · by_cases h1 : c = -1
    · subst h1
      go_enter Try.func70, Try.ntmps70
      go_wp2
      go_ret
      exact ⟨rfl, rfl⟩
    · by_cases h2 : c = -2
      · subst h2
        go_enter Try.func70, Try.ntmps70
        go_wp2
        go_ret
        exact ⟨rfl, rfl⟩
      · have H := Lib.hid (show kindS c = 0 by unfold kindS; rw [if_neg h, if_neg h1, if_neg h2])
        by_cases g : 0 ≤ c
        · have g2 : 50 ≤ c := by omega
          have hd : decide (c < 50) = false := decide_eq_false (by omega)
          clear h
          go_enter Try.func70, Try.ntmps70
          go_wp2
          go_ret
          exact ⟨ret_int H.out.symm, rfl⟩
        · clear h
          have hd : decide (0 ≤ c) = false := decide_eq_false (by omega)
          go_enter Try.func70, Try.ntmps70
          go_wp2
          go_ret
          exact ⟨ret_int H.out.symm, rfl⟩
theorem rclass_c (k : Int) (w : World) (h0 : 0 ≤ k) (h0' : k < 18446744073709551616) : Calls Try.prog 72 #[.int .u64 k] w fun e w' => e = .returned (.int .i64 (classS k)) ∧ w = w' := by
  by_cases h1 : k = 4294967297
  · subst h1
    go_enter Try.func72, Try.ntmps72
    go_wp2
    go_ret
    exact ⟨rfl, rfl⟩
  · by_cases h2 : k = 4294967298
    · subst h2
      go_enter Try.func72, Try.ntmps72
      go_wp2
      go_ret
      exact ⟨rfl, rfl⟩
    · by_cases h : 1 ≤ k ∧ k ≤ 50
      · have H := Lib.hid (show classS k = k - 1 from if_pos h)
        obtain ⟨g1, g2⟩ := h
        go_enter Try.func72, Try.ntmps72
        go_wp2
        go_ret
        exact ⟨ret_int H.out.symm, rfl⟩
      · have H := Lib.hid (show classS k = -3 by unfold classS; rw [if_neg h, if_neg h1, if_neg h2])
        by_cases h3 : 1 ≤ k
        · have hd : decide (k ≤ 50) = false := decide_eq_false (by omega)
          clear h
          go_enter Try.func72, Try.ntmps72
          go_wp2
          go_ret
          exact ⟨ret_int H.out.symm, rfl⟩
        · have hd : decide (1 ≤ k) = false := decide_eq_false h3
          clear h
          go_enter Try.func72, Try.ntmps72
          go_wp2
          go_ret
          exact ⟨ret_int H.out.symm, rfl⟩
end Go.Proofs.Ytapcapcbndooiaa
