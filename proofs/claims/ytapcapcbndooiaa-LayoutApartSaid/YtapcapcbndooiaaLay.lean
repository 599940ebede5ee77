import Derived.Test.YtapcapcbndooiaaRows
import Derived.WalkKit
import Derived.ProofKit
import Derived.OpenShut
import Derived.Deep.QuietTactic
import Derived.BigQuiet
import Derived.Outline
import Derived.Lib.Hide
namespace Go.Proofs.Ytapcapcbndooiaa
open Go.ChangeShapes Go.WideShapes Go.ChangeAt Go.RowKit
set_option linter.unusedVariables false
theorem ret_int {k : IntKind} {a b : Int} (h : a = b) : Ending.returned (.int k a) = .returned (.int k b) := by rw [h]
theorem ret_bool {a b : Bool} (h : a = b) : Ending.returned (.bool a) = .returned (.bool b) := by rw [h]
theorem isIn_c (v lo hi : Int) (b : Bool) (w : World) (h : b = decide (lo ≤ v ∧ v ≤ hi)) : Calls Try.prog 106 #[.int .i64 v, .int .i64 lo, .int .i64 hi] w fun e w' => e = .returned (.bool b) ∧ w = w' := by
  have H := Lib.hid h
  clear h
  by_cases h1 : lo ≤ v
  · by_cases h2 : v ≤ hi
    · go_enter Try.func106, Try.ntmps106
      go_wp2
      go_ret
      exact ⟨ret_bool (by rw [H.out]; simp; omega), rfl⟩
    · have hd : decide (v ≤ hi) = false := decide_eq_false h2
      go_enter Try.func106, Try.ntmps106
      go_wp2
      go_ret
      exact ⟨ret_bool (by rw [H.out]; simp; omega), rfl⟩
  · have hd : decide (lo ≤ v) = false := decide_eq_false h1
    go_enter Try.func106, Try.ntmps106
    go_wp2
    go_ret
    exact ⟨ret_bool (by rw [H.out]; simp; omega), rfl⟩
def addrS (o : Int) : Int := if 1 ≤ o ∧ o ≤ 65536 then 2097152 + 8 * (o - 1) else 0
theorem addr_c (o : Int) (w : World) : Calls Try.prog 63 #[.int .i64 o] w fun e w' => e = .returned (.int .u64 (addrS o)) ∧ w = w' := by
  by_cases h : 1 ≤ o ∧ o ≤ 65536
  · have H := Lib.hid (show addrS o = 2097152 + 8 * (o - 1) from if_pos h)
    obtain ⟨h1, h2⟩ := h
    go_enter Try.func63, Try.ntmps63
    go_wp2_with (go_at_call 106; refine (isIn_c _ _ _ true _ (decide_eq_true (by omega)).symm).mono ?_; rintro e w' ⟨rfl, rfl⟩)
    go_ret
    exact ⟨ret_int H.out.symm, rfl⟩
  · have H := Lib.hid (show addrS o = 0 from if_neg h)
    have HN := Lib.hid h
    clear h
    go_enter Try.func63, Try.ntmps63
    go_wp2_with (go_at_call 106; refine (isIn_c _ _ _ false _ (decide_eq_false HN.out).symm).mono ?_; rintro e w' ⟨rfl, rfl⟩)
    go_ret
    exact ⟨ret_int H.out.symm, rfl⟩
def bytesS (n : Int) : Int := if n < 0 then 0 else (24 + 8 * n) % 18446744073709551616
theorem bytes_c (n : Int) (w : World) (h' : n ≤ 9223372036854775807) : Calls Try.prog 67 #[.int .i64 n] w fun e w' => e = .returned (.int .u64 (bytesS n)) ∧ w = w' := by
  by_cases h : n < 0
  · have H := Lib.hid (show bytesS n = 0 from if_pos h)
    go_enter Try.func67, Try.ntmps67
    go_wp2
    go_ret
    exact ⟨ret_int H.out.symm, rfl⟩
  · have H := Lib.hid (show bytesS n = (24 + 8 * n) % 18446744073709551616 from if_neg h)
    go_enter Try.func67, Try.ntmps67
    go_wp2
    go_ret
    exact ⟨ret_int (by rw [H.out]; simp only [IntKind.wrap_u64]; omega), rfl⟩
def slotS (o s : Int) : Int := if addrS o = 0 ∨ s < 0 then 0 else (addrS o + bytesS s) % 18446744073709551616
theorem addrS_range (o : Int) : 0 ≤ addrS o ∧ addrS o < 4294967296 := by unfold addrS; split <;> omega
theorem bytesS_range (n : Int) : 0 ≤ bytesS n ∧ bytesS n < 18446744073709551616 := by unfold bytesS; split <;> omega
theorem slot_c (o s : Int) (w : World) (h' : s ≤ 9223372036854775807) : Calls Try.prog 65 #[.int .i64 o, .int .i64 s] w fun e w' => e = .returned (.int .u64 (slotS o s)) ∧ w = w' := by
  have ha := addrS_range o
  have hb := bytesS_range s
  by_cases h0 : addrS o = 0
  · have H := Lib.hid (show slotS o s = 0 from if_pos (Or.inl h0))
    go_enter Try.func65, Try.ntmps65
    go_wp2_with (first | (go_at_call 63; refine (addr_c _ _).mono ?_; rintro e w' ⟨rfl, rfl⟩) | (go_at_call 67; refine (bytes_c _ _ (by omega)).mono ?_; rintro e w' ⟨rfl, rfl⟩))
    go_ret
    exact ⟨ret_int H.out.symm, rfl⟩
  · by_cases h1 : s < 0
    · have H := Lib.hid (show slotS o s = 0 from if_pos (Or.inr h1))
      go_enter Try.func65, Try.ntmps65
      go_wp2_with (first | (go_at_call 63; refine (addr_c _ _).mono ?_; rintro e w' ⟨rfl, rfl⟩) | (go_at_call 67; refine (bytes_c _ _ (by omega)).mono ?_; rintro e w' ⟨rfl, rfl⟩))
      go_ret
      exact ⟨ret_int H.out.symm, rfl⟩
    · have H := Lib.hid (show slotS o s = (addrS o + bytesS s) % 18446744073709551616 from if_neg (by omega))
      have hd : decide (s < 0) = false := decide_eq_false h1
      go_enter Try.func65, Try.ntmps65
      go_wp2_with (first | (go_at_call 63; refine (addr_c _ _).mono ?_; rintro e w' ⟨rfl, rfl⟩) | (go_at_call 67; refine (bytes_c _ _ (by omega)).mono ?_; rintro e w' ⟨rfl, rfl⟩))
      go_ret
      exact ⟨ret_int (by rw [H.out]; try rw [IntKind.wrap_u64]), rfl⟩
def stackLo (c : Int) : Int := if 0 ≤ c ∧ c ≤ 3 then 1048576 + 131072 * c else 0
def stackHi (c : Int) : Int := if 0 ≤ c ∧ c ≤ 3 then 1048576 + 131072 * c + 131072 else 0
theorem stack_c (c : Int) (w : World) : Calls Try.prog 59 #[.int .i64 c] w fun e w' => e = .returned (.tuple #[.int .u64 (stackLo c), .int .u64 (stackHi c)]) ∧ w = w' := by
  by_cases h : 0 ≤ c ∧ c ≤ 3
  · have H := Lib.hid (show stackLo c = 1048576 + 131072 * c from if_pos h)
    have H2 := Lib.hid (show stackHi c = 1048576 + 131072 * c + 131072 from if_pos h)
    obtain ⟨h1, h2⟩ := h
    go_enter Try.func59, Try.ntmps59
    go_wp2_with (go_at_call 106; refine (isIn_c _ _ _ true _ (decide_eq_true (by omega)).symm).mono ?_; rintro e w' ⟨rfl, rfl⟩)
    go_ret2
    exact ⟨by rw [H.out, H2.out]; rfl, rfl⟩
  · have H := Lib.hid (show stackLo c = 0 from if_neg h)
    have H2 := Lib.hid (show stackHi c = 0 from if_neg h)
    have HN := Lib.hid h
    clear h
    go_enter Try.func59, Try.ntmps59
    go_wp2_with (go_at_call 106; refine (isIn_c _ _ _ false _ (decide_eq_false HN.out).symm).mono ?_; rintro e w' ⟨rfl, rfl⟩)
    go_ret2
    exact ⟨by rw [H.out, H2.out]; rfl, rfl⟩
def objS (a : Int) : Int := if 2097152 ≤ a ∧ a < 2621440 ∧ a % 8 = 0 then (a - 2097152) / 8 + 1 else 0
theorem obj_c (a : Int) (w : World) (h0 : 0 ≤ a) (h0' : a < 18446744073709551616) : Calls Try.prog 61 #[.int .u64 a] w fun e w' => e = .returned (.int .i64 (objS a)) ∧ w = w' := by
  by_cases h : 2097152 ≤ a ∧ a < 2621440 ∧ a % 8 = 0
  · have H := Lib.hid (show objS a = (a - 2097152) / 8 + 1 from if_pos h)
    obtain ⟨h1, h2, h3⟩ := h
    go_enter Try.func61, Try.ntmps61
    go_wp2
    go_ret
    exact ⟨ret_int H.out.symm, rfl⟩
  · have H := Lib.hid (show objS a = 0 from if_neg h)
    by_cases h1 : 2097152 ≤ a
    · by_cases h2 : a < 2621440
      · have h3 : ¬ a % 8 = 0 := fun g => h ⟨h1, h2, g⟩
        clear h
        have hd : (a % 8 != 0) = true := by simpa using h3
        go_enter Try.func61, Try.ntmps61
        go_wp2
        go_ret
        exact ⟨ret_int H.out.symm, rfl⟩
      · clear h
        have hd : decide (2621440 ≤ a) = true := decide_eq_true (by omega)
        go_enter Try.func61, Try.ntmps61
        go_wp2
        go_ret
        exact ⟨ret_int H.out.symm, rfl⟩
    · clear h
      go_enter Try.func61, Try.ntmps61
      go_wp2
      go_ret
      exact ⟨ret_int H.out.symm, rfl⟩
def kindS (c : Int) : Int := if 0 ≤ c ∧ c ≤ 49 then c + 1 else if c = -1 then 4294967297 else if c = -2 then 4294967298 else 0
theorem kind_c (c : Int) (w : World) : Calls Try.prog 69 #[.int .i64 c] w fun e w' => e = .returned (.int .u64 (kindS c)) ∧ w = w' := by
  by_cases h : 0 ≤ c ∧ c ≤ 49
  · have H := Lib.hid (show kindS c = c + 1 from if_pos h)
    obtain ⟨h1, h2⟩ := h
    go_enter Try.func69, Try.ntmps69
    go_wp2_with (go_at_call 106; refine (isIn_c _ _ _ true _ (decide_eq_true (by omega)).symm).mono ?_; rintro e w' ⟨rfl, rfl⟩)
    go_ret
    exact ⟨ret_int H.out.symm, rfl⟩
  · by_cases h1 : c = -1
    · subst h1
      go_enter Try.func69, Try.ntmps69
      go_wp2_with (go_at_call 106; refine (isIn_c _ _ _ false _ (decide_eq_false (by omega)).symm).mono ?_; rintro e w' ⟨rfl, rfl⟩)
      go_ret
      exact ⟨rfl, rfl⟩
    · by_cases h2 : c = -2
      · subst h2
        go_enter Try.func69, Try.ntmps69
        go_wp2_with (go_at_call 106; refine (isIn_c _ _ _ false _ (decide_eq_false (by omega)).symm).mono ?_; rintro e w' ⟨rfl, rfl⟩)
        go_ret
        exact ⟨rfl, rfl⟩
      · have H := Lib.hid (show kindS c = 0 by unfold kindS; rw [if_neg h, if_neg h1, if_neg h2])
        have HN := Lib.hid h
        clear h
        go_enter Try.func69, Try.ntmps69
        go_wp2_with (go_at_call 106; refine (isIn_c _ _ _ false _ (decide_eq_false HN.out).symm).mono ?_; rintro e w' ⟨rfl, rfl⟩)
        go_ret
        exact ⟨ret_int H.out.symm, rfl⟩
def classS (k : Int) : Int := if 1 ≤ k ∧ k ≤ 50 then k - 1 else if k = 4294967297 then -1 else if k = 4294967298 then -2 else -3
theorem class_c (k : Int) (w : World) (h0 : 0 ≤ k) (h0' : k < 18446744073709551616) : Calls Try.prog 71 #[.int .u64 k] w fun e w' => e = .returned (.int .i64 (classS k)) ∧ w = w' := by
  by_cases h : 1 ≤ k ∧ k ≤ 50
  · have H := Lib.hid (show classS k = k - 1 from if_pos h)
    obtain ⟨h1, h2⟩ := h
    go_enter Try.func71, Try.ntmps71
    go_wp2
    go_ret
    exact ⟨ret_int H.out.symm, rfl⟩
  · by_cases h1 : k = 4294967297
    · subst h1
      go_enter Try.func71, Try.ntmps71
      go_wp2
      go_ret
      exact ⟨rfl, rfl⟩
    · by_cases h2 : k = 4294967298
      · subst h2
        go_enter Try.func71, Try.ntmps71
        go_wp2
        go_ret
        exact ⟨rfl, rfl⟩
      · have H := Lib.hid (show classS k = -3 by unfold classS; rw [if_neg h, if_neg h1, if_neg h2])
        by_cases h3 : 1 ≤ k
        · have h4 : 50 < k := by omega
          have hd : decide (k ≤ 50) = false := decide_eq_false (by omega)
          clear h
          go_enter Try.func71, Try.ntmps71
          go_wp2
          go_ret
          exact ⟨ret_int H.out.symm, rfl⟩
        · clear h
          go_enter Try.func71, Try.ntmps71
          go_wp2
          go_ret
          exact ⟨ret_int H.out.symm, rfl⟩
theorem known_c (w : World) : Calls Try.prog 51 #[] w fun e w' => e = .returned (.bool true) ∧ w = w' := by
  have e1 : addrS 1 = 2097152 := by decide
  have e2 : objS 2097232 = 11 := by decide
  have e3 : slotS 2 3 = 2097208 := by decide
  have e4 : stackLo 1 = 1179648 := by decide
  have e5 : stackHi 1 = 1310720 := by decide
  have e6 : kindS (-2) = 4294967298 := by decide
  have e7 : classS 4294967298 = -2 := by decide
  go_enter Try.func51, Try.ntmps51
  go_wp2_with (first | (go_at_call 59; refine (stack_c _ _).mono ?_; rintro e w' ⟨rfl, rfl⟩) | (go_at_call 63; refine (addr_c _ _).mono ?_; rintro e w' ⟨rfl, rfl⟩) | (go_at_call 61; refine (obj_c _ _ (by omega) (by omega)).mono ?_; rintro e w' ⟨rfl, rfl⟩) | (go_at_call 65; refine (slot_c _ _ _ (by omega)).mono ?_; rintro e w' ⟨rfl, rfl⟩) | (go_at_call 69; refine (kind_c _ _).mono ?_; rintro e w' ⟨rfl, rfl⟩) | (go_at_call 71; refine (class_c _ _ (by decide) (by decide)).mono ?_; rintro e w' ⟨rfl, rfl⟩))
  go_ret
  exact ⟨rfl, rfl⟩
end Go.Proofs.Ytapcapcbndooiaa
