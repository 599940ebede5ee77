import Derived.Test.YtapcapcbndooiaaRows
import Derived.WalkKit
import Derived.ProofKit
import Derived.OpenShut
import Derived.Deep.QuietTactic
import Derived.BigQuiet
import Derived.Outline
import Derived.WalkSmall
import Derived.WalkLawsBesides
import Derived.WalkSpells
import Derived.BigGuardPart
import Derived.Test.YtapcapcbndooiaaScalars
import Derived.Lib.Hide
namespace Go.Proofs.Ytapcapcbndooiaa
open Go.ChangeShapes Go.WideShapes Go.ChangeAt Go.RowKit
set_option linter.unusedVariables false
def cfg (c0 c1 c2 c3 c4 : Int) : Value := .agg #[.int .i64 c0, .int .i64 c1, .int .i64 c2, .int .i64 c3, .int .i64 c4]
def cells5 (c0 c1 c2 c3 c4 : Int) : Array Value := #[.int .i64 c0, .int .i64 c1, .int .i64 c2, .int .i64 c3, .int .i64 c4]
def inB (v lo hi : Int) : Bool := decide (lo ≤ v ∧ v ≤ hi)
theorem isIn_b (v lo hi : Int) (w : World) : Calls Try.prog 106 #[.int .i64 v, .int .i64 lo, .int .i64 hi] w fun e w' => e = .returned (.bool (inB v lo hi)) ∧ w = w' := isIn_c v lo hi _ w rfl
set_option maxRecDepth 100000 in
set_option maxHeartbeats 2000000 in
theorem check_c (c0 c1 c2 c3 c4 : Int) (w : World) : Calls Try.prog 55 #[.agg #[.int .i64 c0, .int .i64 c1, .int .i64 c2, .int .i64 c3, .int .i64 c4]] w fun e w' => e = .returned (.int .i64 (checkS c0 c1 c2 c3 c4)) ∧ w.alloc (.cells #[.int .i64 c0, .int .i64 c1, .int .i64 c2, .int .i64 c3, .int .i64 c4] 68) = w' := by
  by_cases h : ok5 c0 c1 c2 c3 c4
  · have H := Lib.hid (show checkS c0 c1 c2 c3 c4 = 0 from if_pos h)
    obtain ⟨g0, g1, g2, g3, g4, g5⟩ := h
    have e0 : inB c0 1 4 = true := decide_eq_true g0
    have e1 : inB c1 0 65536 = true := decide_eq_true g1
    have e2 : inB c2 1 200 = true := decide_eq_true g2
    have e3 : inB c3 0 65536 = true := decide_eq_true g3
    have e4 : (c3 % 16 == 0) = true := by simpa using g4
    have e5 : inB c4 0 1048576 = true := decide_eq_true g5
    clear g0 g1 g2 g4 g5
    obtain ⟨l3, u3⟩ := g3
    go_enter Try.func55, Try.ntmps55
    go_wp2_with (go_at_call 106; refine (isIn_b _ _ _ _).mono ?_; rintro e w' ⟨rfl, rfl⟩)
    go_ret
    exact ⟨ret_int H.out.symm, rfl⟩
  · have H := Lib.hid (show checkS c0 c1 c2 c3 c4 = 1 from if_neg h)
    by_cases g0 : 1 ≤ c0 ∧ c0 ≤ 4
    · by_cases g1 : 0 ≤ c1 ∧ c1 ≤ 65536
      · by_cases g2 : 1 ≤ c2 ∧ c2 ≤ 200
        · by_cases g3 : 0 ≤ c3 ∧ c3 ≤ 65536
          · by_cases g4 : c3 % 16 = 0
            · by_cases g5 : 0 ≤ c4 ∧ c4 ≤ 1048576
              · exact absurd ⟨g0, g1, g2, g3, g4, g5⟩ h
              · have e0 : inB c0 1 4 = true := decide_eq_true g0
                have e1 : inB c1 0 65536 = true := decide_eq_true g1
                have e2 : inB c2 1 200 = true := decide_eq_true g2
                have e3 : inB c3 0 65536 = true := decide_eq_true g3
                have e4 : (c3 % 16 == 0) = true := by simpa using g4
                have e5 : inB c4 0 1048576 = false := decide_eq_false g5
                clear h g0 g1 g2 g4 g5
                obtain ⟨l3, u3⟩ := g3
                go_enter Try.func55, Try.ntmps55
                go_wp2_with (go_at_call 106; refine (isIn_b _ _ _ _).mono ?_; rintro e w' ⟨rfl, rfl⟩)
                go_ret
                exact ⟨ret_int H.out.symm, rfl⟩
            · have e0 : inB c0 1 4 = true := decide_eq_true g0
              have e1 : inB c1 0 65536 = true := decide_eq_true g1
              have e2 : inB c2 1 200 = true := decide_eq_true g2
              have e3 : inB c3 0 65536 = true := decide_eq_true g3
              have e4 : (c3 % 16 == 0) = false := by simpa using g4
              clear h g0 g1 g2 g4
              obtain ⟨l3, u3⟩ := g3
              go_enter Try.func55, Try.ntmps55
              go_wp2_with (go_at_call 106; refine (isIn_b _ _ _ _).mono ?_; rintro e w' ⟨rfl, rfl⟩)
              go_ret
              exact ⟨ret_int H.out.symm, rfl⟩
          · have e0 : inB c0 1 4 = true := decide_eq_true g0
            have e1 : inB c1 0 65536 = true := decide_eq_true g1
            have e2 : inB c2 1 200 = true := decide_eq_true g2
            have e3 : inB c3 0 65536 = false := decide_eq_false g3
            clear h g0 g1 g2 g3
            go_enter Try.func55, Try.ntmps55
            go_wp2_with (go_at_call 106; refine (isIn_b _ _ _ _).mono ?_; rintro e w' ⟨rfl, rfl⟩)
            go_ret
            exact ⟨ret_int H.out.symm, rfl⟩
        · have e0 : inB c0 1 4 = true := decide_eq_true g0
          have e1 : inB c1 0 65536 = true := decide_eq_true g1
          have e2 : inB c2 1 200 = false := decide_eq_false g2
          clear h g0 g1 g2
          go_enter Try.func55, Try.ntmps55
          go_wp2_with (go_at_call 106; refine (isIn_b _ _ _ _).mono ?_; rintro e w' ⟨rfl, rfl⟩)
          go_ret
          exact ⟨ret_int H.out.symm, rfl⟩
      · have e0 : inB c0 1 4 = true := decide_eq_true g0
        have e1 : inB c1 0 65536 = false := decide_eq_false g1
        clear h g0 g1
        go_enter Try.func55, Try.ntmps55
        go_wp2_with (go_at_call 106; refine (isIn_b _ _ _ _).mono ?_; rintro e w' ⟨rfl, rfl⟩)
        go_ret
        exact ⟨ret_int H.out.symm, rfl⟩
    · have e0 : inB c0 1 4 = false := decide_eq_false g0
      clear h g0
      go_enter Try.func55, Try.ntmps55
      go_wp2_with (go_at_call 106; refine (isIn_b _ _ _ _).mono ?_; rintro e w' ⟨rfl, rfl⟩)
      go_ret
      exact ⟨ret_int H.out.symm, rfl⟩
set_option maxRecDepth 100000 in
set_option maxHeartbeats 2000000 in
theorem rcheck_c (c0 c1 c2 c3 c4 : Int) (w : World) : Calls Try.prog 56 #[.agg #[.int .i64 c0, .int .i64 c1, .int .i64 c2, .int .i64 c3, .int .i64 c4]] w fun e w' => e = .returned (.int .i64 (checkS c0 c1 c2 c3 c4)) ∧ w.alloc (.cells #[.int .i64 c0, .int .i64 c1, .int .i64 c2, .int .i64 c3, .int .i64 c4] 71) = w' := by
  by_cases h : ok5 c0 c1 c2 c3 c4
  · have H := Lib.hid (show checkS c0 c1 c2 c3 c4 = 0 from if_pos h)
    obtain ⟨⟨h1, h2⟩, ⟨h3, h4⟩, ⟨h5, h6⟩, ⟨h7, h8⟩, h9, h10, h11⟩ := h
    go_enter Try.func56, Try.ntmps56
    go_wp2
    go_ret
    exact ⟨ret_int H.out.symm, rfl⟩
  · have H := Lib.hid (show checkS c0 c1 c2 c3 c4 = 1 from if_neg h)
    unfold ok5 at h
    go_enter Try.func56, Try.ntmps56
    go_wp2
    all_goals (go_ret; exact ⟨ret_int H.out.symm, rfl⟩)
theorem of_c (c0 c1 c2 c3 c4 : Int) (w : World) : Calls Try.prog 54 #[.agg #[.int .i64 c0, .int .i64 c1, .int .i64 c2, .int .i64 c3, .int .i64 c4]] w fun e w' => e = .returned (.agg #[.int .i64 c0, .int .i64 c1, .int .i64 c2, .int .i64 c3, .int .i64 c4]) ∧ Below w.heap.size w w' := by
  go_enter Try.func54, Try.ntmps54
  go_wp2
  exact bodyPost_ret (v := .agg #[.int .i64 c0, .int .i64 c1, .int .i64 c2, .int .i64 c3, .int .i64 c4]) (by simp [results, Try.results54, go_sem]) rfl ⟨rfl, ((Below.refl _ _).alloc (Nat.le_refl _) _).alloc (by simp) _⟩
def hp (c1 : Int) : Int := if c1 < 1 then 8 else 8 * c1
def cd (c3 : Int) : Int := if c3 < 16 then 64 else 4 * c3
def regA (c0 c1 c3 : Int) : Array Value := #[.int .u64 65536, .int .u64 262144, .bool false, .bool true, .int .u64 524288, .int .u64 262144, .bool true, .bool false, .int .u64 1048576, .int .u64 (131072 * c0), .bool true, .bool false, .int .u64 2097152, .int .u64 (hp c1), .bool true, .bool false, .int .u64 3145728, .int .u64 (cd c3), .bool true, .bool true]
end Go.Proofs.Ytapcapcbndooiaa
