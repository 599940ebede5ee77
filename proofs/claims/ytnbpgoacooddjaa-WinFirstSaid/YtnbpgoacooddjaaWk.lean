import Derived.WalkKit
import Derived.ProofKit
import Derived.OpenShut
import Derived.Deep.QuietTactic
import Derived.BigQuiet
import Derived.Outline
import Derived.WalkSmall
import Derived.WalkLawsBesides
import Derived.WalkSpells
import Derived.BigGuardPart
import Derived.RegionTactic
import Derived.Deep.RegionHeld3
import Derived.Lib.Hide
import Derived.Deep.MidRow
import Derived.Below
import Derived.Deep.RegionWith
import Derived.Deep.OwnRows
import Derived.Deep.AppendLies
import Derived.Deep.RegionLaw
import Derived.Laws.BitsAllLaws
import Derived.Laws.BitsLemmas
import Derived.Deep.CutBlock
import Derived.Deep.DeepCutAuto
import Derived.Test.YtnbpgoacooddjaaWa
import Derived.Test.YtnbpgoacooddjaaSfA
namespace Go.Proofs.Ytnbpgoacooddjaa
open Go.ChangeShapes Go.WideShapes Go.ChangeAt Go.RowKit
set_option linter.unusedVariables false
theorem memory_c (o : Int) (w : World) : Calls Try.prog 154 #[.int .i64 o] w fun e w' => e = .returned (.bool (memB o)) ∧ w' = w := by
  by_cases h1 : 28 ≤ o
  · by_cases h2 : o ≤ 36
    · rw [show memB o = true by unfold memB; simp [h1, h2]]; exact mem_y o h1 h2 w
    · rw [show memB o = false by unfold memB; simp [h2]]; exact mem_n2 o h1 (by omega) w
  · rw [show memB o = false by unfold memB; simp [h1]]; exact mem_n1 o (by omega) w
set_option maxRecDepth 100000 in
set_option maxHeartbeats 4000000 in
theorem load_c (o : Int) (w : World) : Calls Try.prog 161 #[.int .i64 o] w fun e w' => e = .returned (.bool (loadB o)) ∧ w' = w := by
  by_cases h28 : o = 28
  · subst h28
    go_enter Try.func161, Try.ntmps161
    go_wp2
    go_ret
    exact ⟨rfl, rfl⟩
  by_cases h30 : o = 30
  · subst h30
    go_enter Try.func161, Try.ntmps161
    go_wp2
    go_ret
    exact ⟨rfl, rfl⟩
  by_cases h31 : o = 31
  · subst h31
    go_enter Try.func161, Try.ntmps161
    go_wp2
    go_ret
    exact ⟨rfl, rfl⟩
  by_cases h33 : o = 33
  · subst h33
    go_enter Try.func161, Try.ntmps161
    go_wp2
    go_ret
    exact ⟨rfl, rfl⟩
  by_cases h35 : o = 35
  · subst h35
    go_enter Try.func161, Try.ntmps161
    go_wp2
    go_ret
    exact ⟨rfl, rfl⟩
  have e28 : (o == 28) = false := by simpa using h28
  have e30 : (o == 30) = false := by simpa using h30
  have e31 : (o == 31) = false := by simpa using h31
  have e33 : (o == 33) = false := by simpa using h33
  have e35 : (o == 35) = false := by simpa using h35
  have HG : Hid (loadB o = false) := Lib.hid (by unfold loadB; simp only [e28, e30, e31, e33, e35]; rfl)
  clear h28 h30 h31 h33 h35
  go_enter Try.func161, Try.ntmps161
  go_wp2
  go_ret
  exact ⟨by rw [HG.out]; rfl, rfl⟩
set_option maxRecDepth 100000 in
set_option maxHeartbeats 4000000 in
theorem store_c (o : Int) (w : World) : Calls Try.prog 155 #[.int .i64 o] w fun e w' => e = .returned (.bool (storeB o)) ∧ w' = w := by
  by_cases h29 : o = 29
  · subst h29
    go_enter Try.func155, Try.ntmps155
    go_wp2
    go_ret
    exact ⟨rfl, rfl⟩
  by_cases h32 : o = 32
  · subst h32
    go_enter Try.func155, Try.ntmps155
    go_wp2
    go_ret
    exact ⟨rfl, rfl⟩
  by_cases h34 : o = 34
  · subst h34
    go_enter Try.func155, Try.ntmps155
    go_wp2
    go_ret
    exact ⟨rfl, rfl⟩
  by_cases h36 : o = 36
  · subst h36
    go_enter Try.func155, Try.ntmps155
    go_wp2
    go_ret
    exact ⟨rfl, rfl⟩
  have e29 : (o == 29) = false := by simpa using h29
  have e32 : (o == 32) = false := by simpa using h32
  have e34 : (o == 34) = false := by simpa using h34
  have e36 : (o == 36) = false := by simpa using h36
  have HG : Hid (storeB o = false) := Lib.hid (by unfold storeB; simp only [e29, e32, e34, e36]; rfl)
  clear h29 h32 h34 h36
  go_enter Try.func155, Try.ntmps155
  go_wp2
  go_ret
  exact ⟨by rw [HG.out]; rfl, rfl⟩
set_option maxRecDepth 100000 in
set_option maxHeartbeats 4000000 in
theorem plain_c (o : Int) (w : World) : Calls Try.prog 160 #[.int .i64 o] w fun e w' => e = .returned (.bool (plainB o)) ∧ w' = w := by
  by_cases h28 : o = 28
  · subst h28
    go_enter Try.func160, Try.ntmps160
    go_wp2
    go_ret
    exact ⟨rfl, rfl⟩
  by_cases h30 : o = 30
  · subst h30
    go_enter Try.func160, Try.ntmps160
    go_wp2
    go_ret
    exact ⟨rfl, rfl⟩
  by_cases h31 : o = 31
  · subst h31
    go_enter Try.func160, Try.ntmps160
    go_wp2
    go_ret
    exact ⟨rfl, rfl⟩
  have e28 : (o == 28) = false := by simpa using h28
  have e30 : (o == 30) = false := by simpa using h30
  have e31 : (o == 31) = false := by simpa using h31
  have HG : Hid (plainB o = false) := Lib.hid (by unfold plainB; simp only [e28, e30, e31]; rfl)
  clear h28 h30 h31
  go_enter Try.func160, Try.ntmps160
  go_wp2
  go_ret
  exact ⟨by rw [HG.out]; rfl, rfl⟩
set_option maxRecDepth 100000 in
theorem touches_c (o : Int) (w : World) : Calls Try.prog 159 #[.int .i64 o] w fun e w' => e = .returned (.bool (tchs o)) ∧ w' = w := by
  have H := Lib.hid (memory_c o)
  cases hm : memB o
  · rw [hm] at H
    by_cases h40 : o = 40
    · subst h40
      clear hm
      go_enter Try.func159, Try.ntmps159
      go_wp2_with (first | (go_at_call 154; refine (H.out _).mono ?_; rintro e w' ⟨rfl, rfl⟩))
      go_ret
      exact ⟨rfl, rfl⟩
    · have e40 : (o == 40) = false := by simpa using h40
      by_cases h41 : o = 41
      · subst h41
        clear hm
        go_enter Try.func159, Try.ntmps159
        go_wp2_with (first | (go_at_call 154; refine (H.out _).mono ?_; rintro e w' ⟨rfl, rfl⟩))
        go_ret
        exact ⟨rfl, rfl⟩
      · have e41 : (o == 41) = false := by simpa using h41
        have HG : Hid (tchs o = false) := Lib.hid (by unfold tchs; rw [hm, e40, e41]; rfl)
        clear hm h40 h41
        go_enter Try.func159, Try.ntmps159
        go_wp2_with (first | (go_at_call 154; refine (H.out _).mono ?_; rintro e w' ⟨rfl, rfl⟩))
        go_ret
        exact ⟨by rw [HG.out]; rfl, rfl⟩
  · rw [hm] at H
    have HG : Hid (tchs o = true) := Lib.hid (by unfold tchs; rw [hm]; rfl)
    clear hm
    go_enter Try.func159, Try.ntmps159
    go_wp2_with (first | (go_at_call 154; refine (H.out _).mono ?_; rintro e w' ⟨rfl, rfl⟩))
    go_ret
    exact ⟨by rw [HG.out]; rfl, rfl⟩
end Go.Proofs.Ytnbpgoacooddjaa
