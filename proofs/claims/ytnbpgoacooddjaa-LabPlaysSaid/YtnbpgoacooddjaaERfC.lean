import Derived.Test.YtnbpgoacooddjaaRows
import Derived.WalkKit
import Derived.ProofKit
import Derived.OpenShut
import Derived.Outline
import Derived.WalkSmall
import Derived.WalkLawsBesides
import Derived.WalkSpells
import Derived.BigGuardPart
import Derived.RegionTactic
import Derived.Lib.Hide
import Derived.Below
import Derived.Deep.RegionWith
import Derived.Deep.RegionHeld3
import Derived.Test.YtnbpgoacooddjaaERfA
namespace Go.Proofs.Ytnbpgoacooddjaa.Fr
end Go.Proofs.Ytnbpgoacooddjaa.Fr
namespace Go.Proofs.Ytnbpgoacooddjaa.En
open Go.Proofs.Ytnbpgoacooddjaa.Fr
open Go.ChangeShapes Go.WideShapes Go.ChangeAt Go.RowKit
set_option linter.unusedVariables false
set_option maxRecDepth 100000 in
set_option maxHeartbeats 2000000 in
theorem rcheck_1 (d n m a c i : Int) (w : World) : Calls Try.prog 83 #[.agg #[.int .i64 1, .int .i64 d, .int .i64 n, .int .i64 m, .int .i64 a, .int .i64 c, .int .i64 i]] w fun e w' => e = .returned (.int .i64 (er (ok_1 d n m a c i))) ∧ Below w.heap.size w w' := by
  rcases xd : (d == 0)
  · have hk : ok_1 d n m a c i = false := by
      simp [ok_1, xd]
    rw [hk]
    exact rck_d 1 d n m a c i false false false false false false w (by decide) (by decide) rfields_1 (fun w => by have := reg_n d w; rw [xd] at this; exact this)
  · skip
    rcases xn : (n == 0)
    · have hk : ok_1 d n m a c i = false := by
        simp [ok_1, xn]
      rw [hk]
      exact rck_n 1 d n m a c i false false false false false false w (by decide) (by decide) rfields_1 (fun w => by have := reg_n d w; rw [xd] at this; exact this) (fun w => by have := reg_n n w; rw [xn] at this; exact this)
    · skip
      rcases xm : (m == 0)
      · have hk : ok_1 d n m a c i = false := by
          simp [ok_1, xm]
        rw [hk]
        exact rck_m 1 d n m a c i false false false false false false w (by decide) (by decide) rfields_1 (fun w => by have := reg_n d w; rw [xd] at this; exact this) (fun w => by have := reg_n n w; rw [xn] at this; exact this) (fun w => by have := reg_n m w; rw [xm] at this; exact this)
      · skip
        rcases xa : (a == 0)
        · have hk : ok_1 d n m a c i = false := by
            simp [ok_1, xa]
          rw [hk]
          exact rck_a 1 d n m a c i false false false false false false w (by decide) (by decide) rfields_1 (fun w => by have := reg_n d w; rw [xd] at this; exact this) (fun w => by have := reg_n n w; rw [xn] at this; exact this) (fun w => by have := reg_n m w; rw [xm] at this; exact this) (fun w => by have := reg_n a w; rw [xa] at this; exact this)
        · skip
          rcases xi : ((i == 0))
          · have hk : ok_1 d n m a c i = false := by
              simp [ok_1, xi]
            rw [hk]
            exact rck_i 1 d n m a c i false false false false false false w (by decide) (by decide) rfields_1 (fun w => by have := reg_n d w; rw [xd] at this; exact this) (fun w => by have := reg_n n w; rw [xn] at this; exact this) (fun w => by have := reg_n m w; rw [xm] at this; exact this) (fun w => by have := reg_n a w; rw [xa] at this; exact this) (fun w => by have := rimm_1 d n m a c i w; rw [xi] at this; exact this)
          · skip
            have Hxd := Lib.hid (fun w => (by have := reg_n d w; rw [xd] at this; exact this) : ∀ w, Calls Try.prog 168 #[.bool false, .int .i64 d] w fun e w' => e = .returned (.bool true) ∧ w' = w)
            have Hxn := Lib.hid (fun w => (by have := reg_n n w; rw [xn] at this; exact this) : ∀ w, Calls Try.prog 168 #[.bool false, .int .i64 n] w fun e w' => e = .returned (.bool true) ∧ w' = w)
            have Hxm := Lib.hid (fun w => (by have := reg_n m w; rw [xm] at this; exact this) : ∀ w, Calls Try.prog 168 #[.bool false, .int .i64 m] w fun e w' => e = .returned (.bool true) ∧ w' = w)
            have Hxa := Lib.hid (fun w => (by have := reg_n a w; rw [xa] at this; exact this) : ∀ w, Calls Try.prog 168 #[.bool false, .int .i64 a] w fun e w' => e = .returned (.bool true) ∧ w' = w)
            have Hxi := Lib.hid (fun w => (by have := rimm_1 d n m a c i w; rw [xi] at this; exact this) : ∀ w, Calls Try.prog 169 #[.agg #[.int .i64 1, .int .i64 d, .int .i64 n, .int .i64 m, .int .i64 a, .int .i64 c, .int .i64 i]] w fun e w' => e = .returned (.bool true) ∧ Below w.heap.size w w')
            have hk : ok_1 d n m a c i = (c == 0) := by simp [ok_1, xd, xn, xm, xa, xi]
            have HK := Lib.hid hk
            clear hk xd xn xm xa xi
            go_enter Try.func83, Try.ntmps83
            go_wp2_with (first | (go_at_call 167; refine (rfields_1 _).mono ?_; rintro e w' ⟨rfl, rfl⟩) | (go_at_call 168; (with_reducible refine (Hxd.out _).mono ?_); rintro e w' ⟨rfl, rfl⟩) | (go_at_call 168; (with_reducible refine (Hxn.out _).mono ?_); rintro e w' ⟨rfl, rfl⟩) | (go_at_call 168; (with_reducible refine (Hxm.out _).mono ?_); rintro e w' ⟨rfl, rfl⟩) | (go_at_call 168; (with_reducible refine (Hxa.out _).mono ?_); rintro e w' ⟨rfl, rfl⟩) | (go_at_call 169; refine (Hxi.out _).mono ?_; rintro e w2 ⟨rfl, hb2⟩; have HB2 := Lib.hid (((Below.refl _ _).alloc (Nat.le_refl _) _).trans (hb2.mono (by simp)) : Below w.heap.size w w2); have HI2 := Lib.hid ((InsC.new w (.int .i64 1) (.int .i64 d) (.int .i64 n) (.int .i64 m) (.int .i64 a) (.int .i64 c) (.int .i64 i)).below' hb2 rfl); obtain ⟨hl, i0, i1, i2, i3, i4, i5, i6⟩ := HI2.out; clear hb2))
            all_goals
              go_ret
              exact ⟨ret_er (by rw [HK.out]; first | rfl | (simp [er]; omega) | (simp [er, *]; done) | (simp_all [er]; omega)), HB2.out⟩
set_option maxRecDepth 100000 in
set_option maxHeartbeats 2000000 in
theorem rcheck_5 (d n m a c i : Int) (w : World) : Calls Try.prog 83 #[.agg #[.int .i64 5, .int .i64 d, .int .i64 n, .int .i64 m, .int .i64 a, .int .i64 c, .int .i64 i]] w fun e w' => e = .returned (.int .i64 (er (ok_5 d n m a c i))) ∧ Below w.heap.size w w' := by
  rcases xd : (wi d 0 31)
  · have hk : ok_5 d n m a c i = false := by
      simp [ok_5, xd]
    rw [hk]
    exact rck_d 5 d n m a c i true true false false false true w (by decide) (by decide) rfields_5 (fun w => by have := reg_y d w; rw [xd] at this; exact this)
  · skip
    rcases xn : (wi n 0 31)
    · have hk : ok_5 d n m a c i = false := by
        simp [ok_5, xn]
      rw [hk]
      exact rck_n 5 d n m a c i true true false false false true w (by decide) (by decide) rfields_5 (fun w => by have := reg_y d w; rw [xd] at this; exact this) (fun w => by have := reg_y n w; rw [xn] at this; exact this)
    · skip
      rcases xm : (m == 0)
      · have hk : ok_5 d n m a c i = false := by
          simp [ok_5, xm]
        rw [hk]
        exact rck_m 5 d n m a c i true true false false false true w (by decide) (by decide) rfields_5 (fun w => by have := reg_y d w; rw [xd] at this; exact this) (fun w => by have := reg_y n w; rw [xn] at this; exact this) (fun w => by have := reg_n m w; rw [xm] at this; exact this)
      · skip
        rcases xa : (a == 0)
        · have hk : ok_5 d n m a c i = false := by
            simp [ok_5, xa]
          rw [hk]
          exact rck_a 5 d n m a c i true true false false false true w (by decide) (by decide) rfields_5 (fun w => by have := reg_y d w; rw [xd] at this; exact this) (fun w => by have := reg_y n w; rw [xn] at this; exact this) (fun w => by have := reg_n m w; rw [xm] at this; exact this) (fun w => by have := reg_n a w; rw [xa] at this; exact this)
        · skip
          rcases xi : ((wi i 0 4095))
          · have hk : ok_5 d n m a c i = false := by
              simp [ok_5, xi]
            rw [hk]
            exact rck_i 5 d n m a c i true true false false false true w (by decide) (by decide) rfields_5 (fun w => by have := reg_y d w; rw [xd] at this; exact this) (fun w => by have := reg_y n w; rw [xn] at this; exact this) (fun w => by have := reg_n m w; rw [xm] at this; exact this) (fun w => by have := reg_n a w; rw [xa] at this; exact this) (fun w => by have := rimm_5 d n m a c i w; rw [xi] at this; exact this)
          · skip
            have Hxd := Lib.hid (fun w => (by have := reg_y d w; rw [xd] at this; exact this) : ∀ w, Calls Try.prog 168 #[.bool true, .int .i64 d] w fun e w' => e = .returned (.bool true) ∧ w' = w)
            have Hxn := Lib.hid (fun w => (by have := reg_y n w; rw [xn] at this; exact this) : ∀ w, Calls Try.prog 168 #[.bool true, .int .i64 n] w fun e w' => e = .returned (.bool true) ∧ w' = w)
            have Hxm := Lib.hid (fun w => (by have := reg_n m w; rw [xm] at this; exact this) : ∀ w, Calls Try.prog 168 #[.bool false, .int .i64 m] w fun e w' => e = .returned (.bool true) ∧ w' = w)
            have Hxa := Lib.hid (fun w => (by have := reg_n a w; rw [xa] at this; exact this) : ∀ w, Calls Try.prog 168 #[.bool false, .int .i64 a] w fun e w' => e = .returned (.bool true) ∧ w' = w)
            have Hxi := Lib.hid (fun w => (by have := rimm_5 d n m a c i w; rw [xi] at this; exact this) : ∀ w, Calls Try.prog 169 #[.agg #[.int .i64 5, .int .i64 d, .int .i64 n, .int .i64 m, .int .i64 a, .int .i64 c, .int .i64 i]] w fun e w' => e = .returned (.bool true) ∧ Below w.heap.size w w')
            have hk : ok_5 d n m a c i = (c == 0) := by simp [ok_5, xd, xn, xm, xa, xi]
            have HK := Lib.hid hk
            clear hk xd xn xm xa xi
            go_enter Try.func83, Try.ntmps83
            go_wp2_with (first | (go_at_call 167; refine (rfields_5 _).mono ?_; rintro e w' ⟨rfl, rfl⟩) | (go_at_call 168; (with_reducible refine (Hxd.out _).mono ?_); rintro e w' ⟨rfl, rfl⟩) | (go_at_call 168; (with_reducible refine (Hxn.out _).mono ?_); rintro e w' ⟨rfl, rfl⟩) | (go_at_call 168; (with_reducible refine (Hxm.out _).mono ?_); rintro e w' ⟨rfl, rfl⟩) | (go_at_call 168; (with_reducible refine (Hxa.out _).mono ?_); rintro e w' ⟨rfl, rfl⟩) | (go_at_call 169; refine (Hxi.out _).mono ?_; rintro e w2 ⟨rfl, hb2⟩; have HB2 := Lib.hid (((Below.refl _ _).alloc (Nat.le_refl _) _).trans (hb2.mono (by simp)) : Below w.heap.size w w2); have HI2 := Lib.hid ((InsC.new w (.int .i64 5) (.int .i64 d) (.int .i64 n) (.int .i64 m) (.int .i64 a) (.int .i64 c) (.int .i64 i)).below' hb2 rfl); obtain ⟨hl, i0, i1, i2, i3, i4, i5, i6⟩ := HI2.out; clear hb2))
            all_goals
              go_ret
              exact ⟨ret_er (by rw [HK.out]; first | rfl | (simp [er]; omega) | (simp [er, *]; done) | (simp_all [er]; omega)), HB2.out⟩
set_option maxRecDepth 100000 in
set_option maxHeartbeats 2000000 in
theorem rcheck_9 (d n m a c i : Int) (w : World) : Calls Try.prog 83 #[.agg #[.int .i64 9, .int .i64 d, .int .i64 n, .int .i64 m, .int .i64 a, .int .i64 c, .int .i64 i]] w fun e w' => e = .returned (.int .i64 (er (ok_9 d n m a c i))) ∧ Below w.heap.size w w' := by
  rcases xd : (wi d 0 31)
  · have hk : ok_9 d n m a c i = false := by
      simp [ok_9, xd]
    rw [hk]
    exact rck_d 9 d n m a c i true true true false false false w (by decide) (by decide) rfields_9 (fun w => by have := reg_y d w; rw [xd] at this; exact this)
  · skip
    rcases xn : (wi n 0 31)
    · have hk : ok_9 d n m a c i = false := by
        simp [ok_9, xn]
      rw [hk]
      exact rck_n 9 d n m a c i true true true false false false w (by decide) (by decide) rfields_9 (fun w => by have := reg_y d w; rw [xd] at this; exact this) (fun w => by have := reg_y n w; rw [xn] at this; exact this)
    · skip
      rcases xm : (wi m 0 31)
      · have hk : ok_9 d n m a c i = false := by
          simp [ok_9, xm]
        rw [hk]
        exact rck_m 9 d n m a c i true true true false false false w (by decide) (by decide) rfields_9 (fun w => by have := reg_y d w; rw [xd] at this; exact this) (fun w => by have := reg_y n w; rw [xn] at this; exact this) (fun w => by have := reg_y m w; rw [xm] at this; exact this)
      · skip
        rcases xa : (a == 0)
        · have hk : ok_9 d n m a c i = false := by
            simp [ok_9, xa]
          rw [hk]
          exact rck_a 9 d n m a c i true true true false false false w (by decide) (by decide) rfields_9 (fun w => by have := reg_y d w; rw [xd] at this; exact this) (fun w => by have := reg_y n w; rw [xn] at this; exact this) (fun w => by have := reg_y m w; rw [xm] at this; exact this) (fun w => by have := reg_n a w; rw [xa] at this; exact this)
        · skip
          rcases xi : ((i == 0))
          · have hk : ok_9 d n m a c i = false := by
              simp [ok_9, xi]
            rw [hk]
            exact rck_i 9 d n m a c i true true true false false false w (by decide) (by decide) rfields_9 (fun w => by have := reg_y d w; rw [xd] at this; exact this) (fun w => by have := reg_y n w; rw [xn] at this; exact this) (fun w => by have := reg_y m w; rw [xm] at this; exact this) (fun w => by have := reg_n a w; rw [xa] at this; exact this) (fun w => by have := rimm_9 d n m a c i w; rw [xi] at this; exact this)
          · skip
            have Hxd := Lib.hid (fun w => (by have := reg_y d w; rw [xd] at this; exact this) : ∀ w, Calls Try.prog 168 #[.bool true, .int .i64 d] w fun e w' => e = .returned (.bool true) ∧ w' = w)
            have Hxn := Lib.hid (fun w => (by have := reg_y n w; rw [xn] at this; exact this) : ∀ w, Calls Try.prog 168 #[.bool true, .int .i64 n] w fun e w' => e = .returned (.bool true) ∧ w' = w)
            have Hxm := Lib.hid (fun w => (by have := reg_y m w; rw [xm] at this; exact this) : ∀ w, Calls Try.prog 168 #[.bool true, .int .i64 m] w fun e w' => e = .returned (.bool true) ∧ w' = w)
            have Hxa := Lib.hid (fun w => (by have := reg_n a w; rw [xa] at this; exact this) : ∀ w, Calls Try.prog 168 #[.bool false, .int .i64 a] w fun e w' => e = .returned (.bool true) ∧ w' = w)
            have Hxi := Lib.hid (fun w => (by have := rimm_9 d n m a c i w; rw [xi] at this; exact this) : ∀ w, Calls Try.prog 169 #[.agg #[.int .i64 9, .int .i64 d, .int .i64 n, .int .i64 m, .int .i64 a, .int .i64 c, .int .i64 i]] w fun e w' => e = .returned (.bool true) ∧ Below w.heap.size w w')
            have hk : ok_9 d n m a c i = (c == 0) := by simp [ok_9, xd, xn, xm, xa, xi]
            have HK := Lib.hid hk
            clear hk xd xn xm xa xi
            go_enter Try.func83, Try.ntmps83
            go_wp2_with (first | (go_at_call 167; refine (rfields_9 _).mono ?_; rintro e w' ⟨rfl, rfl⟩) | (go_at_call 168; (with_reducible refine (Hxd.out _).mono ?_); rintro e w' ⟨rfl, rfl⟩) | (go_at_call 168; (with_reducible refine (Hxn.out _).mono ?_); rintro e w' ⟨rfl, rfl⟩) | (go_at_call 168; (with_reducible refine (Hxm.out _).mono ?_); rintro e w' ⟨rfl, rfl⟩) | (go_at_call 168; (with_reducible refine (Hxa.out _).mono ?_); rintro e w' ⟨rfl, rfl⟩) | (go_at_call 169; refine (Hxi.out _).mono ?_; rintro e w2 ⟨rfl, hb2⟩; have HB2 := Lib.hid (((Below.refl _ _).alloc (Nat.le_refl _) _).trans (hb2.mono (by simp)) : Below w.heap.size w w2); have HI2 := Lib.hid ((InsC.new w (.int .i64 9) (.int .i64 d) (.int .i64 n) (.int .i64 m) (.int .i64 a) (.int .i64 c) (.int .i64 i)).below' hb2 rfl); obtain ⟨hl, i0, i1, i2, i3, i4, i5, i6⟩ := HI2.out; clear hb2))
            all_goals
              go_ret
              exact ⟨ret_er (by rw [HK.out]; first | rfl | (simp [er]; omega) | (simp [er, *]; done) | (simp_all [er]; omega)), HB2.out⟩
set_option maxRecDepth 100000 in
set_option maxHeartbeats 2000000 in
theorem rcheck_13 (d n m a c i : Int) (w : World) : Calls Try.prog 83 #[.agg #[.int .i64 13, .int .i64 d, .int .i64 n, .int .i64 m, .int .i64 a, .int .i64 c, .int .i64 i]] w fun e w' => e = .returned (.int .i64 (er (ok_13 d n m a c i))) ∧ Below w.heap.size w w' := by
  rcases xd : (wi d 0 31)
  · have hk : ok_13 d n m a c i = false := by
      simp [ok_13, xd]
    rw [hk]
    exact rck_d 13 d n m a c i true true true true false false w (by decide) (by decide) rfields_13 (fun w => by have := reg_y d w; rw [xd] at this; exact this)
  · skip
    rcases xn : (wi n 0 31)
    · have hk : ok_13 d n m a c i = false := by
        simp [ok_13, xn]
      rw [hk]
      exact rck_n 13 d n m a c i true true true true false false w (by decide) (by decide) rfields_13 (fun w => by have := reg_y d w; rw [xd] at this; exact this) (fun w => by have := reg_y n w; rw [xn] at this; exact this)
    · skip
      rcases xm : (wi m 0 31)
      · have hk : ok_13 d n m a c i = false := by
          simp [ok_13, xm]
        rw [hk]
        exact rck_m 13 d n m a c i true true true true false false w (by decide) (by decide) rfields_13 (fun w => by have := reg_y d w; rw [xd] at this; exact this) (fun w => by have := reg_y n w; rw [xn] at this; exact this) (fun w => by have := reg_y m w; rw [xm] at this; exact this)
      · skip
        rcases xa : (wi a 0 31)
        · have hk : ok_13 d n m a c i = false := by
            simp [ok_13, xa]
          rw [hk]
          exact rck_a 13 d n m a c i true true true true false false w (by decide) (by decide) rfields_13 (fun w => by have := reg_y d w; rw [xd] at this; exact this) (fun w => by have := reg_y n w; rw [xn] at this; exact this) (fun w => by have := reg_y m w; rw [xm] at this; exact this) (fun w => by have := reg_y a w; rw [xa] at this; exact this)
        · skip
          rcases xi : ((i == 0))
          · have hk : ok_13 d n m a c i = false := by
              simp [ok_13, xi]
            rw [hk]
            exact rck_i 13 d n m a c i true true true true false false w (by decide) (by decide) rfields_13 (fun w => by have := reg_y d w; rw [xd] at this; exact this) (fun w => by have := reg_y n w; rw [xn] at this; exact this) (fun w => by have := reg_y m w; rw [xm] at this; exact this) (fun w => by have := reg_y a w; rw [xa] at this; exact this) (fun w => by have := rimm_13 d n m a c i w; rw [xi] at this; exact this)
          · skip
            have Hxd := Lib.hid (fun w => (by have := reg_y d w; rw [xd] at this; exact this) : ∀ w, Calls Try.prog 168 #[.bool true, .int .i64 d] w fun e w' => e = .returned (.bool true) ∧ w' = w)
            have Hxn := Lib.hid (fun w => (by have := reg_y n w; rw [xn] at this; exact this) : ∀ w, Calls Try.prog 168 #[.bool true, .int .i64 n] w fun e w' => e = .returned (.bool true) ∧ w' = w)
            have Hxm := Lib.hid (fun w => (by have := reg_y m w; rw [xm] at this; exact this) : ∀ w, Calls Try.prog 168 #[.bool true, .int .i64 m] w fun e w' => e = .returned (.bool true) ∧ w' = w)
            have Hxa := Lib.hid (fun w => (by have := reg_y a w; rw [xa] at this; exact this) : ∀ w, Calls Try.prog 168 #[.bool true, .int .i64 a] w fun e w' => e = .returned (.bool true) ∧ w' = w)
            have Hxi := Lib.hid (fun w => (by have := rimm_13 d n m a c i w; rw [xi] at this; exact this) : ∀ w, Calls Try.prog 169 #[.agg #[.int .i64 13, .int .i64 d, .int .i64 n, .int .i64 m, .int .i64 a, .int .i64 c, .int .i64 i]] w fun e w' => e = .returned (.bool true) ∧ Below w.heap.size w w')
            have hk : ok_13 d n m a c i = (c == 0) := by simp [ok_13, xd, xn, xm, xa, xi]
            have HK := Lib.hid hk
            clear hk xd xn xm xa xi
            go_enter Try.func83, Try.ntmps83
            go_wp2_with (first | (go_at_call 167; refine (rfields_13 _).mono ?_; rintro e w' ⟨rfl, rfl⟩) | (go_at_call 168; (with_reducible refine (Hxd.out _).mono ?_); rintro e w' ⟨rfl, rfl⟩) | (go_at_call 168; (with_reducible refine (Hxn.out _).mono ?_); rintro e w' ⟨rfl, rfl⟩) | (go_at_call 168; (with_reducible refine (Hxm.out _).mono ?_); rintro e w' ⟨rfl, rfl⟩) | (go_at_call 168; (with_reducible refine (Hxa.out _).mono ?_); rintro e w' ⟨rfl, rfl⟩) | (go_at_call 169; refine (Hxi.out _).mono ?_; rintro e w2 ⟨rfl, hb2⟩; have HB2 := Lib.hid (((Below.refl _ _).alloc (Nat.le_refl _) _).trans (hb2.mono (by simp)) : Below w.heap.size w w2); have HI2 := Lib.hid ((InsC.new w (.int .i64 13) (.int .i64 d) (.int .i64 n) (.int .i64 m) (.int .i64 a) (.int .i64 c) (.int .i64 i)).below' hb2 rfl); obtain ⟨hl, i0, i1, i2, i3, i4, i5, i6⟩ := HI2.out; clear hb2))
            all_goals
              go_ret
              exact ⟨ret_er (by rw [HK.out]; first | rfl | (simp [er]; omega) | (simp [er, *]; done) | (simp_all [er]; omega)), HB2.out⟩
set_option maxRecDepth 100000 in
set_option maxHeartbeats 2000000 in
theorem rcheck_17 (d n m a c i : Int) (w : World) : Calls Try.prog 83 #[.agg #[.int .i64 17, .int .i64 d, .int .i64 n, .int .i64 m, .int .i64 a, .int .i64 c, .int .i64 i]] w fun e w' => e = .returned (.int .i64 (er (ok_17 d n m a c i))) ∧ Below w.heap.size w w' := by
  rcases xd : (wi d 0 31)
  · have hk : ok_17 d n m a c i = false := by
      simp [ok_17, xd]
    rw [hk]
    exact rck_d 17 d n m a c i true true true false false false w (by decide) (by decide) rfields_17 (fun w => by have := reg_y d w; rw [xd] at this; exact this)
  · skip
    rcases xn : (wi n 0 31)
    · have hk : ok_17 d n m a c i = false := by
        simp [ok_17, xn]
      rw [hk]
      exact rck_n 17 d n m a c i true true true false false false w (by decide) (by decide) rfields_17 (fun w => by have := reg_y d w; rw [xd] at this; exact this) (fun w => by have := reg_y n w; rw [xn] at this; exact this)
    · skip
      rcases xm : (wi m 0 31)
      · have hk : ok_17 d n m a c i = false := by
          simp [ok_17, xm]
        rw [hk]
        exact rck_m 17 d n m a c i true true true false false false w (by decide) (by decide) rfields_17 (fun w => by have := reg_y d w; rw [xd] at this; exact this) (fun w => by have := reg_y n w; rw [xn] at this; exact this) (fun w => by have := reg_y m w; rw [xm] at this; exact this)
      · skip
        rcases xa : (a == 0)
        · have hk : ok_17 d n m a c i = false := by
            simp [ok_17, xa]
          rw [hk]
          exact rck_a 17 d n m a c i true true true false false false w (by decide) (by decide) rfields_17 (fun w => by have := reg_y d w; rw [xd] at this; exact this) (fun w => by have := reg_y n w; rw [xn] at this; exact this) (fun w => by have := reg_y m w; rw [xm] at this; exact this) (fun w => by have := reg_n a w; rw [xa] at this; exact this)
        · skip
          rcases xi : ((i == 0))
          · have hk : ok_17 d n m a c i = false := by
              simp [ok_17, xi]
            rw [hk]
            exact rck_i 17 d n m a c i true true true false false false w (by decide) (by decide) rfields_17 (fun w => by have := reg_y d w; rw [xd] at this; exact this) (fun w => by have := reg_y n w; rw [xn] at this; exact this) (fun w => by have := reg_y m w; rw [xm] at this; exact this) (fun w => by have := reg_n a w; rw [xa] at this; exact this) (fun w => by have := rimm_17 d n m a c i w; rw [xi] at this; exact this)
          · skip
            have Hxd := Lib.hid (fun w => (by have := reg_y d w; rw [xd] at this; exact this) : ∀ w, Calls Try.prog 168 #[.bool true, .int .i64 d] w fun e w' => e = .returned (.bool true) ∧ w' = w)
            have Hxn := Lib.hid (fun w => (by have := reg_y n w; rw [xn] at this; exact this) : ∀ w, Calls Try.prog 168 #[.bool true, .int .i64 n] w fun e w' => e = .returned (.bool true) ∧ w' = w)
            have Hxm := Lib.hid (fun w => (by have := reg_y m w; rw [xm] at this; exact this) : ∀ w, Calls Try.prog 168 #[.bool true, .int .i64 m] w fun e w' => e = .returned (.bool true) ∧ w' = w)
            have Hxa := Lib.hid (fun w => (by have := reg_n a w; rw [xa] at this; exact this) : ∀ w, Calls Try.prog 168 #[.bool false, .int .i64 a] w fun e w' => e = .returned (.bool true) ∧ w' = w)
            have Hxi := Lib.hid (fun w => (by have := rimm_17 d n m a c i w; rw [xi] at this; exact this) : ∀ w, Calls Try.prog 169 #[.agg #[.int .i64 17, .int .i64 d, .int .i64 n, .int .i64 m, .int .i64 a, .int .i64 c, .int .i64 i]] w fun e w' => e = .returned (.bool true) ∧ Below w.heap.size w w')
            have hk : ok_17 d n m a c i = (c == 0) := by simp [ok_17, xd, xn, xm, xa, xi]
            have HK := Lib.hid hk
            clear hk xd xn xm xa xi
            go_enter Try.func83, Try.ntmps83
            go_wp2_with (first | (go_at_call 167; refine (rfields_17 _).mono ?_; rintro e w' ⟨rfl, rfl⟩) | (go_at_call 168; (with_reducible refine (Hxd.out _).mono ?_); rintro e w' ⟨rfl, rfl⟩) | (go_at_call 168; (with_reducible refine (Hxn.out _).mono ?_); rintro e w' ⟨rfl, rfl⟩) | (go_at_call 168; (with_reducible refine (Hxm.out _).mono ?_); rintro e w' ⟨rfl, rfl⟩) | (go_at_call 168; (with_reducible refine (Hxa.out _).mono ?_); rintro e w' ⟨rfl, rfl⟩) | (go_at_call 169; refine (Hxi.out _).mono ?_; rintro e w2 ⟨rfl, hb2⟩; have HB2 := Lib.hid (((Below.refl _ _).alloc (Nat.le_refl _) _).trans (hb2.mono (by simp)) : Below w.heap.size w w2); have HI2 := Lib.hid ((InsC.new w (.int .i64 17) (.int .i64 d) (.int .i64 n) (.int .i64 m) (.int .i64 a) (.int .i64 c) (.int .i64 i)).below' hb2 rfl); obtain ⟨hl, i0, i1, i2, i3, i4, i5, i6⟩ := HI2.out; clear hb2))
            all_goals
              go_ret
              exact ⟨ret_er (by rw [HK.out]; first | rfl | (simp [er]; omega) | (simp [er, *]; done) | (simp_all [er]; omega)), HB2.out⟩
set_option maxRecDepth 100000 in
set_option maxHeartbeats 2000000 in
theorem rcheck_21 (d n m a c i : Int) (w : World) : Calls Try.prog 83 #[.agg #[.int .i64 21, .int .i64 d, .int .i64 n, .int .i64 m, .int .i64 a, .int .i64 c, .int .i64 i]] w fun e w' => e = .returned (.int .i64 (er (ok_21 d n m a c i))) ∧ Below w.heap.size w w' := by
  rcases xd : (d == 0)
  · have hk : ok_21 d n m a c i = false := by
      simp [ok_21, xd]
    rw [hk]
    exact rck_d 21 d n m a c i false false false false true true w (by decide) (by decide) rfields_21 (fun w => by have := reg_n d w; rw [xd] at this; exact this)
  · skip
    rcases xn : (n == 0)
    · have hk : ok_21 d n m a c i = false := by
        simp [ok_21, xn]
      rw [hk]
      exact rck_n 21 d n m a c i false false false false true true w (by decide) (by decide) rfields_21 (fun w => by have := reg_n d w; rw [xd] at this; exact this) (fun w => by have := reg_n n w; rw [xn] at this; exact this)
    · skip
      rcases xm : (m == 0)
      · have hk : ok_21 d n m a c i = false := by
          simp [ok_21, xm]
        rw [hk]
        exact rck_m 21 d n m a c i false false false false true true w (by decide) (by decide) rfields_21 (fun w => by have := reg_n d w; rw [xd] at this; exact this) (fun w => by have := reg_n n w; rw [xn] at this; exact this) (fun w => by have := reg_n m w; rw [xm] at this; exact this)
      · skip
        rcases xa : (a == 0)
        · have hk : ok_21 d n m a c i = false := by
            simp [ok_21, xa]
          rw [hk]
          exact rck_a 21 d n m a c i false false false false true true w (by decide) (by decide) rfields_21 (fun w => by have := reg_n d w; rw [xd] at this; exact this) (fun w => by have := reg_n n w; rw [xn] at this; exact this) (fun w => by have := reg_n m w; rw [xm] at this; exact this) (fun w => by have := reg_n a w; rw [xa] at this; exact this)
        · skip
          rcases xi : ((wm i (-1048576) 1048572 4))
          · have hk : ok_21 d n m a c i = false := by
              simp [ok_21, xi]
            rw [hk]
            exact rck_i 21 d n m a c i false false false false true true w (by decide) (by decide) rfields_21 (fun w => by have := reg_n d w; rw [xd] at this; exact this) (fun w => by have := reg_n n w; rw [xn] at this; exact this) (fun w => by have := reg_n m w; rw [xm] at this; exact this) (fun w => by have := reg_n a w; rw [xa] at this; exact this) (fun w => by have := rimm_21 d n m a c i w; rw [xi] at this; exact this)
          · skip
            have Hxd := Lib.hid (fun w => (by have := reg_n d w; rw [xd] at this; exact this) : ∀ w, Calls Try.prog 168 #[.bool false, .int .i64 d] w fun e w' => e = .returned (.bool true) ∧ w' = w)
            have Hxn := Lib.hid (fun w => (by have := reg_n n w; rw [xn] at this; exact this) : ∀ w, Calls Try.prog 168 #[.bool false, .int .i64 n] w fun e w' => e = .returned (.bool true) ∧ w' = w)
            have Hxm := Lib.hid (fun w => (by have := reg_n m w; rw [xm] at this; exact this) : ∀ w, Calls Try.prog 168 #[.bool false, .int .i64 m] w fun e w' => e = .returned (.bool true) ∧ w' = w)
            have Hxa := Lib.hid (fun w => (by have := reg_n a w; rw [xa] at this; exact this) : ∀ w, Calls Try.prog 168 #[.bool false, .int .i64 a] w fun e w' => e = .returned (.bool true) ∧ w' = w)
            have Hxi := Lib.hid (fun w => (by have := rimm_21 d n m a c i w; rw [xi] at this; exact this) : ∀ w, Calls Try.prog 169 #[.agg #[.int .i64 21, .int .i64 d, .int .i64 n, .int .i64 m, .int .i64 a, .int .i64 c, .int .i64 i]] w fun e w' => e = .returned (.bool true) ∧ Below w.heap.size w w')
            have hk : ok_21 d n m a c i = wi c 0 13 := by simp [ok_21, xd, xn, xm, xa, xi]
            have HK := Lib.hid hk
            clear hk xd xn xm xa xi
            go_enter Try.func83, Try.ntmps83
            go_wp2_with (first | (go_at_call 167; refine (rfields_21 _).mono ?_; rintro e w' ⟨rfl, rfl⟩) | (go_at_call 168; (with_reducible refine (Hxd.out _).mono ?_); rintro e w' ⟨rfl, rfl⟩) | (go_at_call 168; (with_reducible refine (Hxn.out _).mono ?_); rintro e w' ⟨rfl, rfl⟩) | (go_at_call 168; (with_reducible refine (Hxm.out _).mono ?_); rintro e w' ⟨rfl, rfl⟩) | (go_at_call 168; (with_reducible refine (Hxa.out _).mono ?_); rintro e w' ⟨rfl, rfl⟩) | (go_at_call 169; refine (Hxi.out _).mono ?_; rintro e w2 ⟨rfl, hb2⟩; have HB2 := Lib.hid (((Below.refl _ _).alloc (Nat.le_refl _) _).trans (hb2.mono (by simp)) : Below w.heap.size w w2); have HI2 := Lib.hid ((InsC.new w (.int .i64 21) (.int .i64 d) (.int .i64 n) (.int .i64 m) (.int .i64 a) (.int .i64 c) (.int .i64 i)).below' hb2 rfl); obtain ⟨hl, i0, i1, i2, i3, i4, i5, i6⟩ := HI2.out; clear hb2))
            all_goals
              go_ret
              exact ⟨ret_er (by rw [HK.out]; first | rfl | (simp [er, wi]; omega) | (simp [er, wi, *]; done) | (simp_all [er, wi]; omega)), HB2.out⟩
set_option maxRecDepth 100000 in
set_option maxHeartbeats 2000000 in
theorem rcheck_25 (d n m a c i : Int) (w : World) : Calls Try.prog 83 #[.agg #[.int .i64 25, .int .i64 d, .int .i64 n, .int .i64 m, .int .i64 a, .int .i64 c, .int .i64 i]] w fun e w' => e = .returned (.int .i64 (er (ok_25 d n m a c i))) ∧ Below w.heap.size w w' := by
  rcases xd : (d == 0)
  · have hk : ok_25 d n m a c i = false := by
      simp [ok_25, xd]
    rw [hk]
    exact rck_d 25 d n m a c i false true false false false false w (by decide) (by decide) rfields_25 (fun w => by have := reg_n d w; rw [xd] at this; exact this)
  · skip
    rcases xn : (wi n 0 31)
    · have hk : ok_25 d n m a c i = false := by
        simp [ok_25, xn]
      rw [hk]
      exact rck_n 25 d n m a c i false true false false false false w (by decide) (by decide) rfields_25 (fun w => by have := reg_n d w; rw [xd] at this; exact this) (fun w => by have := reg_y n w; rw [xn] at this; exact this)
    · skip
      rcases xm : (m == 0)
      · have hk : ok_25 d n m a c i = false := by
          simp [ok_25, xm]
        rw [hk]
        exact rck_m 25 d n m a c i false true false false false false w (by decide) (by decide) rfields_25 (fun w => by have := reg_n d w; rw [xd] at this; exact this) (fun w => by have := reg_y n w; rw [xn] at this; exact this) (fun w => by have := reg_n m w; rw [xm] at this; exact this)
      · skip
        rcases xa : (a == 0)
        · have hk : ok_25 d n m a c i = false := by
            simp [ok_25, xa]
          rw [hk]
          exact rck_a 25 d n m a c i false true false false false false w (by decide) (by decide) rfields_25 (fun w => by have := reg_n d w; rw [xd] at this; exact this) (fun w => by have := reg_y n w; rw [xn] at this; exact this) (fun w => by have := reg_n m w; rw [xm] at this; exact this) (fun w => by have := reg_n a w; rw [xa] at this; exact this)
        · skip
          rcases xi : ((i == 0))
          · have hk : ok_25 d n m a c i = false := by
              simp [ok_25, xi]
            rw [hk]
            exact rck_i 25 d n m a c i false true false false false false w (by decide) (by decide) rfields_25 (fun w => by have := reg_n d w; rw [xd] at this; exact this) (fun w => by have := reg_y n w; rw [xn] at this; exact this) (fun w => by have := reg_n m w; rw [xm] at this; exact this) (fun w => by have := reg_n a w; rw [xa] at this; exact this) (fun w => by have := rimm_25 d n m a c i w; rw [xi] at this; exact this)
          · skip
            have Hxd := Lib.hid (fun w => (by have := reg_n d w; rw [xd] at this; exact this) : ∀ w, Calls Try.prog 168 #[.bool false, .int .i64 d] w fun e w' => e = .returned (.bool true) ∧ w' = w)
            have Hxn := Lib.hid (fun w => (by have := reg_y n w; rw [xn] at this; exact this) : ∀ w, Calls Try.prog 168 #[.bool true, .int .i64 n] w fun e w' => e = .returned (.bool true) ∧ w' = w)
            have Hxm := Lib.hid (fun w => (by have := reg_n m w; rw [xm] at this; exact this) : ∀ w, Calls Try.prog 168 #[.bool false, .int .i64 m] w fun e w' => e = .returned (.bool true) ∧ w' = w)
            have Hxa := Lib.hid (fun w => (by have := reg_n a w; rw [xa] at this; exact this) : ∀ w, Calls Try.prog 168 #[.bool false, .int .i64 a] w fun e w' => e = .returned (.bool true) ∧ w' = w)
            have Hxi := Lib.hid (fun w => (by have := rimm_25 d n m a c i w; rw [xi] at this; exact this) : ∀ w, Calls Try.prog 169 #[.agg #[.int .i64 25, .int .i64 d, .int .i64 n, .int .i64 m, .int .i64 a, .int .i64 c, .int .i64 i]] w fun e w' => e = .returned (.bool true) ∧ Below w.heap.size w w')
            have hk : ok_25 d n m a c i = (c == 0) := by simp [ok_25, xd, xn, xm, xa, xi]
            have HK := Lib.hid hk
            clear hk xd xn xm xa xi
            go_enter Try.func83, Try.ntmps83
            go_wp2_with (first | (go_at_call 167; refine (rfields_25 _).mono ?_; rintro e w' ⟨rfl, rfl⟩) | (go_at_call 168; (with_reducible refine (Hxd.out _).mono ?_); rintro e w' ⟨rfl, rfl⟩) | (go_at_call 168; (with_reducible refine (Hxn.out _).mono ?_); rintro e w' ⟨rfl, rfl⟩) | (go_at_call 168; (with_reducible refine (Hxm.out _).mono ?_); rintro e w' ⟨rfl, rfl⟩) | (go_at_call 168; (with_reducible refine (Hxa.out _).mono ?_); rintro e w' ⟨rfl, rfl⟩) | (go_at_call 169; refine (Hxi.out _).mono ?_; rintro e w2 ⟨rfl, hb2⟩; have HB2 := Lib.hid (((Below.refl _ _).alloc (Nat.le_refl _) _).trans (hb2.mono (by simp)) : Below w.heap.size w w2); have HI2 := Lib.hid ((InsC.new w (.int .i64 25) (.int .i64 d) (.int .i64 n) (.int .i64 m) (.int .i64 a) (.int .i64 c) (.int .i64 i)).below' hb2 rfl); obtain ⟨hl, i0, i1, i2, i3, i4, i5, i6⟩ := HI2.out; clear hb2))
            all_goals
              go_ret
              exact ⟨ret_er (by rw [HK.out]; first | rfl | (simp [er]; omega) | (simp [er, *]; done) | (simp_all [er]; omega)), HB2.out⟩
set_option maxRecDepth 100000 in
set_option maxHeartbeats 2000000 in
theorem rcheck_29 (d n m a c i : Int) (w : World) : Calls Try.prog 83 #[.agg #[.int .i64 29, .int .i64 d, .int .i64 n, .int .i64 m, .int .i64 a, .int .i64 c, .int .i64 i]] w fun e w' => e = .returned (.int .i64 (er (ok_29 d n m a c i))) ∧ Below w.heap.size w w' := by
  rcases xd : (wi d 0 31)
  · have hk : ok_29 d n m a c i = false := by
      simp [ok_29, xd]
    rw [hk]
    exact rck_d 29 d n m a c i true true false false false true w (by decide) (by decide) rfields_29 (fun w => by have := reg_y d w; rw [xd] at this; exact this)
  · skip
    rcases xn : (wi n 0 31)
    · have hk : ok_29 d n m a c i = false := by
        simp [ok_29, xn]
      rw [hk]
      exact rck_n 29 d n m a c i true true false false false true w (by decide) (by decide) rfields_29 (fun w => by have := reg_y d w; rw [xd] at this; exact this) (fun w => by have := reg_y n w; rw [xn] at this; exact this)
    · skip
      rcases xm : (m == 0)
      · have hk : ok_29 d n m a c i = false := by
          simp [ok_29, xm]
        rw [hk]
        exact rck_m 29 d n m a c i true true false false false true w (by decide) (by decide) rfields_29 (fun w => by have := reg_y d w; rw [xd] at this; exact this) (fun w => by have := reg_y n w; rw [xn] at this; exact this) (fun w => by have := reg_n m w; rw [xm] at this; exact this)
      · skip
        rcases xa : (a == 0)
        · have hk : ok_29 d n m a c i = false := by
            simp [ok_29, xa]
          rw [hk]
          exact rck_a 29 d n m a c i true true false false false true w (by decide) (by decide) rfields_29 (fun w => by have := reg_y d w; rw [xd] at this; exact this) (fun w => by have := reg_y n w; rw [xn] at this; exact this) (fun w => by have := reg_n m w; rw [xm] at this; exact this) (fun w => by have := reg_n a w; rw [xa] at this; exact this)
        · skip
          rcases xi : ((wm i 0 32760 8))
          · have hk : ok_29 d n m a c i = false := by
              simp [ok_29, xi]
            rw [hk]
            exact rck_i 29 d n m a c i true true false false false true w (by decide) (by decide) rfields_29 (fun w => by have := reg_y d w; rw [xd] at this; exact this) (fun w => by have := reg_y n w; rw [xn] at this; exact this) (fun w => by have := reg_n m w; rw [xm] at this; exact this) (fun w => by have := reg_n a w; rw [xa] at this; exact this) (fun w => by have := rimm_29 d n m a c i w; rw [xi] at this; exact this)
          · skip
            have Hxd := Lib.hid (fun w => (by have := reg_y d w; rw [xd] at this; exact this) : ∀ w, Calls Try.prog 168 #[.bool true, .int .i64 d] w fun e w' => e = .returned (.bool true) ∧ w' = w)
            have Hxn := Lib.hid (fun w => (by have := reg_y n w; rw [xn] at this; exact this) : ∀ w, Calls Try.prog 168 #[.bool true, .int .i64 n] w fun e w' => e = .returned (.bool true) ∧ w' = w)
            have Hxm := Lib.hid (fun w => (by have := reg_n m w; rw [xm] at this; exact this) : ∀ w, Calls Try.prog 168 #[.bool false, .int .i64 m] w fun e w' => e = .returned (.bool true) ∧ w' = w)
            have Hxa := Lib.hid (fun w => (by have := reg_n a w; rw [xa] at this; exact this) : ∀ w, Calls Try.prog 168 #[.bool false, .int .i64 a] w fun e w' => e = .returned (.bool true) ∧ w' = w)
            have Hxi := Lib.hid (fun w => (by have := rimm_29 d n m a c i w; rw [xi] at this; exact this) : ∀ w, Calls Try.prog 169 #[.agg #[.int .i64 29, .int .i64 d, .int .i64 n, .int .i64 m, .int .i64 a, .int .i64 c, .int .i64 i]] w fun e w' => e = .returned (.bool true) ∧ Below w.heap.size w w')
            have hk : ok_29 d n m a c i = (c == 0) := by simp [ok_29, xd, xn, xm, xa, xi]
            have HK := Lib.hid hk
            clear hk xd xn xm xa xi
            go_enter Try.func83, Try.ntmps83
            go_wp2_with (first | (go_at_call 167; refine (rfields_29 _).mono ?_; rintro e w' ⟨rfl, rfl⟩) | (go_at_call 168; (with_reducible refine (Hxd.out _).mono ?_); rintro e w' ⟨rfl, rfl⟩) | (go_at_call 168; (with_reducible refine (Hxn.out _).mono ?_); rintro e w' ⟨rfl, rfl⟩) | (go_at_call 168; (with_reducible refine (Hxm.out _).mono ?_); rintro e w' ⟨rfl, rfl⟩) | (go_at_call 168; (with_reducible refine (Hxa.out _).mono ?_); rintro e w' ⟨rfl, rfl⟩) | (go_at_call 169; refine (Hxi.out _).mono ?_; rintro e w2 ⟨rfl, hb2⟩; have HB2 := Lib.hid (((Below.refl _ _).alloc (Nat.le_refl _) _).trans (hb2.mono (by simp)) : Below w.heap.size w w2); have HI2 := Lib.hid ((InsC.new w (.int .i64 29) (.int .i64 d) (.int .i64 n) (.int .i64 m) (.int .i64 a) (.int .i64 c) (.int .i64 i)).below' hb2 rfl); obtain ⟨hl, i0, i1, i2, i3, i4, i5, i6⟩ := HI2.out; clear hb2))
            all_goals
              go_ret
              exact ⟨ret_er (by rw [HK.out]; first | rfl | (simp [er]; omega) | (simp [er, *]; done) | (simp_all [er]; omega)), HB2.out⟩
set_option maxRecDepth 100000 in
set_option maxHeartbeats 2000000 in
theorem rcheck_33 (d n m a c i : Int) (w : World) : Calls Try.prog 83 #[.agg #[.int .i64 33, .int .i64 d, .int .i64 n, .int .i64 m, .int .i64 a, .int .i64 c, .int .i64 i]] w fun e w' => e = .returned (.int .i64 (er (ok_33 d n m a c i))) ∧ Below w.heap.size w w' := by
  rcases xd : (wi d 0 31)
  · have hk : ok_33 d n m a c i = false := by
      simp [ok_33, xd]
    rw [hk]
    exact rck_d 33 d n m a c i true true false false false false w (by decide) (by decide) rfields_33 (fun w => by have := reg_y d w; rw [xd] at this; exact this)
  · skip
    rcases xn : (wi n 0 31)
    · have hk : ok_33 d n m a c i = false := by
        simp [ok_33, xn]
      rw [hk]
      exact rck_n 33 d n m a c i true true false false false false w (by decide) (by decide) rfields_33 (fun w => by have := reg_y d w; rw [xd] at this; exact this) (fun w => by have := reg_y n w; rw [xn] at this; exact this)
    · skip
      rcases xm : (m == 0)
      · have hk : ok_33 d n m a c i = false := by
          simp [ok_33, xm]
        rw [hk]
        exact rck_m 33 d n m a c i true true false false false false w (by decide) (by decide) rfields_33 (fun w => by have := reg_y d w; rw [xd] at this; exact this) (fun w => by have := reg_y n w; rw [xn] at this; exact this) (fun w => by have := reg_n m w; rw [xm] at this; exact this)
      · skip
        rcases xa : (a == 0)
        · have hk : ok_33 d n m a c i = false := by
            simp [ok_33, xa]
          rw [hk]
          exact rck_a 33 d n m a c i true true false false false false w (by decide) (by decide) rfields_33 (fun w => by have := reg_y d w; rw [xd] at this; exact this) (fun w => by have := reg_y n w; rw [xn] at this; exact this) (fun w => by have := reg_n m w; rw [xm] at this; exact this) (fun w => by have := reg_n a w; rw [xa] at this; exact this)
        · skip
          rcases xi : ((i == 0))
          · have hk : ok_33 d n m a c i = false := by
              simp [ok_33, xi]
            rw [hk]
            exact rck_i 33 d n m a c i true true false false false false w (by decide) (by decide) rfields_33 (fun w => by have := reg_y d w; rw [xd] at this; exact this) (fun w => by have := reg_y n w; rw [xn] at this; exact this) (fun w => by have := reg_n m w; rw [xm] at this; exact this) (fun w => by have := reg_n a w; rw [xa] at this; exact this) (fun w => by have := rimm_33 d n m a c i w; rw [xi] at this; exact this)
          · skip
            have Hxd := Lib.hid (fun w => (by have := reg_y d w; rw [xd] at this; exact this) : ∀ w, Calls Try.prog 168 #[.bool true, .int .i64 d] w fun e w' => e = .returned (.bool true) ∧ w' = w)
            have Hxn := Lib.hid (fun w => (by have := reg_y n w; rw [xn] at this; exact this) : ∀ w, Calls Try.prog 168 #[.bool true, .int .i64 n] w fun e w' => e = .returned (.bool true) ∧ w' = w)
            have Hxm := Lib.hid (fun w => (by have := reg_n m w; rw [xm] at this; exact this) : ∀ w, Calls Try.prog 168 #[.bool false, .int .i64 m] w fun e w' => e = .returned (.bool true) ∧ w' = w)
            have Hxa := Lib.hid (fun w => (by have := reg_n a w; rw [xa] at this; exact this) : ∀ w, Calls Try.prog 168 #[.bool false, .int .i64 a] w fun e w' => e = .returned (.bool true) ∧ w' = w)
            have Hxi := Lib.hid (fun w => (by have := rimm_33 d n m a c i w; rw [xi] at this; exact this) : ∀ w, Calls Try.prog 169 #[.agg #[.int .i64 33, .int .i64 d, .int .i64 n, .int .i64 m, .int .i64 a, .int .i64 c, .int .i64 i]] w fun e w' => e = .returned (.bool true) ∧ Below w.heap.size w w')
            have hk : ok_33 d n m a c i = (c == 0) := by simp [ok_33, xd, xn, xm, xa, xi]
            have HK := Lib.hid hk
            clear hk xd xn xm xa xi
            go_enter Try.func83, Try.ntmps83
            go_wp2_with (first | (go_at_call 167; refine (rfields_33 _).mono ?_; rintro e w' ⟨rfl, rfl⟩) | (go_at_call 168; (with_reducible refine (Hxd.out _).mono ?_); rintro e w' ⟨rfl, rfl⟩) | (go_at_call 168; (with_reducible refine (Hxn.out _).mono ?_); rintro e w' ⟨rfl, rfl⟩) | (go_at_call 168; (with_reducible refine (Hxm.out _).mono ?_); rintro e w' ⟨rfl, rfl⟩) | (go_at_call 168; (with_reducible refine (Hxa.out _).mono ?_); rintro e w' ⟨rfl, rfl⟩) | (go_at_call 169; refine (Hxi.out _).mono ?_; rintro e w2 ⟨rfl, hb2⟩; have HB2 := Lib.hid (((Below.refl _ _).alloc (Nat.le_refl _) _).trans (hb2.mono (by simp)) : Below w.heap.size w w2); have HI2 := Lib.hid ((InsC.new w (.int .i64 33) (.int .i64 d) (.int .i64 n) (.int .i64 m) (.int .i64 a) (.int .i64 c) (.int .i64 i)).below' hb2 rfl); obtain ⟨hl, i0, i1, i2, i3, i4, i5, i6⟩ := HI2.out; clear hb2))
            all_goals
              go_ret
              exact ⟨ret_er (by rw [HK.out]; first | rfl | (simp [er]; omega) | (simp [er, *]; done) | (simp_all [er]; omega)), HB2.out⟩
set_option maxRecDepth 100000 in
set_option maxHeartbeats 2000000 in
theorem rcheck_37 (d n m a c i : Int) (w : World) : Calls Try.prog 83 #[.agg #[.int .i64 37, .int .i64 d, .int .i64 n, .int .i64 m, .int .i64 a, .int .i64 c, .int .i64 i]] w fun e w' => e = .returned (.int .i64 (er (ok_37 d n m a c i))) ∧ Below w.heap.size w w' := by
  rcases xd : (d == 0)
  · have hk : ok_37 d n m a c i = false := by
      simp [ok_37, xd]
    rw [hk]
    exact rck_d 37 d n m a c i false false false false false true w (by decide) (by decide) rfields_37 (fun w => by have := reg_n d w; rw [xd] at this; exact this)
  · skip
    rcases xn : (n == 0)
    · have hk : ok_37 d n m a c i = false := by
        simp [ok_37, xn]
      rw [hk]
      exact rck_n 37 d n m a c i false false false false false true w (by decide) (by decide) rfields_37 (fun w => by have := reg_n d w; rw [xd] at this; exact this) (fun w => by have := reg_n n w; rw [xn] at this; exact this)
    · skip
      rcases xm : (m == 0)
      · have hk : ok_37 d n m a c i = false := by
          simp [ok_37, xm]
        rw [hk]
        exact rck_m 37 d n m a c i false false false false false true w (by decide) (by decide) rfields_37 (fun w => by have := reg_n d w; rw [xd] at this; exact this) (fun w => by have := reg_n n w; rw [xn] at this; exact this) (fun w => by have := reg_n m w; rw [xm] at this; exact this)
      · skip
        rcases xa : (a == 0)
        · have hk : ok_37 d n m a c i = false := by
            simp [ok_37, xa]
          rw [hk]
          exact rck_a 37 d n m a c i false false false false false true w (by decide) (by decide) rfields_37 (fun w => by have := reg_n d w; rw [xd] at this; exact this) (fun w => by have := reg_n n w; rw [xn] at this; exact this) (fun w => by have := reg_n m w; rw [xm] at this; exact this) (fun w => by have := reg_n a w; rw [xa] at this; exact this)
        · skip
          rcases xi : ((wi i 0 2))
          · have hk : ok_37 d n m a c i = false := by
              simp [ok_37, xi]
            rw [hk]
            exact rck_i 37 d n m a c i false false false false false true w (by decide) (by decide) rfields_37 (fun w => by have := reg_n d w; rw [xd] at this; exact this) (fun w => by have := reg_n n w; rw [xn] at this; exact this) (fun w => by have := reg_n m w; rw [xm] at this; exact this) (fun w => by have := reg_n a w; rw [xa] at this; exact this) (fun w => by have := rimm_37 d n m a c i w; rw [xi] at this; exact this)
          · skip
            have Hxd := Lib.hid (fun w => (by have := reg_n d w; rw [xd] at this; exact this) : ∀ w, Calls Try.prog 168 #[.bool false, .int .i64 d] w fun e w' => e = .returned (.bool true) ∧ w' = w)
            have Hxn := Lib.hid (fun w => (by have := reg_n n w; rw [xn] at this; exact this) : ∀ w, Calls Try.prog 168 #[.bool false, .int .i64 n] w fun e w' => e = .returned (.bool true) ∧ w' = w)
            have Hxm := Lib.hid (fun w => (by have := reg_n m w; rw [xm] at this; exact this) : ∀ w, Calls Try.prog 168 #[.bool false, .int .i64 m] w fun e w' => e = .returned (.bool true) ∧ w' = w)
            have Hxa := Lib.hid (fun w => (by have := reg_n a w; rw [xa] at this; exact this) : ∀ w, Calls Try.prog 168 #[.bool false, .int .i64 a] w fun e w' => e = .returned (.bool true) ∧ w' = w)
            have Hxi := Lib.hid (fun w => (by have := rimm_37 d n m a c i w; rw [xi] at this; exact this) : ∀ w, Calls Try.prog 169 #[.agg #[.int .i64 37, .int .i64 d, .int .i64 n, .int .i64 m, .int .i64 a, .int .i64 c, .int .i64 i]] w fun e w' => e = .returned (.bool true) ∧ Below w.heap.size w w')
            have hk : ok_37 d n m a c i = (c == 0) := by simp [ok_37, xd, xn, xm, xa, xi]
            have HK := Lib.hid hk
            clear hk xd xn xm xa xi
            go_enter Try.func83, Try.ntmps83
            go_wp2_with (first | (go_at_call 167; refine (rfields_37 _).mono ?_; rintro e w' ⟨rfl, rfl⟩) | (go_at_call 168; (with_reducible refine (Hxd.out _).mono ?_); rintro e w' ⟨rfl, rfl⟩) | (go_at_call 168; (with_reducible refine (Hxn.out _).mono ?_); rintro e w' ⟨rfl, rfl⟩) | (go_at_call 168; (with_reducible refine (Hxm.out _).mono ?_); rintro e w' ⟨rfl, rfl⟩) | (go_at_call 168; (with_reducible refine (Hxa.out _).mono ?_); rintro e w' ⟨rfl, rfl⟩) | (go_at_call 169; refine (Hxi.out _).mono ?_; rintro e w2 ⟨rfl, hb2⟩; have HB2 := Lib.hid (((Below.refl _ _).alloc (Nat.le_refl _) _).trans (hb2.mono (by simp)) : Below w.heap.size w w2); have HI2 := Lib.hid ((InsC.new w (.int .i64 37) (.int .i64 d) (.int .i64 n) (.int .i64 m) (.int .i64 a) (.int .i64 c) (.int .i64 i)).below' hb2 rfl); obtain ⟨hl, i0, i1, i2, i3, i4, i5, i6⟩ := HI2.out; clear hb2))
            all_goals
              go_ret
              exact ⟨ret_er (by rw [HK.out]; first | rfl | (simp [er]; omega) | (simp [er, *]; done) | (simp_all [er]; omega)), HB2.out⟩
set_option maxRecDepth 100000 in
set_option maxHeartbeats 2000000 in
theorem rcheck_41 (d n m a c i : Int) (w : World) : Calls Try.prog 83 #[.agg #[.int .i64 41, .int .i64 d, .int .i64 n, .int .i64 m, .int .i64 a, .int .i64 c, .int .i64 i]] w fun e w' => e = .returned (.int .i64 (er (ok_41 d n m a c i))) ∧ Below w.heap.size w w' := by
  rcases xd : (d == 0)
  · have hk : ok_41 d n m a c i = false := by
      simp [ok_41, xd]
    rw [hk]
    exact rck_d 41 d n m a c i false true false false false false w (by decide) (by decide) rfields_41 (fun w => by have := reg_n d w; rw [xd] at this; exact this)
  · skip
    rcases xn : (wi n 0 31)
    · have hk : ok_41 d n m a c i = false := by
        simp [ok_41, xn]
      rw [hk]
      exact rck_n 41 d n m a c i false true false false false false w (by decide) (by decide) rfields_41 (fun w => by have := reg_n d w; rw [xd] at this; exact this) (fun w => by have := reg_y n w; rw [xn] at this; exact this)
    · skip
      rcases xm : (m == 0)
      · have hk : ok_41 d n m a c i = false := by
          simp [ok_41, xm]
        rw [hk]
        exact rck_m 41 d n m a c i false true false false false false w (by decide) (by decide) rfields_41 (fun w => by have := reg_n d w; rw [xd] at this; exact this) (fun w => by have := reg_y n w; rw [xn] at this; exact this) (fun w => by have := reg_n m w; rw [xm] at this; exact this)
      · skip
        rcases xa : (a == 0)
        · have hk : ok_41 d n m a c i = false := by
            simp [ok_41, xa]
          rw [hk]
          exact rck_a 41 d n m a c i false true false false false false w (by decide) (by decide) rfields_41 (fun w => by have := reg_n d w; rw [xd] at this; exact this) (fun w => by have := reg_y n w; rw [xn] at this; exact this) (fun w => by have := reg_n m w; rw [xm] at this; exact this) (fun w => by have := reg_n a w; rw [xa] at this; exact this)
        · skip
          rcases xi : ((i == 0))
          · have hk : ok_41 d n m a c i = false := by
              simp [ok_41, xi]
            rw [hk]
            exact rck_i 41 d n m a c i false true false false false false w (by decide) (by decide) rfields_41 (fun w => by have := reg_n d w; rw [xd] at this; exact this) (fun w => by have := reg_y n w; rw [xn] at this; exact this) (fun w => by have := reg_n m w; rw [xm] at this; exact this) (fun w => by have := reg_n a w; rw [xa] at this; exact this) (fun w => by have := rimm_41 d n m a c i w; rw [xi] at this; exact this)
          · skip
            have Hxd := Lib.hid (fun w => (by have := reg_n d w; rw [xd] at this; exact this) : ∀ w, Calls Try.prog 168 #[.bool false, .int .i64 d] w fun e w' => e = .returned (.bool true) ∧ w' = w)
            have Hxn := Lib.hid (fun w => (by have := reg_y n w; rw [xn] at this; exact this) : ∀ w, Calls Try.prog 168 #[.bool true, .int .i64 n] w fun e w' => e = .returned (.bool true) ∧ w' = w)
            have Hxm := Lib.hid (fun w => (by have := reg_n m w; rw [xm] at this; exact this) : ∀ w, Calls Try.prog 168 #[.bool false, .int .i64 m] w fun e w' => e = .returned (.bool true) ∧ w' = w)
            have Hxa := Lib.hid (fun w => (by have := reg_n a w; rw [xa] at this; exact this) : ∀ w, Calls Try.prog 168 #[.bool false, .int .i64 a] w fun e w' => e = .returned (.bool true) ∧ w' = w)
            have Hxi := Lib.hid (fun w => (by have := rimm_41 d n m a c i w; rw [xi] at this; exact this) : ∀ w, Calls Try.prog 169 #[.agg #[.int .i64 41, .int .i64 d, .int .i64 n, .int .i64 m, .int .i64 a, .int .i64 c, .int .i64 i]] w fun e w' => e = .returned (.bool true) ∧ Below w.heap.size w w')
            have hk : ok_41 d n m a c i = (c == 0) := by simp [ok_41, xd, xn, xm, xa, xi]
            have HK := Lib.hid hk
            clear hk xd xn xm xa xi
            go_enter Try.func83, Try.ntmps83
            go_wp2_with (first | (go_at_call 167; refine (rfields_41 _).mono ?_; rintro e w' ⟨rfl, rfl⟩) | (go_at_call 168; (with_reducible refine (Hxd.out _).mono ?_); rintro e w' ⟨rfl, rfl⟩) | (go_at_call 168; (with_reducible refine (Hxn.out _).mono ?_); rintro e w' ⟨rfl, rfl⟩) | (go_at_call 168; (with_reducible refine (Hxm.out _).mono ?_); rintro e w' ⟨rfl, rfl⟩) | (go_at_call 168; (with_reducible refine (Hxa.out _).mono ?_); rintro e w' ⟨rfl, rfl⟩) | (go_at_call 169; refine (Hxi.out _).mono ?_; rintro e w2 ⟨rfl, hb2⟩; have HB2 := Lib.hid (((Below.refl _ _).alloc (Nat.le_refl _) _).trans (hb2.mono (by simp)) : Below w.heap.size w w2); have HI2 := Lib.hid ((InsC.new w (.int .i64 41) (.int .i64 d) (.int .i64 n) (.int .i64 m) (.int .i64 a) (.int .i64 c) (.int .i64 i)).below' hb2 rfl); obtain ⟨hl, i0, i1, i2, i3, i4, i5, i6⟩ := HI2.out; clear hb2))
            all_goals
              go_ret
              exact ⟨ret_er (by rw [HK.out]; first | rfl | (simp [er]; omega) | (simp [er, *]; done) | (simp_all [er]; omega)), HB2.out⟩
end Go.Proofs.Ytnbpgoacooddjaa.En
