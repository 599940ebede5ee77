import Derived.Test.YtnbpgoacooddjaaRows
import Derived.WalkKit
import Derived.ProofKit
import Derived.OpenShut
import Derived.Outline
import Derived.WalkSmall
import Derived.WalkLawsBesides
import Derived.WalkSpells
import Derived.BigGuardPart
import Derived.RegionTactic
import Derived.Lib.Hide
import Derived.Below
import Derived.Deep.RegionWith
import Derived.Deep.RegionHeld3
import Derived.Test.YtnbpgoacooddjaaERfA
namespace Go.Proofs.Ytnbpgoacooddjaa.Fr
end Go.Proofs.Ytnbpgoacooddjaa.Fr
namespace Go.Proofs.Ytnbpgoacooddjaa.En
open Go.Proofs.Ytnbpgoacooddjaa.Fr
open Go.ChangeShapes Go.WideShapes Go.ChangeAt Go.RowKit
set_option linter.unusedVariables false
set_option maxRecDepth 100000 in
set_option maxHeartbeats 2000000 in
theorem rcheck_0 (d n m a c i : Int) (w : World) : Calls Try.prog 83 #[.agg #[.int .i64 0, .int .i64 d, .int .i64 n, .int .i64 m, .int .i64 a, .int .i64 c, .int .i64 i]] w fun e w' => e = .returned (.int .i64 (er (ok_0 d n m a c i))) ∧ Below w.heap.size w w' := by
  rcases xd : (d == 0)
  · have hk : ok_0 d n m a c i = false := by
      simp [ok_0, xd]
    rw [hk]
    exact rck_d 0 d n m a c i false false false false false true w (by decide) (by decide) rfields_0 (fun w => by have := reg_n d w; rw [xd] at this; exact this)
  · skip
    rcases xn : (n == 0)
    · have hk : ok_0 d n m a c i = false := by
        simp [ok_0, xn]
      rw [hk]
      exact rck_n 0 d n m a c i false false false false false true w (by decide) (by decide) rfields_0 (fun w => by have := reg_n d w; rw [xd] at this; exact this) (fun w => by have := reg_n n w; rw [xn] at this; exact this)
    · skip
      rcases xm : (m == 0)
      · have hk : ok_0 d n m a c i = false := by
          simp [ok_0, xm]
        rw [hk]
        exact rck_m 0 d n m a c i false false false false false true w (by decide) (by decide) rfields_0 (fun w => by have := reg_n d w; rw [xd] at this; exact this) (fun w => by have := reg_n n w; rw [xn] at this; exact this) (fun w => by have := reg_n m w; rw [xm] at this; exact this)
      · skip
        rcases xa : (a == 0)
        · have hk : ok_0 d n m a c i = false := by
            simp [ok_0, xa]
          rw [hk]
          exact rck_a 0 d n m a c i false false false false false true w (by decide) (by decide) rfields_0 (fun w => by have := reg_n d w; rw [xd] at this; exact this) (fun w => by have := reg_n n w; rw [xn] at this; exact this) (fun w => by have := reg_n m w; rw [xm] at this; exact this) (fun w => by have := reg_n a w; rw [xa] at this; exact this)
        · skip
          rcases xi : ((wi i 0 65535))
          · have hk : ok_0 d n m a c i = false := by
              simp [ok_0, xi]
            rw [hk]
            exact rck_i 0 d n m a c i false false false false false true w (by decide) (by decide) rfields_0 (fun w => by have := reg_n d w; rw [xd] at this; exact this) (fun w => by have := reg_n n w; rw [xn] at this; exact this) (fun w => by have := reg_n m w; rw [xm] at this; exact this) (fun w => by have := reg_n a w; rw [xa] at this; exact this) (fun w => by have := rimm_0 d n m a c i w; rw [xi] at this; exact this)
          · skip
            have Hxd := Lib.hid (fun w => (by have := reg_n d w; rw [xd] at this; exact this) : ∀ w, Calls Try.prog 168 #[.bool false, .int .i64 d] w fun e w' => e = .returned (.bool true) ∧ w' = w)
            have Hxn := Lib.hid (fun w => (by have := reg_n n w; rw [xn] at this; exact this) : ∀ w, Calls Try.prog 168 #[.bool false, .int .i64 n] w fun e w' => e = .returned (.bool true) ∧ w' = w)
            have Hxm := Lib.hid (fun w => (by have := reg_n m w; rw [xm] at this; exact this) : ∀ w, Calls Try.prog 168 #[.bool false, .int .i64 m] w fun e w' => e = .returned (.bool true) ∧ w' = w)
            have Hxa := Lib.hid (fun w => (by have := reg_n a w; rw [xa] at this; exact this) : ∀ w, Calls Try.prog 168 #[.bool false, .int .i64 a] w fun e w' => e = .returned (.bool true) ∧ w' = w)
            have Hxi := Lib.hid (fun w => (by have := rimm_0 d n m a c i w; rw [xi] at this; exact this) : ∀ w, Calls Try.prog 169 #[.agg #[.int .i64 0, .int .i64 d, .int .i64 n, .int .i64 m, .int .i64 a, .int .i64 c, .int .i64 i]] w fun e w' => e = .returned (.bool true) ∧ Below w.heap.size w w')
            have hk : ok_0 d n m a c i = (c == 0) := by simp [ok_0, xd, xn, xm, xa, xi]
            have HK := Lib.hid hk
            clear hk xd xn xm xa xi
            go_enter Try.func83, Try.ntmps83
            go_wp2_with (first | (go_at_call 167; refine (rfields_0 _).mono ?_; rintro e w' ⟨rfl, rfl⟩) | (go_at_call 168; (with_reducible refine (Hxd.out _).mono ?_); rintro e w' ⟨rfl, rfl⟩) | (go_at_call 168; (with_reducible refine (Hxn.out _).mono ?_); rintro e w' ⟨rfl, rfl⟩) | (go_at_call 168; (with_reducible refine (Hxm.out _).mono ?_); rintro e w' ⟨rfl, rfl⟩) | (go_at_call 168; (with_reducible refine (Hxa.out _).mono ?_); rintro e w' ⟨rfl, rfl⟩) | (go_at_call 169; refine (Hxi.out _).mono ?_; rintro e w2 ⟨rfl, hb2⟩; have HB2 := Lib.hid (((Below.refl _ _).alloc (Nat.le_refl _) _).trans (hb2.mono (by simp)) : Below w.heap.size w w2); have HI2 := Lib.hid ((InsC.new w (.int .i64 0) (.int .i64 d) (.int .i64 n) (.int .i64 m) (.int .i64 a) (.int .i64 c) (.int .i64 i)).below' hb2 rfl); obtain ⟨hl, i0, i1, i2, i3, i4, i5, i6⟩ := HI2.out; clear hb2))
            all_goals
              go_ret
              exact ⟨ret_er (by rw [HK.out]; first | rfl | (simp [er]; omega) | (simp [er, *]; done) | (simp_all [er]; omega)), HB2.out⟩
set_option maxRecDepth 100000 in
set_option maxHeartbeats 2000000 in
theorem rcheck_4 (d n m a c i : Int) (w : World) : Calls Try.prog 83 #[.agg #[.int .i64 4, .int .i64 d, .int .i64 n, .int .i64 m, .int .i64 a, .int .i64 c, .int .i64 i]] w fun e w' => e = .returned (.int .i64 (er (ok_4 d n m a c i))) ∧ Below w.heap.size w w' := by
  rcases xd : (wi d 0 31)
  · have hk : ok_4 d n m a c i = false := by
      simp [ok_4, xd]
    rw [hk]
    exact rck_d 4 d n m a c i true true false false false true w (by decide) (by decide) rfields_4 (fun w => by have := reg_y d w; rw [xd] at this; exact this)
  · skip
    rcases xn : (wi n 0 31)
    · have hk : ok_4 d n m a c i = false := by
        simp [ok_4, xn]
      rw [hk]
      exact rck_n 4 d n m a c i true true false false false true w (by decide) (by decide) rfields_4 (fun w => by have := reg_y d w; rw [xd] at this; exact this) (fun w => by have := reg_y n w; rw [xn] at this; exact this)
    · skip
      rcases xm : (m == 0)
      · have hk : ok_4 d n m a c i = false := by
          simp [ok_4, xm]
        rw [hk]
        exact rck_m 4 d n m a c i true true false false false true w (by decide) (by decide) rfields_4 (fun w => by have := reg_y d w; rw [xd] at this; exact this) (fun w => by have := reg_y n w; rw [xn] at this; exact this) (fun w => by have := reg_n m w; rw [xm] at this; exact this)
      · skip
        rcases xa : (a == 0)
        · have hk : ok_4 d n m a c i = false := by
            simp [ok_4, xa]
          rw [hk]
          exact rck_a 4 d n m a c i true true false false false true w (by decide) (by decide) rfields_4 (fun w => by have := reg_y d w; rw [xd] at this; exact this) (fun w => by have := reg_y n w; rw [xn] at this; exact this) (fun w => by have := reg_n m w; rw [xm] at this; exact this) (fun w => by have := reg_n a w; rw [xa] at this; exact this)
        · skip
          rcases xi : ((wi i 0 4095))
          · have hk : ok_4 d n m a c i = false := by
              simp [ok_4, xi]
            rw [hk]
            exact rck_i 4 d n m a c i true true false false false true w (by decide) (by decide) rfields_4 (fun w => by have := reg_y d w; rw [xd] at this; exact this) (fun w => by have := reg_y n w; rw [xn] at this; exact this) (fun w => by have := reg_n m w; rw [xm] at this; exact this) (fun w => by have := reg_n a w; rw [xa] at this; exact this) (fun w => by have := rimm_4 d n m a c i w; rw [xi] at this; exact this)
          · skip
            have Hxd := Lib.hid (fun w => (by have := reg_y d w; rw [xd] at this; exact this) : ∀ w, Calls Try.prog 168 #[.bool true, .int .i64 d] w fun e w' => e = .returned (.bool true) ∧ w' = w)
            have Hxn := Lib.hid (fun w => (by have := reg_y n w; rw [xn] at this; exact this) : ∀ w, Calls Try.prog 168 #[.bool true, .int .i64 n] w fun e w' => e = .returned (.bool true) ∧ w' = w)
            have Hxm := Lib.hid (fun w => (by have := reg_n m w; rw [xm] at this; exact this) : ∀ w, Calls Try.prog 168 #[.bool false, .int .i64 m] w fun e w' => e = .returned (.bool true) ∧ w' = w)
            have Hxa := Lib.hid (fun w => (by have := reg_n a w; rw [xa] at this; exact this) : ∀ w, Calls Try.prog 168 #[.bool false, .int .i64 a] w fun e w' => e = .returned (.bool true) ∧ w' = w)
            have Hxi := Lib.hid (fun w => (by have := rimm_4 d n m a c i w; rw [xi] at this; exact this) : ∀ w, Calls Try.prog 169 #[.agg #[.int .i64 4, .int .i64 d, .int .i64 n, .int .i64 m, .int .i64 a, .int .i64 c, .int .i64 i]] w fun e w' => e = .returned (.bool true) ∧ Below w.heap.size w w')
            have hk : ok_4 d n m a c i = (c == 0) := by simp [ok_4, xd, xn, xm, xa, xi]
            have HK := Lib.hid hk
            clear hk xd xn xm xa xi
            go_enter Try.func83, Try.ntmps83
            go_wp2_with (first | (go_at_call 167; refine (rfields_4 _).mono ?_; rintro e w' ⟨rfl, rfl⟩) | (go_at_call 168; (with_reducible refine (Hxd.out _).mono ?_); rintro e w' ⟨rfl, rfl⟩) | (go_at_call 168; (with_reducible refine (Hxn.out _).mono ?_); rintro e w' ⟨rfl, rfl⟩) | (go_at_call 168; (with_reducible refine (Hxm.out _).mono ?_); rintro e w' ⟨rfl, rfl⟩) | (go_at_call 168; (with_reducible refine (Hxa.out _).mono ?_); rintro e w' ⟨rfl, rfl⟩) | (go_at_call 169; refine (Hxi.out _).mono ?_; rintro e w2 ⟨rfl, hb2⟩; have HB2 := Lib.hid (((Below.refl _ _).alloc (Nat.le_refl _) _).trans (hb2.mono (by simp)) : Below w.heap.size w w2); have HI2 := Lib.hid ((InsC.new w (.int .i64 4) (.int .i64 d) (.int .i64 n) (.int .i64 m) (.int .i64 a) (.int .i64 c) (.int .i64 i)).below' hb2 rfl); obtain ⟨hl, i0, i1, i2, i3, i4, i5, i6⟩ := HI2.out; clear hb2))
            all_goals
              go_ret
              exact ⟨ret_er (by rw [HK.out]; first | rfl | (simp [er]; omega) | (simp [er, *]; done) | (simp_all [er]; omega)), HB2.out⟩
set_option maxRecDepth 100000 in
set_option maxHeartbeats 2000000 in
theorem rcheck_8 (d n m a c i : Int) (w : World) : Calls Try.prog 83 #[.agg #[.int .i64 8, .int .i64 d, .int .i64 n, .int .i64 m, .int .i64 a, .int .i64 c, .int .i64 i]] w fun e w' => e = .returned (.int .i64 (er (ok_8 d n m a c i))) ∧ Below w.heap.size w w' := by
  rcases xd : (wi d 0 31)
  · have hk : ok_8 d n m a c i = false := by
      simp [ok_8, xd]
    rw [hk]
    exact rck_d 8 d n m a c i true true true false false false w (by decide) (by decide) rfields_8 (fun w => by have := reg_y d w; rw [xd] at this; exact this)
  · skip
    rcases xn : (wi n 0 31)
    · have hk : ok_8 d n m a c i = false := by
        simp [ok_8, xn]
      rw [hk]
      exact rck_n 8 d n m a c i true true true false false false w (by decide) (by decide) rfields_8 (fun w => by have := reg_y d w; rw [xd] at this; exact this) (fun w => by have := reg_y n w; rw [xn] at this; exact this)
    · skip
      rcases xm : (wi m 0 31)
      · have hk : ok_8 d n m a c i = false := by
          simp [ok_8, xm]
        rw [hk]
        exact rck_m 8 d n m a c i true true true false false false w (by decide) (by decide) rfields_8 (fun w => by have := reg_y d w; rw [xd] at this; exact this) (fun w => by have := reg_y n w; rw [xn] at this; exact this) (fun w => by have := reg_y m w; rw [xm] at this; exact this)
      · skip
        rcases xa : (a == 0)
        · have hk : ok_8 d n m a c i = false := by
            simp [ok_8, xa]
          rw [hk]
          exact rck_a 8 d n m a c i true true true false false false w (by decide) (by decide) rfields_8 (fun w => by have := reg_y d w; rw [xd] at this; exact this) (fun w => by have := reg_y n w; rw [xn] at this; exact this) (fun w => by have := reg_y m w; rw [xm] at this; exact this) (fun w => by have := reg_n a w; rw [xa] at this; exact this)
        · skip
          rcases xi : ((i == 0))
          · have hk : ok_8 d n m a c i = false := by
              simp [ok_8, xi]
            rw [hk]
            exact rck_i 8 d n m a c i true true true false false false w (by decide) (by decide) rfields_8 (fun w => by have := reg_y d w; rw [xd] at this; exact this) (fun w => by have := reg_y n w; rw [xn] at this; exact this) (fun w => by have := reg_y m w; rw [xm] at this; exact this) (fun w => by have := reg_n a w; rw [xa] at this; exact this) (fun w => by have := rimm_8 d n m a c i w; rw [xi] at this; exact this)
          · skip
            have Hxd := Lib.hid (fun w => (by have := reg_y d w; rw [xd] at this; exact this) : ∀ w, Calls Try.prog 168 #[.bool true, .int .i64 d] w fun e w' => e = .returned (.bool true) ∧ w' = w)
            have Hxn := Lib.hid (fun w => (by have := reg_y n w; rw [xn] at this; exact this) : ∀ w, Calls Try.prog 168 #[.bool true, .int .i64 n] w fun e w' => e = .returned (.bool true) ∧ w' = w)
            have Hxm := Lib.hid (fun w => (by have := reg_y m w; rw [xm] at this; exact this) : ∀ w, Calls Try.prog 168 #[.bool true, .int .i64 m] w fun e w' => e = .returned (.bool true) ∧ w' = w)
            have Hxa := Lib.hid (fun w => (by have := reg_n a w; rw [xa] at this; exact this) : ∀ w, Calls Try.prog 168 #[.bool false, .int .i64 a] w fun e w' => e = .returned (.bool true) ∧ w' = w)
            have Hxi := Lib.hid (fun w => (by have := rimm_8 d n m a c i w; rw [xi] at this; exact this) : ∀ w, Calls Try.prog 169 #[.agg #[.int .i64 8, .int .i64 d, .int .i64 n, .int .i64 m, .int .i64 a, .int .i64 c, .int .i64 i]] w fun e w' => e = .returned (.bool true) ∧ Below w.heap.size w w')
            have hk : ok_8 d n m a c i = (c == 0) := by simp [ok_8, xd, xn, xm, xa, xi]
            have HK := Lib.hid hk
            clear hk xd xn xm xa xi
            go_enter Try.func83, Try.ntmps83
            go_wp2_with (first | (go_at_call 167; refine (rfields_8 _).mono ?_; rintro e w' ⟨rfl, rfl⟩) | (go_at_call 168; (with_reducible refine (Hxd.out _).mono ?_); rintro e w' ⟨rfl, rfl⟩) | (go_at_call 168; (with_reducible refine (Hxn.out _).mono ?_); rintro e w' ⟨rfl, rfl⟩) | (go_at_call 168; (with_reducible refine (Hxm.out _).mono ?_); rintro e w' ⟨rfl, rfl⟩) | (go_at_call 168; (with_reducible refine (Hxa.out _).mono ?_); rintro e w' ⟨rfl, rfl⟩) | (go_at_call 169; refine (Hxi.out _).mono ?_; rintro e w2 ⟨rfl, hb2⟩; have HB2 := Lib.hid (((Below.refl _ _).alloc (Nat.le_refl _) _).trans (hb2.mono (by simp)) : Below w.heap.size w w2); have HI2 := Lib.hid ((InsC.new w (.int .i64 8) (.int .i64 d) (.int .i64 n) (.int .i64 m) (.int .i64 a) (.int .i64 c) (.int .i64 i)).below' hb2 rfl); obtain ⟨hl, i0, i1, i2, i3, i4, i5, i6⟩ := HI2.out; clear hb2))
            all_goals
              go_ret
              exact ⟨ret_er (by rw [HK.out]; first | rfl | (simp [er]; omega) | (simp [er, *]; done) | (simp_all [er]; omega)), HB2.out⟩
set_option maxRecDepth 100000 in
set_option maxHeartbeats 2000000 in
theorem rcheck_12 (d n m a c i : Int) (w : World) : Calls Try.prog 83 #[.agg #[.int .i64 12, .int .i64 d, .int .i64 n, .int .i64 m, .int .i64 a, .int .i64 c, .int .i64 i]] w fun e w' => e = .returned (.int .i64 (er (ok_12 d n m a c i))) ∧ Below w.heap.size w w' := by
  rcases xd : (wi d 0 31)
  · have hk : ok_12 d n m a c i = false := by
      simp [ok_12, xd]
    rw [hk]
    exact rck_d 12 d n m a c i true true true false false false w (by decide) (by decide) rfields_12 (fun w => by have := reg_y d w; rw [xd] at this; exact this)
  · skip
    rcases xn : (wi n 0 31)
    · have hk : ok_12 d n m a c i = false := by
        simp [ok_12, xn]
      rw [hk]
      exact rck_n 12 d n m a c i true true true false false false w (by decide) (by decide) rfields_12 (fun w => by have := reg_y d w; rw [xd] at this; exact this) (fun w => by have := reg_y n w; rw [xn] at this; exact this)
    · skip
      rcases xm : (wi m 0 31)
      · have hk : ok_12 d n m a c i = false := by
          simp [ok_12, xm]
        rw [hk]
        exact rck_m 12 d n m a c i true true true false false false w (by decide) (by decide) rfields_12 (fun w => by have := reg_y d w; rw [xd] at this; exact this) (fun w => by have := reg_y n w; rw [xn] at this; exact this) (fun w => by have := reg_y m w; rw [xm] at this; exact this)
      · skip
        rcases xa : (a == 0)
        · have hk : ok_12 d n m a c i = false := by
            simp [ok_12, xa]
          rw [hk]
          exact rck_a 12 d n m a c i true true true false false false w (by decide) (by decide) rfields_12 (fun w => by have := reg_y d w; rw [xd] at this; exact this) (fun w => by have := reg_y n w; rw [xn] at this; exact this) (fun w => by have := reg_y m w; rw [xm] at this; exact this) (fun w => by have := reg_n a w; rw [xa] at this; exact this)
        · skip
          rcases xi : ((i == 0))
          · have hk : ok_12 d n m a c i = false := by
              simp [ok_12, xi]
            rw [hk]
            exact rck_i 12 d n m a c i true true true false false false w (by decide) (by decide) rfields_12 (fun w => by have := reg_y d w; rw [xd] at this; exact this) (fun w => by have := reg_y n w; rw [xn] at this; exact this) (fun w => by have := reg_y m w; rw [xm] at this; exact this) (fun w => by have := reg_n a w; rw [xa] at this; exact this) (fun w => by have := rimm_12 d n m a c i w; rw [xi] at this; exact this)
          · skip
            have Hxd := Lib.hid (fun w => (by have := reg_y d w; rw [xd] at this; exact this) : ∀ w, Calls Try.prog 168 #[.bool true, .int .i64 d] w fun e w' => e = .returned (.bool true) ∧ w' = w)
            have Hxn := Lib.hid (fun w => (by have := reg_y n w; rw [xn] at this; exact this) : ∀ w, Calls Try.prog 168 #[.bool true, .int .i64 n] w fun e w' => e = .returned (.bool true) ∧ w' = w)
            have Hxm := Lib.hid (fun w => (by have := reg_y m w; rw [xm] at this; exact this) : ∀ w, Calls Try.prog 168 #[.bool true, .int .i64 m] w fun e w' => e = .returned (.bool true) ∧ w' = w)
            have Hxa := Lib.hid (fun w => (by have := reg_n a w; rw [xa] at this; exact this) : ∀ w, Calls Try.prog 168 #[.bool false, .int .i64 a] w fun e w' => e = .returned (.bool true) ∧ w' = w)
            have Hxi := Lib.hid (fun w => (by have := rimm_12 d n m a c i w; rw [xi] at this; exact this) : ∀ w, Calls Try.prog 169 #[.agg #[.int .i64 12, .int .i64 d, .int .i64 n, .int .i64 m, .int .i64 a, .int .i64 c, .int .i64 i]] w fun e w' => e = .returned (.bool true) ∧ Below w.heap.size w w')
            have hk : ok_12 d n m a c i = (c == 0) := by simp [ok_12, xd, xn, xm, xa, xi]
            have HK := Lib.hid hk
            clear hk xd xn xm xa xi
            go_enter Try.func83, Try.ntmps83
            go_wp2_with (first | (go_at_call 167; refine (rfields_12 _).mono ?_; rintro e w' ⟨rfl, rfl⟩) | (go_at_call 168; (with_reducible refine (Hxd.out _).mono ?_); rintro e w' ⟨rfl, rfl⟩) | (go_at_call 168; (with_reducible refine (Hxn.out _).mono ?_); rintro e w' ⟨rfl, rfl⟩) | (go_at_call 168; (with_reducible refine (Hxm.out _).mono ?_); rintro e w' ⟨rfl, rfl⟩) | (go_at_call 168; (with_reducible refine (Hxa.out _).mono ?_); rintro e w' ⟨rfl, rfl⟩) | (go_at_call 169; refine (Hxi.out _).mono ?_; rintro e w2 ⟨rfl, hb2⟩; have HB2 := Lib.hid (((Below.refl _ _).alloc (Nat.le_refl _) _).trans (hb2.mono (by simp)) : Below w.heap.size w w2); have HI2 := Lib.hid ((InsC.new w (.int .i64 12) (.int .i64 d) (.int .i64 n) (.int .i64 m) (.int .i64 a) (.int .i64 c) (.int .i64 i)).below' hb2 rfl); obtain ⟨hl, i0, i1, i2, i3, i4, i5, i6⟩ := HI2.out; clear hb2))
            all_goals
              go_ret
              exact ⟨ret_er (by rw [HK.out]; first | rfl | (simp [er]; omega) | (simp [er, *]; done) | (simp_all [er]; omega)), HB2.out⟩
set_option maxRecDepth 100000 in
set_option maxHeartbeats 2000000 in
theorem rcheck_16 (d n m a c i : Int) (w : World) : Calls Try.prog 83 #[.agg #[.int .i64 16, .int .i64 d, .int .i64 n, .int .i64 m, .int .i64 a, .int .i64 c, .int .i64 i]] w fun e w' => e = .returned (.int .i64 (er (ok_16 d n m a c i))) ∧ Below w.heap.size w w' := by
  rcases xd : (wi d 0 31)
  · have hk : ok_16 d n m a c i = false := by
      simp [ok_16, xd]
    rw [hk]
    exact rck_d 16 d n m a c i true true true false false false w (by decide) (by decide) rfields_16 (fun w => by have := reg_y d w; rw [xd] at this; exact this)
  · skip
    rcases xn : (wi n 0 31)
    · have hk : ok_16 d n m a c i = false := by
        simp [ok_16, xn]
      rw [hk]
      exact rck_n 16 d n m a c i true true true false false false w (by decide) (by decide) rfields_16 (fun w => by have := reg_y d w; rw [xd] at this; exact this) (fun w => by have := reg_y n w; rw [xn] at this; exact this)
    · skip
      rcases xm : (wi m 0 31)
      · have hk : ok_16 d n m a c i = false := by
          simp [ok_16, xm]
        rw [hk]
        exact rck_m 16 d n m a c i true true true false false false w (by decide) (by decide) rfields_16 (fun w => by have := reg_y d w; rw [xd] at this; exact this) (fun w => by have := reg_y n w; rw [xn] at this; exact this) (fun w => by have := reg_y m w; rw [xm] at this; exact this)
      · skip
        rcases xa : (a == 0)
        · have hk : ok_16 d n m a c i = false := by
            simp [ok_16, xa]
          rw [hk]
          exact rck_a 16 d n m a c i true true true false false false w (by decide) (by decide) rfields_16 (fun w => by have := reg_y d w; rw [xd] at this; exact this) (fun w => by have := reg_y n w; rw [xn] at this; exact this) (fun w => by have := reg_y m w; rw [xm] at this; exact this) (fun w => by have := reg_n a w; rw [xa] at this; exact this)
        · skip
          rcases xi : ((i == 0))
          · have hk : ok_16 d n m a c i = false := by
              simp [ok_16, xi]
            rw [hk]
            exact rck_i 16 d n m a c i true true true false false false w (by decide) (by decide) rfields_16 (fun w => by have := reg_y d w; rw [xd] at this; exact this) (fun w => by have := reg_y n w; rw [xn] at this; exact this) (fun w => by have := reg_y m w; rw [xm] at this; exact this) (fun w => by have := reg_n a w; rw [xa] at this; exact this) (fun w => by have := rimm_16 d n m a c i w; rw [xi] at this; exact this)
          · skip
            have Hxd := Lib.hid (fun w => (by have := reg_y d w; rw [xd] at this; exact this) : ∀ w, Calls Try.prog 168 #[.bool true, .int .i64 d] w fun e w' => e = .returned (.bool true) ∧ w' = w)
            have Hxn := Lib.hid (fun w => (by have := reg_y n w; rw [xn] at this; exact this) : ∀ w, Calls Try.prog 168 #[.bool true, .int .i64 n] w fun e w' => e = .returned (.bool true) ∧ w' = w)
            have Hxm := Lib.hid (fun w => (by have := reg_y m w; rw [xm] at this; exact this) : ∀ w, Calls Try.prog 168 #[.bool true, .int .i64 m] w fun e w' => e = .returned (.bool true) ∧ w' = w)
            have Hxa := Lib.hid (fun w => (by have := reg_n a w; rw [xa] at this; exact this) : ∀ w, Calls Try.prog 168 #[.bool false, .int .i64 a] w fun e w' => e = .returned (.bool true) ∧ w' = w)
            have Hxi := Lib.hid (fun w => (by have := rimm_16 d n m a c i w; rw [xi] at this; exact this) : ∀ w, Calls Try.prog 169 #[.agg #[.int .i64 16, .int .i64 d, .int .i64 n, .int .i64 m, .int .i64 a, .int .i64 c, .int .i64 i]] w fun e w' => e = .returned (.bool true) ∧ Below w.heap.size w w')
            have hk : ok_16 d n m a c i = (c == 0) := by simp [ok_16, xd, xn, xm, xa, xi]
            have HK := Lib.hid hk
            clear hk xd xn xm xa xi
            go_enter Try.func83, Try.ntmps83
            go_wp2_with (first | (go_at_call 167; refine (rfields_16 _).mono ?_; rintro e w' ⟨rfl, rfl⟩) | (go_at_call 168; (with_reducible refine (Hxd.out _).mono ?_); rintro e w' ⟨rfl, rfl⟩) | (go_at_call 168; (with_reducible refine (Hxn.out _).mono ?_); rintro e w' ⟨rfl, rfl⟩) | (go_at_call 168; (with_reducible refine (Hxm.out _).mono ?_); rintro e w' ⟨rfl, rfl⟩) | (go_at_call 168; (with_reducible refine (Hxa.out _).mono ?_); rintro e w' ⟨rfl, rfl⟩) | (go_at_call 169; refine (Hxi.out _).mono ?_; rintro e w2 ⟨rfl, hb2⟩; have HB2 := Lib.hid (((Below.refl _ _).alloc (Nat.le_refl _) _).trans (hb2.mono (by simp)) : Below w.heap.size w w2); have HI2 := Lib.hid ((InsC.new w (.int .i64 16) (.int .i64 d) (.int .i64 n) (.int .i64 m) (.int .i64 a) (.int .i64 c) (.int .i64 i)).below' hb2 rfl); obtain ⟨hl, i0, i1, i2, i3, i4, i5, i6⟩ := HI2.out; clear hb2))
            all_goals
              go_ret
              exact ⟨ret_er (by rw [HK.out]; first | rfl | (simp [er]; omega) | (simp [er, *]; done) | (simp_all [er]; omega)), HB2.out⟩
set_option maxRecDepth 100000 in
set_option maxHeartbeats 2000000 in
theorem rcheck_20 (d n m a c i : Int) (w : World) : Calls Try.prog 83 #[.agg #[.int .i64 20, .int .i64 d, .int .i64 n, .int .i64 m, .int .i64 a, .int .i64 c, .int .i64 i]] w fun e w' => e = .returned (.int .i64 (er (ok_20 d n m a c i))) ∧ Below w.heap.size w w' := by
  rcases xd : (d == 0)
  · have hk : ok_20 d n m a c i = false := by
      simp [ok_20, xd]
    rw [hk]
    exact rck_d 20 d n m a c i false false false false false true w (by decide) (by decide) rfields_20 (fun w => by have := reg_n d w; rw [xd] at this; exact this)
  · skip
    rcases xn : (n == 0)
    · have hk : ok_20 d n m a c i = false := by
        simp [ok_20, xn]
      rw [hk]
      exact rck_n 20 d n m a c i false false false false false true w (by decide) (by decide) rfields_20 (fun w => by have := reg_n d w; rw [xd] at this; exact this) (fun w => by have := reg_n n w; rw [xn] at this; exact this)
    · skip
      rcases xm : (m == 0)
      · have hk : ok_20 d n m a c i = false := by
          simp [ok_20, xm]
        rw [hk]
        exact rck_m 20 d n m a c i false false false false false true w (by decide) (by decide) rfields_20 (fun w => by have := reg_n d w; rw [xd] at this; exact this) (fun w => by have := reg_n n w; rw [xn] at this; exact this) (fun w => by have := reg_n m w; rw [xm] at this; exact this)
      · skip
        rcases xa : (a == 0)
        · have hk : ok_20 d n m a c i = false := by
            simp [ok_20, xa]
          rw [hk]
          exact rck_a 20 d n m a c i false false false false false true w (by decide) (by decide) rfields_20 (fun w => by have := reg_n d w; rw [xd] at this; exact this) (fun w => by have := reg_n n w; rw [xn] at this; exact this) (fun w => by have := reg_n m w; rw [xm] at this; exact this) (fun w => by have := reg_n a w; rw [xa] at this; exact this)
        · skip
          rcases xi : ((wm i (-134217728) 134217724 4))
          · have hk : ok_20 d n m a c i = false := by
              simp [ok_20, xi]
            rw [hk]
            exact rck_i 20 d n m a c i false false false false false true w (by decide) (by decide) rfields_20 (fun w => by have := reg_n d w; rw [xd] at this; exact this) (fun w => by have := reg_n n w; rw [xn] at this; exact this) (fun w => by have := reg_n m w; rw [xm] at this; exact this) (fun w => by have := reg_n a w; rw [xa] at this; exact this) (fun w => by have := rimm_20 d n m a c i w; rw [xi] at this; exact this)
          · skip
            have Hxd := Lib.hid (fun w => (by have := reg_n d w; rw [xd] at this; exact this) : ∀ w, Calls Try.prog 168 #[.bool false, .int .i64 d] w fun e w' => e = .returned (.bool true) ∧ w' = w)
            have Hxn := Lib.hid (fun w => (by have := reg_n n w; rw [xn] at this; exact this) : ∀ w, Calls Try.prog 168 #[.bool false, .int .i64 n] w fun e w' => e = .returned (.bool true) ∧ w' = w)
            have Hxm := Lib.hid (fun w => (by have := reg_n m w; rw [xm] at this; exact this) : ∀ w, Calls Try.prog 168 #[.bool false, .int .i64 m] w fun e w' => e = .returned (.bool true) ∧ w' = w)
            have Hxa := Lib.hid (fun w => (by have := reg_n a w; rw [xa] at this; exact this) : ∀ w, Calls Try.prog 168 #[.bool false, .int .i64 a] w fun e w' => e = .returned (.bool true) ∧ w' = w)
            have Hxi := Lib.hid (fun w => (by have := rimm_20 d n m a c i w; rw [xi] at this; exact this) : ∀ w, Calls Try.prog 169 #[.agg #[.int .i64 20, .int .i64 d, .int .i64 n, .int .i64 m, .int .i64 a, .int .i64 c, .int .i64 i]] w fun e w' => e = .returned (.bool true) ∧ Below w.heap.size w w')
            have hk : ok_20 d n m a c i = (c == 0) := by simp [ok_20, xd, xn, xm, xa, xi]
            have HK := Lib.hid hk
            clear hk xd xn xm xa xi
            go_enter Try.func83, Try.ntmps83
            go_wp2_with (first | (go_at_call 167; refine (rfields_20 _).mono ?_; rintro e w' ⟨rfl, rfl⟩) | (go_at_call 168; (with_reducible refine (Hxd.out _).mono ?_); rintro e w' ⟨rfl, rfl⟩) | (go_at_call 168; (with_reducible refine (Hxn.out _).mono ?_); rintro e w' ⟨rfl, rfl⟩) | (go_at_call 168; (with_reducible refine (Hxm.out _).mono ?_); rintro e w' ⟨rfl, rfl⟩) | (go_at_call 168; (with_reducible refine (Hxa.out _).mono ?_); rintro e w' ⟨rfl, rfl⟩) | (go_at_call 169; refine (Hxi.out _).mono ?_; rintro e w2 ⟨rfl, hb2⟩; have HB2 := Lib.hid (((Below.refl _ _).alloc (Nat.le_refl _) _).trans (hb2.mono (by simp)) : Below w.heap.size w w2); have HI2 := Lib.hid ((InsC.new w (.int .i64 20) (.int .i64 d) (.int .i64 n) (.int .i64 m) (.int .i64 a) (.int .i64 c) (.int .i64 i)).below' hb2 rfl); obtain ⟨hl, i0, i1, i2, i3, i4, i5, i6⟩ := HI2.out; clear hb2))
            all_goals
              go_ret
              exact ⟨ret_er (by rw [HK.out]; first | rfl | (simp [er]; omega) | (simp [er, *]; done) | (simp_all [er]; omega)), HB2.out⟩
set_option maxRecDepth 100000 in
set_option maxHeartbeats 2000000 in
theorem rcheck_24 (d n m a c i : Int) (w : World) : Calls Try.prog 83 #[.agg #[.int .i64 24, .int .i64 d, .int .i64 n, .int .i64 m, .int .i64 a, .int .i64 c, .int .i64 i]] w fun e w' => e = .returned (.int .i64 (er (ok_24 d n m a c i))) ∧ Below w.heap.size w w' := by
  rcases xd : (d == 0)
  · have hk : ok_24 d n m a c i = false := by
      simp [ok_24, xd]
    rw [hk]
    exact rck_d 24 d n m a c i false false false false false true w (by decide) (by decide) rfields_24 (fun w => by have := reg_n d w; rw [xd] at this; exact this)
  · skip
    rcases xn : (n == 0)
    · have hk : ok_24 d n m a c i = false := by
        simp [ok_24, xn]
      rw [hk]
      exact rck_n 24 d n m a c i false false false false false true w (by decide) (by decide) rfields_24 (fun w => by have := reg_n d w; rw [xd] at this; exact this) (fun w => by have := reg_n n w; rw [xn] at this; exact this)
    · skip
      rcases xm : (m == 0)
      · have hk : ok_24 d n m a c i = false := by
          simp [ok_24, xm]
        rw [hk]
        exact rck_m 24 d n m a c i false false false false false true w (by decide) (by decide) rfields_24 (fun w => by have := reg_n d w; rw [xd] at this; exact this) (fun w => by have := reg_n n w; rw [xn] at this; exact this) (fun w => by have := reg_n m w; rw [xm] at this; exact this)
      · skip
        rcases xa : (a == 0)
        · have hk : ok_24 d n m a c i = false := by
            simp [ok_24, xa]
          rw [hk]
          exact rck_a 24 d n m a c i false false false false false true w (by decide) (by decide) rfields_24 (fun w => by have := reg_n d w; rw [xd] at this; exact this) (fun w => by have := reg_n n w; rw [xn] at this; exact this) (fun w => by have := reg_n m w; rw [xm] at this; exact this) (fun w => by have := reg_n a w; rw [xa] at this; exact this)
        · skip
          rcases xi : ((wm i (-134217728) 134217724 4))
          · have hk : ok_24 d n m a c i = false := by
              simp [ok_24, xi]
            rw [hk]
            exact rck_i 24 d n m a c i false false false false false true w (by decide) (by decide) rfields_24 (fun w => by have := reg_n d w; rw [xd] at this; exact this) (fun w => by have := reg_n n w; rw [xn] at this; exact this) (fun w => by have := reg_n m w; rw [xm] at this; exact this) (fun w => by have := reg_n a w; rw [xa] at this; exact this) (fun w => by have := rimm_24 d n m a c i w; rw [xi] at this; exact this)
          · skip
            have Hxd := Lib.hid (fun w => (by have := reg_n d w; rw [xd] at this; exact this) : ∀ w, Calls Try.prog 168 #[.bool false, .int .i64 d] w fun e w' => e = .returned (.bool true) ∧ w' = w)
            have Hxn := Lib.hid (fun w => (by have := reg_n n w; rw [xn] at this; exact this) : ∀ w, Calls Try.prog 168 #[.bool false, .int .i64 n] w fun e w' => e = .returned (.bool true) ∧ w' = w)
            have Hxm := Lib.hid (fun w => (by have := reg_n m w; rw [xm] at this; exact this) : ∀ w, Calls Try.prog 168 #[.bool false, .int .i64 m] w fun e w' => e = .returned (.bool true) ∧ w' = w)
            have Hxa := Lib.hid (fun w => (by have := reg_n a w; rw [xa] at this; exact this) : ∀ w, Calls Try.prog 168 #[.bool false, .int .i64 a] w fun e w' => e = .returned (.bool true) ∧ w' = w)
            have Hxi := Lib.hid (fun w => (by have := rimm_24 d n m a c i w; rw [xi] at this; exact this) : ∀ w, Calls Try.prog 169 #[.agg #[.int .i64 24, .int .i64 d, .int .i64 n, .int .i64 m, .int .i64 a, .int .i64 c, .int .i64 i]] w fun e w' => e = .returned (.bool true) ∧ Below w.heap.size w w')
            have hk : ok_24 d n m a c i = (c == 0) := by simp [ok_24, xd, xn, xm, xa, xi]
            have HK := Lib.hid hk
            clear hk xd xn xm xa xi
            go_enter Try.func83, Try.ntmps83
            go_wp2_with (first | (go_at_call 167; refine (rfields_24 _).mono ?_; rintro e w' ⟨rfl, rfl⟩) | (go_at_call 168; (with_reducible refine (Hxd.out _).mono ?_); rintro e w' ⟨rfl, rfl⟩) | (go_at_call 168; (with_reducible refine (Hxn.out _).mono ?_); rintro e w' ⟨rfl, rfl⟩) | (go_at_call 168; (with_reducible refine (Hxm.out _).mono ?_); rintro e w' ⟨rfl, rfl⟩) | (go_at_call 168; (with_reducible refine (Hxa.out _).mono ?_); rintro e w' ⟨rfl, rfl⟩) | (go_at_call 169; refine (Hxi.out _).mono ?_; rintro e w2 ⟨rfl, hb2⟩; have HB2 := Lib.hid (((Below.refl _ _).alloc (Nat.le_refl _) _).trans (hb2.mono (by simp)) : Below w.heap.size w w2); have HI2 := Lib.hid ((InsC.new w (.int .i64 24) (.int .i64 d) (.int .i64 n) (.int .i64 m) (.int .i64 a) (.int .i64 c) (.int .i64 i)).below' hb2 rfl); obtain ⟨hl, i0, i1, i2, i3, i4, i5, i6⟩ := HI2.out; clear hb2))
            all_goals
              go_ret
              exact ⟨ret_er (by rw [HK.out]; first | rfl | (simp [er]; omega) | (simp [er, *]; done) | (simp_all [er]; omega)), HB2.out⟩
set_option maxRecDepth 100000 in
set_option maxHeartbeats 2000000 in
theorem rcheck_28 (d n m a c i : Int) (w : World) : Calls Try.prog 83 #[.agg #[.int .i64 28, .int .i64 d, .int .i64 n, .int .i64 m, .int .i64 a, .int .i64 c, .int .i64 i]] w fun e w' => e = .returned (.int .i64 (er (ok_28 d n m a c i))) ∧ Below w.heap.size w w' := by
  rcases xd : (wi d 0 31)
  · have hk : ok_28 d n m a c i = false := by
      simp [ok_28, xd]
    rw [hk]
    exact rck_d 28 d n m a c i true true false false false true w (by decide) (by decide) rfields_28 (fun w => by have := reg_y d w; rw [xd] at this; exact this)
  · skip
    rcases xn : (wi n 0 31)
    · have hk : ok_28 d n m a c i = false := by
        simp [ok_28, xn]
      rw [hk]
      exact rck_n 28 d n m a c i true true false false false true w (by decide) (by decide) rfields_28 (fun w => by have := reg_y d w; rw [xd] at this; exact this) (fun w => by have := reg_y n w; rw [xn] at this; exact this)
    · skip
      rcases xm : (m == 0)
      · have hk : ok_28 d n m a c i = false := by
          simp [ok_28, xm]
        rw [hk]
        exact rck_m 28 d n m a c i true true false false false true w (by decide) (by decide) rfields_28 (fun w => by have := reg_y d w; rw [xd] at this; exact this) (fun w => by have := reg_y n w; rw [xn] at this; exact this) (fun w => by have := reg_n m w; rw [xm] at this; exact this)
      · skip
        rcases xa : (a == 0)
        · have hk : ok_28 d n m a c i = false := by
            simp [ok_28, xa]
          rw [hk]
          exact rck_a 28 d n m a c i true true false false false true w (by decide) (by decide) rfields_28 (fun w => by have := reg_y d w; rw [xd] at this; exact this) (fun w => by have := reg_y n w; rw [xn] at this; exact this) (fun w => by have := reg_n m w; rw [xm] at this; exact this) (fun w => by have := reg_n a w; rw [xa] at this; exact this)
        · skip
          rcases xi : ((wm i 0 32760 8))
          · have hk : ok_28 d n m a c i = false := by
              simp [ok_28, xi]
            rw [hk]
            exact rck_i 28 d n m a c i true true false false false true w (by decide) (by decide) rfields_28 (fun w => by have := reg_y d w; rw [xd] at this; exact this) (fun w => by have := reg_y n w; rw [xn] at this; exact this) (fun w => by have := reg_n m w; rw [xm] at this; exact this) (fun w => by have := reg_n a w; rw [xa] at this; exact this) (fun w => by have := rimm_28 d n m a c i w; rw [xi] at this; exact this)
          · skip
            have Hxd := Lib.hid (fun w => (by have := reg_y d w; rw [xd] at this; exact this) : ∀ w, Calls Try.prog 168 #[.bool true, .int .i64 d] w fun e w' => e = .returned (.bool true) ∧ w' = w)
            have Hxn := Lib.hid (fun w => (by have := reg_y n w; rw [xn] at this; exact this) : ∀ w, Calls Try.prog 168 #[.bool true, .int .i64 n] w fun e w' => e = .returned (.bool true) ∧ w' = w)
            have Hxm := Lib.hid (fun w => (by have := reg_n m w; rw [xm] at this; exact this) : ∀ w, Calls Try.prog 168 #[.bool false, .int .i64 m] w fun e w' => e = .returned (.bool true) ∧ w' = w)
            have Hxa := Lib.hid (fun w => (by have := reg_n a w; rw [xa] at this; exact this) : ∀ w, Calls Try.prog 168 #[.bool false, .int .i64 a] w fun e w' => e = .returned (.bool true) ∧ w' = w)
            have Hxi := Lib.hid (fun w => (by have := rimm_28 d n m a c i w; rw [xi] at this; exact this) : ∀ w, Calls Try.prog 169 #[.agg #[.int .i64 28, .int .i64 d, .int .i64 n, .int .i64 m, .int .i64 a, .int .i64 c, .int .i64 i]] w fun e w' => e = .returned (.bool true) ∧ Below w.heap.size w w')
            have hk : ok_28 d n m a c i = (c == 0) := by simp [ok_28, xd, xn, xm, xa, xi]
            have HK := Lib.hid hk
            clear hk xd xn xm xa xi
            go_enter Try.func83, Try.ntmps83
            go_wp2_with (first | (go_at_call 167; refine (rfields_28 _).mono ?_; rintro e w' ⟨rfl, rfl⟩) | (go_at_call 168; (with_reducible refine (Hxd.out _).mono ?_); rintro e w' ⟨rfl, rfl⟩) | (go_at_call 168; (with_reducible refine (Hxn.out _).mono ?_); rintro e w' ⟨rfl, rfl⟩) | (go_at_call 168; (with_reducible refine (Hxm.out _).mono ?_); rintro e w' ⟨rfl, rfl⟩) | (go_at_call 168; (with_reducible refine (Hxa.out _).mono ?_); rintro e w' ⟨rfl, rfl⟩) | (go_at_call 169; refine (Hxi.out _).mono ?_; rintro e w2 ⟨rfl, hb2⟩; have HB2 := Lib.hid (((Below.refl _ _).alloc (Nat.le_refl _) _).trans (hb2.mono (by simp)) : Below w.heap.size w w2); have HI2 := Lib.hid ((InsC.new w (.int .i64 28) (.int .i64 d) (.int .i64 n) (.int .i64 m) (.int .i64 a) (.int .i64 c) (.int .i64 i)).below' hb2 rfl); obtain ⟨hl, i0, i1, i2, i3, i4, i5, i6⟩ := HI2.out; clear hb2))
            all_goals
              go_ret
              exact ⟨ret_er (by rw [HK.out]; first | rfl | (simp [er]; omega) | (simp [er, *]; done) | (simp_all [er]; omega)), HB2.out⟩
set_option maxRecDepth 100000 in
set_option maxHeartbeats 2000000 in
theorem rcheck_32 (d n m a c i : Int) (w : World) : Calls Try.prog 83 #[.agg #[.int .i64 32, .int .i64 d, .int .i64 n, .int .i64 m, .int .i64 a, .int .i64 c, .int .i64 i]] w fun e w' => e = .returned (.int .i64 (er (ok_32 d n m a c i))) ∧ Below w.heap.size w w' := by
  rcases xd : (wi d 0 31)
  · have hk : ok_32 d n m a c i = false := by
      simp [ok_32, xd]
    rw [hk]
    exact rck_d 32 d n m a c i true true true false false false w (by decide) (by decide) rfields_32 (fun w => by have := reg_y d w; rw [xd] at this; exact this)
  · skip
    rcases xn : (wi n 0 31)
    · have hk : ok_32 d n m a c i = false := by
        simp [ok_32, xn]
      rw [hk]
      exact rck_n 32 d n m a c i true true true false false false w (by decide) (by decide) rfields_32 (fun w => by have := reg_y d w; rw [xd] at this; exact this) (fun w => by have := reg_y n w; rw [xn] at this; exact this)
    · skip
      rcases xm : (wi m 0 31)
      · have hk : ok_32 d n m a c i = false := by
          simp [ok_32, xm]
        rw [hk]
        exact rck_m 32 d n m a c i true true true false false false w (by decide) (by decide) rfields_32 (fun w => by have := reg_y d w; rw [xd] at this; exact this) (fun w => by have := reg_y n w; rw [xn] at this; exact this) (fun w => by have := reg_y m w; rw [xm] at this; exact this)
      · skip
        rcases xa : (a == 0)
        · have hk : ok_32 d n m a c i = false := by
            simp [ok_32, xa]
          rw [hk]
          exact rck_a 32 d n m a c i true true true false false false w (by decide) (by decide) rfields_32 (fun w => by have := reg_y d w; rw [xd] at this; exact this) (fun w => by have := reg_y n w; rw [xn] at this; exact this) (fun w => by have := reg_y m w; rw [xm] at this; exact this) (fun w => by have := reg_n a w; rw [xa] at this; exact this)
        · skip
          rcases xi : ((i == 0))
          · have hk : ok_32 d n m a c i = false := by
              simp [ok_32, xi]
            rw [hk]
            exact rck_i 32 d n m a c i true true true false false false w (by decide) (by decide) rfields_32 (fun w => by have := reg_y d w; rw [xd] at this; exact this) (fun w => by have := reg_y n w; rw [xn] at this; exact this) (fun w => by have := reg_y m w; rw [xm] at this; exact this) (fun w => by have := reg_n a w; rw [xa] at this; exact this) (fun w => by have := rimm_32 d n m a c i w; rw [xi] at this; exact this)
          · skip
            have Hxd := Lib.hid (fun w => (by have := reg_y d w; rw [xd] at this; exact this) : ∀ w, Calls Try.prog 168 #[.bool true, .int .i64 d] w fun e w' => e = .returned (.bool true) ∧ w' = w)
            have Hxn := Lib.hid (fun w => (by have := reg_y n w; rw [xn] at this; exact this) : ∀ w, Calls Try.prog 168 #[.bool true, .int .i64 n] w fun e w' => e = .returned (.bool true) ∧ w' = w)
            have Hxm := Lib.hid (fun w => (by have := reg_y m w; rw [xm] at this; exact this) : ∀ w, Calls Try.prog 168 #[.bool true, .int .i64 m] w fun e w' => e = .returned (.bool true) ∧ w' = w)
            have Hxa := Lib.hid (fun w => (by have := reg_n a w; rw [xa] at this; exact this) : ∀ w, Calls Try.prog 168 #[.bool false, .int .i64 a] w fun e w' => e = .returned (.bool true) ∧ w' = w)
            have Hxi := Lib.hid (fun w => (by have := rimm_32 d n m a c i w; rw [xi] at this; exact this) : ∀ w, Calls Try.prog 169 #[.agg #[.int .i64 32, .int .i64 d, .int .i64 n, .int .i64 m, .int .i64 a, .int .i64 c, .int .i64 i]] w fun e w' => e = .returned (.bool true) ∧ Below w.heap.size w w')
            have hk : ok_32 d n m a c i = (c == 0) := by simp [ok_32, xd, xn, xm, xa, xi]
            have HK := Lib.hid hk
            clear hk xd xn xm xa xi
            go_enter Try.func83, Try.ntmps83
            go_wp2_with (first | (go_at_call 167; refine (rfields_32 _).mono ?_; rintro e w' ⟨rfl, rfl⟩) | (go_at_call 168; (with_reducible refine (Hxd.out _).mono ?_); rintro e w' ⟨rfl, rfl⟩) | (go_at_call 168; (with_reducible refine (Hxn.out _).mono ?_); rintro e w' ⟨rfl, rfl⟩) | (go_at_call 168; (with_reducible refine (Hxm.out _).mono ?_); rintro e w' ⟨rfl, rfl⟩) | (go_at_call 168; (with_reducible refine (Hxa.out _).mono ?_); rintro e w' ⟨rfl, rfl⟩) | (go_at_call 169; refine (Hxi.out _).mono ?_; rintro e w2 ⟨rfl, hb2⟩; have HB2 := Lib.hid (((Below.refl _ _).alloc (Nat.le_refl _) _).trans (hb2.mono (by simp)) : Below w.heap.size w w2); have HI2 := Lib.hid ((InsC.new w (.int .i64 32) (.int .i64 d) (.int .i64 n) (.int .i64 m) (.int .i64 a) (.int .i64 c) (.int .i64 i)).below' hb2 rfl); obtain ⟨hl, i0, i1, i2, i3, i4, i5, i6⟩ := HI2.out; clear hb2))
            all_goals
              go_ret
              exact ⟨ret_er (by rw [HK.out]; first | rfl | (simp [er]; omega) | (simp [er, *]; done) | (simp_all [er]; omega)), HB2.out⟩
set_option maxRecDepth 100000 in
set_option maxHeartbeats 2000000 in
theorem rcheck_36 (d n m a c i : Int) (w : World) : Calls Try.prog 83 #[.agg #[.int .i64 36, .int .i64 d, .int .i64 n, .int .i64 m, .int .i64 a, .int .i64 c, .int .i64 i]] w fun e w' => e = .returned (.int .i64 (er (ok_36 d n m a c i))) ∧ Below w.heap.size w w' := by
  rcases xd : (wi d 0 31)
  · have hk : ok_36 d n m a c i = false := by
      simp [ok_36, xd]
    rw [hk]
    exact rck_d 36 d n m a c i true true true false false false w (by decide) (by decide) rfields_36 (fun w => by have := reg_y d w; rw [xd] at this; exact this)
  · skip
    rcases xn : (wi n 0 31)
    · have hk : ok_36 d n m a c i = false := by
        simp [ok_36, xn]
      rw [hk]
      exact rck_n 36 d n m a c i true true true false false false w (by decide) (by decide) rfields_36 (fun w => by have := reg_y d w; rw [xd] at this; exact this) (fun w => by have := reg_y n w; rw [xn] at this; exact this)
    · skip
      rcases xm : (wi m 0 31)
      · have hk : ok_36 d n m a c i = false := by
          simp [ok_36, xm]
        rw [hk]
        exact rck_m 36 d n m a c i true true true false false false w (by decide) (by decide) rfields_36 (fun w => by have := reg_y d w; rw [xd] at this; exact this) (fun w => by have := reg_y n w; rw [xn] at this; exact this) (fun w => by have := reg_y m w; rw [xm] at this; exact this)
      · skip
        rcases xa : (a == 0)
        · have hk : ok_36 d n m a c i = false := by
            simp [ok_36, xa]
          rw [hk]
          exact rck_a 36 d n m a c i true true true false false false w (by decide) (by decide) rfields_36 (fun w => by have := reg_y d w; rw [xd] at this; exact this) (fun w => by have := reg_y n w; rw [xn] at this; exact this) (fun w => by have := reg_y m w; rw [xm] at this; exact this) (fun w => by have := reg_n a w; rw [xa] at this; exact this)
        · skip
          rcases xi : ((i == 0))
          · have hk : ok_36 d n m a c i = false := by
              simp [ok_36, xi]
            rw [hk]
            exact rck_i 36 d n m a c i true true true false false false w (by decide) (by decide) rfields_36 (fun w => by have := reg_y d w; rw [xd] at this; exact this) (fun w => by have := reg_y n w; rw [xn] at this; exact this) (fun w => by have := reg_y m w; rw [xm] at this; exact this) (fun w => by have := reg_n a w; rw [xa] at this; exact this) (fun w => by have := rimm_36 d n m a c i w; rw [xi] at this; exact this)
          · skip
            have Hxd := Lib.hid (fun w => (by have := reg_y d w; rw [xd] at this; exact this) : ∀ w, Calls Try.prog 168 #[.bool true, .int .i64 d] w fun e w' => e = .returned (.bool true) ∧ w' = w)
            have Hxn := Lib.hid (fun w => (by have := reg_y n w; rw [xn] at this; exact this) : ∀ w, Calls Try.prog 168 #[.bool true, .int .i64 n] w fun e w' => e = .returned (.bool true) ∧ w' = w)
            have Hxm := Lib.hid (fun w => (by have := reg_y m w; rw [xm] at this; exact this) : ∀ w, Calls Try.prog 168 #[.bool true, .int .i64 m] w fun e w' => e = .returned (.bool true) ∧ w' = w)
            have Hxa := Lib.hid (fun w => (by have := reg_n a w; rw [xa] at this; exact this) : ∀ w, Calls Try.prog 168 #[.bool false, .int .i64 a] w fun e w' => e = .returned (.bool true) ∧ w' = w)
            have Hxi := Lib.hid (fun w => (by have := rimm_36 d n m a c i w; rw [xi] at this; exact this) : ∀ w, Calls Try.prog 169 #[.agg #[.int .i64 36, .int .i64 d, .int .i64 n, .int .i64 m, .int .i64 a, .int .i64 c, .int .i64 i]] w fun e w' => e = .returned (.bool true) ∧ Below w.heap.size w w')
            have hk : ok_36 d n m a c i = (c == 0) := by simp [ok_36, xd, xn, xm, xa, xi]
            have HK := Lib.hid hk
            clear hk xd xn xm xa xi
            go_enter Try.func83, Try.ntmps83
            go_wp2_with (first | (go_at_call 167; refine (rfields_36 _).mono ?_; rintro e w' ⟨rfl, rfl⟩) | (go_at_call 168; (with_reducible refine (Hxd.out _).mono ?_); rintro e w' ⟨rfl, rfl⟩) | (go_at_call 168; (with_reducible refine (Hxn.out _).mono ?_); rintro e w' ⟨rfl, rfl⟩) | (go_at_call 168; (with_reducible refine (Hxm.out _).mono ?_); rintro e w' ⟨rfl, rfl⟩) | (go_at_call 168; (with_reducible refine (Hxa.out _).mono ?_); rintro e w' ⟨rfl, rfl⟩) | (go_at_call 169; refine (Hxi.out _).mono ?_; rintro e w2 ⟨rfl, hb2⟩; have HB2 := Lib.hid (((Below.refl _ _).alloc (Nat.le_refl _) _).trans (hb2.mono (by simp)) : Below w.heap.size w w2); have HI2 := Lib.hid ((InsC.new w (.int .i64 36) (.int .i64 d) (.int .i64 n) (.int .i64 m) (.int .i64 a) (.int .i64 c) (.int .i64 i)).below' hb2 rfl); obtain ⟨hl, i0, i1, i2, i3, i4, i5, i6⟩ := HI2.out; clear hb2))
            all_goals
              go_ret
              exact ⟨ret_er (by rw [HK.out]; first | rfl | (simp [er]; omega) | (simp [er, *]; done) | (simp_all [er]; omega)), HB2.out⟩
set_option maxRecDepth 100000 in
set_option maxHeartbeats 2000000 in
theorem rcheck_40 (d n m a c i : Int) (w : World) : Calls Try.prog 83 #[.agg #[.int .i64 40, .int .i64 d, .int .i64 n, .int .i64 m, .int .i64 a, .int .i64 c, .int .i64 i]] w fun e w' => e = .returned (.int .i64 (er (ok_40 d n m a c i))) ∧ Below w.heap.size w w' := by
  rcases xd : (d == 0)
  · have hk : ok_40 d n m a c i = false := by
      simp [ok_40, xd]
    rw [hk]
    exact rck_d 40 d n m a c i false true false false false false w (by decide) (by decide) rfields_40 (fun w => by have := reg_n d w; rw [xd] at this; exact this)
  · skip
    rcases xn : (wi n 0 31)
    · have hk : ok_40 d n m a c i = false := by
        simp [ok_40, xn]
      rw [hk]
      exact rck_n 40 d n m a c i false true false false false false w (by decide) (by decide) rfields_40 (fun w => by have := reg_n d w; rw [xd] at this; exact this) (fun w => by have := reg_y n w; rw [xn] at this; exact this)
    · skip
      rcases xm : (m == 0)
      · have hk : ok_40 d n m a c i = false := by
          simp [ok_40, xm]
        rw [hk]
        exact rck_m 40 d n m a c i false true false false false false w (by decide) (by decide) rfields_40 (fun w => by have := reg_n d w; rw [xd] at this; exact this) (fun w => by have := reg_y n w; rw [xn] at this; exact this) (fun w => by have := reg_n m w; rw [xm] at this; exact this)
      · skip
        rcases xa : (a == 0)
        · have hk : ok_40 d n m a c i = false := by
            simp [ok_40, xa]
          rw [hk]
          exact rck_a 40 d n m a c i false true false false false false w (by decide) (by decide) rfields_40 (fun w => by have := reg_n d w; rw [xd] at this; exact this) (fun w => by have := reg_y n w; rw [xn] at this; exact this) (fun w => by have := reg_n m w; rw [xm] at this; exact this) (fun w => by have := reg_n a w; rw [xa] at this; exact this)
        · skip
          rcases xi : ((i == 0))
          · have hk : ok_40 d n m a c i = false := by
              simp [ok_40, xi]
            rw [hk]
            exact rck_i 40 d n m a c i false true false false false false w (by decide) (by decide) rfields_40 (fun w => by have := reg_n d w; rw [xd] at this; exact this) (fun w => by have := reg_y n w; rw [xn] at this; exact this) (fun w => by have := reg_n m w; rw [xm] at this; exact this) (fun w => by have := reg_n a w; rw [xa] at this; exact this) (fun w => by have := rimm_40 d n m a c i w; rw [xi] at this; exact this)
          · skip
            have Hxd := Lib.hid (fun w => (by have := reg_n d w; rw [xd] at this; exact this) : ∀ w, Calls Try.prog 168 #[.bool false, .int .i64 d] w fun e w' => e = .returned (.bool true) ∧ w' = w)
            have Hxn := Lib.hid (fun w => (by have := reg_y n w; rw [xn] at this; exact this) : ∀ w, Calls Try.prog 168 #[.bool true, .int .i64 n] w fun e w' => e = .returned (.bool true) ∧ w' = w)
            have Hxm := Lib.hid (fun w => (by have := reg_n m w; rw [xm] at this; exact this) : ∀ w, Calls Try.prog 168 #[.bool false, .int .i64 m] w fun e w' => e = .returned (.bool true) ∧ w' = w)
            have Hxa := Lib.hid (fun w => (by have := reg_n a w; rw [xa] at this; exact this) : ∀ w, Calls Try.prog 168 #[.bool false, .int .i64 a] w fun e w' => e = .returned (.bool true) ∧ w' = w)
            have Hxi := Lib.hid (fun w => (by have := rimm_40 d n m a c i w; rw [xi] at this; exact this) : ∀ w, Calls Try.prog 169 #[.agg #[.int .i64 40, .int .i64 d, .int .i64 n, .int .i64 m, .int .i64 a, .int .i64 c, .int .i64 i]] w fun e w' => e = .returned (.bool true) ∧ Below w.heap.size w w')
            have hk : ok_40 d n m a c i = (c == 0) := by simp [ok_40, xd, xn, xm, xa, xi]
            have HK := Lib.hid hk
            clear hk xd xn xm xa xi
            go_enter Try.func83, Try.ntmps83
            go_wp2_with (first | (go_at_call 167; refine (rfields_40 _).mono ?_; rintro e w' ⟨rfl, rfl⟩) | (go_at_call 168; (with_reducible refine (Hxd.out _).mono ?_); rintro e w' ⟨rfl, rfl⟩) | (go_at_call 168; (with_reducible refine (Hxn.out _).mono ?_); rintro e w' ⟨rfl, rfl⟩) | (go_at_call 168; (with_reducible refine (Hxm.out _).mono ?_); rintro e w' ⟨rfl, rfl⟩) | (go_at_call 168; (with_reducible refine (Hxa.out _).mono ?_); rintro e w' ⟨rfl, rfl⟩) | (go_at_call 169; refine (Hxi.out _).mono ?_; rintro e w2 ⟨rfl, hb2⟩; have HB2 := Lib.hid (((Below.refl _ _).alloc (Nat.le_refl _) _).trans (hb2.mono (by simp)) : Below w.heap.size w w2); have HI2 := Lib.hid ((InsC.new w (.int .i64 40) (.int .i64 d) (.int .i64 n) (.int .i64 m) (.int .i64 a) (.int .i64 c) (.int .i64 i)).below' hb2 rfl); obtain ⟨hl, i0, i1, i2, i3, i4, i5, i6⟩ := HI2.out; clear hb2))
            all_goals
              go_ret
              exact ⟨ret_er (by rw [HK.out]; first | rfl | (simp [er]; omega) | (simp [er, *]; done) | (simp_all [er]; omega)), HB2.out⟩
end Go.Proofs.Ytnbpgoacooddjaa.En
