import Derived.Test.YtnbpgoacooddjaaRows
import Derived.WalkKit
import Derived.ProofKit
import Derived.OpenShut
import Derived.Outline
import Derived.WalkSmall
import Derived.WalkLawsBesides
import Derived.WalkSpells
import Derived.BigGuardPart
import Derived.RegionTactic
import Derived.Lib.Hide
import Derived.Below
import Derived.Deep.RegionWith
import Derived.Deep.RegionHeld3
import Derived.Test.YtnbpgoacooddjaaERfA
namespace Go.Proofs.Ytnbpgoacooddjaa.Fr
end Go.Proofs.Ytnbpgoacooddjaa.Fr
namespace Go.Proofs.Ytnbpgoacooddjaa.En
open Go.Proofs.Ytnbpgoacooddjaa.Fr
open Go.ChangeShapes Go.WideShapes Go.ChangeAt Go.RowKit
set_option linter.unusedVariables false
set_option maxRecDepth 100000 in
set_option maxHeartbeats 2000000 in
theorem rcheck_3 (d n m a c i : Int) (w : World) : Calls Try.prog 83 #[.agg #[.int .i64 3, .int .i64 d, .int .i64 n, .int .i64 m, .int .i64 a, .int .i64 c, .int .i64 i]] w fun e w' => e = .returned (.int .i64 (er (ok_3 d n m a c i))) ∧ Below w.heap.size w w' := by
  rcases xd : (wi d 0 31)
  · have hk : ok_3 d n m a c i = false := by
      simp [ok_3, xd]
    rw [hk]
    exact rck_d 3 d n m a c i true false true false false true w (by decide) (by decide) rfields_3 (fun w => by have := reg_y d w; rw [xd] at this; exact this)
  · skip
    rcases xn : (n == 0)
    · have hk : ok_3 d n m a c i = false := by
        simp [ok_3, xn]
      rw [hk]
      exact rck_n 3 d n m a c i true false true false false true w (by decide) (by decide) rfields_3 (fun w => by have := reg_y d w; rw [xd] at this; exact this) (fun w => by have := reg_n n w; rw [xn] at this; exact this)
    · skip
      rcases xm : (wi m 0 31)
      · have hk : ok_3 d n m a c i = false := by
          have h2 : wi m 0 3 = false := by simp [wi] at xm ⊢; omega
          simp [ok_3, h2]
        rw [hk]
        exact rck_m 3 d n m a c i true false true false false true w (by decide) (by decide) rfields_3 (fun w => by have := reg_y d w; rw [xd] at this; exact this) (fun w => by have := reg_n n w; rw [xn] at this; exact this) (fun w => by have := reg_y m w; rw [xm] at this; exact this)
      · skip
        rcases xa : (a == 0)
        · have hk : ok_3 d n m a c i = false := by
            simp [ok_3, xa]
          rw [hk]
          exact rck_a 3 d n m a c i true false true false false true w (by decide) (by decide) rfields_3 (fun w => by have := reg_y d w; rw [xd] at this; exact this) (fun w => by have := reg_n n w; rw [xn] at this; exact this) (fun w => by have := reg_y m w; rw [xm] at this; exact this) (fun w => by have := reg_n a w; rw [xa] at this; exact this)
        · skip
          rcases xi : ((wi i 0 65535))
          · have hk : ok_3 d n m a c i = false := by
              simp [ok_3, xi]
            rw [hk]
            exact rck_i 3 d n m a c i true false true false false true w (by decide) (by decide) rfields_3 (fun w => by have := reg_y d w; rw [xd] at this; exact this) (fun w => by have := reg_n n w; rw [xn] at this; exact this) (fun w => by have := reg_y m w; rw [xm] at this; exact this) (fun w => by have := reg_n a w; rw [xa] at this; exact this) (fun w => by have := rimm_3 d n m a c i w; rw [xi] at this; exact this)
          · skip
            have Hxd := Lib.hid (fun w => (by have := reg_y d w; rw [xd] at this; exact this) : ∀ w, Calls Try.prog 168 #[.bool true, .int .i64 d] w fun e w' => e = .returned (.bool true) ∧ w' = w)
            have Hxn := Lib.hid (fun w => (by have := reg_n n w; rw [xn] at this; exact this) : ∀ w, Calls Try.prog 168 #[.bool false, .int .i64 n] w fun e w' => e = .returned (.bool true) ∧ w' = w)
            have Hxm := Lib.hid (fun w => (by have := reg_y m w; rw [xm] at this; exact this) : ∀ w, Calls Try.prog 168 #[.bool true, .int .i64 m] w fun e w' => e = .returned (.bool true) ∧ w' = w)
            have Hxa := Lib.hid (fun w => (by have := reg_n a w; rw [xa] at this; exact this) : ∀ w, Calls Try.prog 168 #[.bool false, .int .i64 a] w fun e w' => e = .returned (.bool true) ∧ w' = w)
            have Hxi := Lib.hid (fun w => (by have := rimm_3 d n m a c i w; rw [xi] at this; exact this) : ∀ w, Calls Try.prog 169 #[.agg #[.int .i64 3, .int .i64 d, .int .i64 n, .int .i64 m, .int .i64 a, .int .i64 c, .int .i64 i]] w fun e w' => e = .returned (.bool true) ∧ Below w.heap.size w w')
            have hk : ok_3 d n m a c i = (wi m 0 3 && (c == 0)) := by simp [ok_3, xd, xn, xa, xi]
            have HK := Lib.hid hk
            clear hk xd xn xa xi
            have hm1 : 0 ≤ m ∧ m ≤ 31 := by simpa [wi] using xm
            have HM := Lib.hid hm1
            clear xm hm1
            go_enter Try.func83, Try.ntmps83
            go_wp2_with (first | (go_at_call 167; refine (rfields_3 _).mono ?_; rintro e w' ⟨rfl, rfl⟩) | (go_at_call 168; (with_reducible refine (Hxd.out _).mono ?_); rintro e w' ⟨rfl, rfl⟩) | (go_at_call 168; (with_reducible refine (Hxn.out _).mono ?_); rintro e w' ⟨rfl, rfl⟩) | (go_at_call 168; (with_reducible refine (Hxm.out _).mono ?_); rintro e w' ⟨rfl, rfl⟩) | (go_at_call 168; (with_reducible refine (Hxa.out _).mono ?_); rintro e w' ⟨rfl, rfl⟩) | (go_at_call 169; refine (Hxi.out _).mono ?_; rintro e w2 ⟨rfl, hb2⟩; have HB2 := Lib.hid (((Below.refl _ _).alloc (Nat.le_refl _) _).trans (hb2.mono (by simp)) : Below w.heap.size w w2); have HI2 := Lib.hid ((InsC.new w (.int .i64 3) (.int .i64 d) (.int .i64 n) (.int .i64 m) (.int .i64 a) (.int .i64 c) (.int .i64 i)).below' hb2 rfl); obtain ⟨hl, i0, i1, i2, i3, i4, i5, i6⟩ := HI2.out; clear hb2))
            all_goals
              go_ret
              exact ⟨ret_er (by rw [HK.out]; have := HM.out; first | rfl | (simp [er, wi]; omega) | (simp [er, wi, *]; done) | (simp_all [er, wi]; omega)), HB2.out⟩
set_option maxRecDepth 100000 in
set_option maxHeartbeats 2000000 in
theorem rcheck_7 (d n m a c i : Int) (w : World) : Calls Try.prog 83 #[.agg #[.int .i64 7, .int .i64 d, .int .i64 n, .int .i64 m, .int .i64 a, .int .i64 c, .int .i64 i]] w fun e w' => e = .returned (.int .i64 (er (ok_7 d n m a c i))) ∧ Below w.heap.size w w' := by
  rcases xd : (wi d 0 31)
  · have hk : ok_7 d n m a c i = false := by
      simp [ok_7, xd]
    rw [hk]
    exact rck_d 7 d n m a c i true true true false false false w (by decide) (by decide) rfields_7 (fun w => by have := reg_y d w; rw [xd] at this; exact this)
  · skip
    rcases xn : (wi n 0 31)
    · have hk : ok_7 d n m a c i = false := by
        simp [ok_7, xn]
      rw [hk]
      exact rck_n 7 d n m a c i true true true false false false w (by decide) (by decide) rfields_7 (fun w => by have := reg_y d w; rw [xd] at this; exact this) (fun w => by have := reg_y n w; rw [xn] at this; exact this)
    · skip
      rcases xm : (wi m 0 31)
      · have hk : ok_7 d n m a c i = false := by
          simp [ok_7, xm]
        rw [hk]
        exact rck_m 7 d n m a c i true true true false false false w (by decide) (by decide) rfields_7 (fun w => by have := reg_y d w; rw [xd] at this; exact this) (fun w => by have := reg_y n w; rw [xn] at this; exact this) (fun w => by have := reg_y m w; rw [xm] at this; exact this)
      · skip
        rcases xa : (a == 0)
        · have hk : ok_7 d n m a c i = false := by
            simp [ok_7, xa]
          rw [hk]
          exact rck_a 7 d n m a c i true true true false false false w (by decide) (by decide) rfields_7 (fun w => by have := reg_y d w; rw [xd] at this; exact this) (fun w => by have := reg_y n w; rw [xn] at this; exact this) (fun w => by have := reg_y m w; rw [xm] at this; exact this) (fun w => by have := reg_n a w; rw [xa] at this; exact this)
        · skip
          rcases xi : ((i == 0))
          · have hk : ok_7 d n m a c i = false := by
              simp [ok_7, xi]
            rw [hk]
            exact rck_i 7 d n m a c i true true true false false false w (by decide) (by decide) rfields_7 (fun w => by have := reg_y d w; rw [xd] at this; exact this) (fun w => by have := reg_y n w; rw [xn] at this; exact this) (fun w => by have := reg_y m w; rw [xm] at this; exact this) (fun w => by have := reg_n a w; rw [xa] at this; exact this) (fun w => by have := rimm_7 d n m a c i w; rw [xi] at this; exact this)
          · skip
            have Hxd := Lib.hid (fun w => (by have := reg_y d w; rw [xd] at this; exact this) : ∀ w, Calls Try.prog 168 #[.bool true, .int .i64 d] w fun e w' => e = .returned (.bool true) ∧ w' = w)
            have Hxn := Lib.hid (fun w => (by have := reg_y n w; rw [xn] at this; exact this) : ∀ w, Calls Try.prog 168 #[.bool true, .int .i64 n] w fun e w' => e = .returned (.bool true) ∧ w' = w)
            have Hxm := Lib.hid (fun w => (by have := reg_y m w; rw [xm] at this; exact this) : ∀ w, Calls Try.prog 168 #[.bool true, .int .i64 m] w fun e w' => e = .returned (.bool true) ∧ w' = w)
            have Hxa := Lib.hid (fun w => (by have := reg_n a w; rw [xa] at this; exact this) : ∀ w, Calls Try.prog 168 #[.bool false, .int .i64 a] w fun e w' => e = .returned (.bool true) ∧ w' = w)
            have Hxi := Lib.hid (fun w => (by have := rimm_7 d n m a c i w; rw [xi] at this; exact this) : ∀ w, Calls Try.prog 169 #[.agg #[.int .i64 7, .int .i64 d, .int .i64 n, .int .i64 m, .int .i64 a, .int .i64 c, .int .i64 i]] w fun e w' => e = .returned (.bool true) ∧ Below w.heap.size w w')
            have hk : ok_7 d n m a c i = (c == 0) := by simp [ok_7, xd, xn, xm, xa, xi]
            have HK := Lib.hid hk
            clear hk xd xn xm xa xi
            go_enter Try.func83, Try.ntmps83
            go_wp2_with (first | (go_at_call 167; refine (rfields_7 _).mono ?_; rintro e w' ⟨rfl, rfl⟩) | (go_at_call 168; (with_reducible refine (Hxd.out _).mono ?_); rintro e w' ⟨rfl, rfl⟩) | (go_at_call 168; (with_reducible refine (Hxn.out _).mono ?_); rintro e w' ⟨rfl, rfl⟩) | (go_at_call 168; (with_reducible refine (Hxm.out _).mono ?_); rintro e w' ⟨rfl, rfl⟩) | (go_at_call 168; (with_reducible refine (Hxa.out _).mono ?_); rintro e w' ⟨rfl, rfl⟩) | (go_at_call 169; refine (Hxi.out _).mono ?_; rintro e w2 ⟨rfl, hb2⟩; have HB2 := Lib.hid (((Below.refl _ _).alloc (Nat.le_refl _) _).trans (hb2.mono (by simp)) : Below w.heap.size w w2); have HI2 := Lib.hid ((InsC.new w (.int .i64 7) (.int .i64 d) (.int .i64 n) (.int .i64 m) (.int .i64 a) (.int .i64 c) (.int .i64 i)).below' hb2 rfl); obtain ⟨hl, i0, i1, i2, i3, i4, i5, i6⟩ := HI2.out; clear hb2))
            all_goals
              go_ret
              exact ⟨ret_er (by rw [HK.out]; first | rfl | (simp [er]; omega) | (simp [er, *]; done) | (simp_all [er]; omega)), HB2.out⟩
set_option maxRecDepth 100000 in
set_option maxHeartbeats 2000000 in
theorem rcheck_11 (d n m a c i : Int) (w : World) : Calls Try.prog 83 #[.agg #[.int .i64 11, .int .i64 d, .int .i64 n, .int .i64 m, .int .i64 a, .int .i64 c, .int .i64 i]] w fun e w' => e = .returned (.int .i64 (er (ok_11 d n m a c i))) ∧ Below w.heap.size w w' := by
  rcases xd : (wi d 0 31)
  · have hk : ok_11 d n m a c i = false := by
      simp [ok_11, xd]
    rw [hk]
    exact rck_d 11 d n m a c i true true true false false false w (by decide) (by decide) rfields_11 (fun w => by have := reg_y d w; rw [xd] at this; exact this)
  · skip
    rcases xn : (wi n 0 31)
    · have hk : ok_11 d n m a c i = false := by
        simp [ok_11, xn]
      rw [hk]
      exact rck_n 11 d n m a c i true true true false false false w (by decide) (by decide) rfields_11 (fun w => by have := reg_y d w; rw [xd] at this; exact this) (fun w => by have := reg_y n w; rw [xn] at this; exact this)
    · skip
      rcases xm : (wi m 0 31)
      · have hk : ok_11 d n m a c i = false := by
          simp [ok_11, xm]
        rw [hk]
        exact rck_m 11 d n m a c i true true true false false false w (by decide) (by decide) rfields_11 (fun w => by have := reg_y d w; rw [xd] at this; exact this) (fun w => by have := reg_y n w; rw [xn] at this; exact this) (fun w => by have := reg_y m w; rw [xm] at this; exact this)
      · skip
        rcases xa : (a == 0)
        · have hk : ok_11 d n m a c i = false := by
            simp [ok_11, xa]
          rw [hk]
          exact rck_a 11 d n m a c i true true true false false false w (by decide) (by decide) rfields_11 (fun w => by have := reg_y d w; rw [xd] at this; exact this) (fun w => by have := reg_y n w; rw [xn] at this; exact this) (fun w => by have := reg_y m w; rw [xm] at this; exact this) (fun w => by have := reg_n a w; rw [xa] at this; exact this)
        · skip
          rcases xi : ((i == 0))
          · have hk : ok_11 d n m a c i = false := by
              simp [ok_11, xi]
            rw [hk]
            exact rck_i 11 d n m a c i true true true false false false w (by decide) (by decide) rfields_11 (fun w => by have := reg_y d w; rw [xd] at this; exact this) (fun w => by have := reg_y n w; rw [xn] at this; exact this) (fun w => by have := reg_y m w; rw [xm] at this; exact this) (fun w => by have := reg_n a w; rw [xa] at this; exact this) (fun w => by have := rimm_11 d n m a c i w; rw [xi] at this; exact this)
          · skip
            have Hxd := Lib.hid (fun w => (by have := reg_y d w; rw [xd] at this; exact this) : ∀ w, Calls Try.prog 168 #[.bool true, .int .i64 d] w fun e w' => e = .returned (.bool true) ∧ w' = w)
            have Hxn := Lib.hid (fun w => (by have := reg_y n w; rw [xn] at this; exact this) : ∀ w, Calls Try.prog 168 #[.bool true, .int .i64 n] w fun e w' => e = .returned (.bool true) ∧ w' = w)
            have Hxm := Lib.hid (fun w => (by have := reg_y m w; rw [xm] at this; exact this) : ∀ w, Calls Try.prog 168 #[.bool true, .int .i64 m] w fun e w' => e = .returned (.bool true) ∧ w' = w)
            have Hxa := Lib.hid (fun w => (by have := reg_n a w; rw [xa] at this; exact this) : ∀ w, Calls Try.prog 168 #[.bool false, .int .i64 a] w fun e w' => e = .returned (.bool true) ∧ w' = w)
            have Hxi := Lib.hid (fun w => (by have := rimm_11 d n m a c i w; rw [xi] at this; exact this) : ∀ w, Calls Try.prog 169 #[.agg #[.int .i64 11, .int .i64 d, .int .i64 n, .int .i64 m, .int .i64 a, .int .i64 c, .int .i64 i]] w fun e w' => e = .returned (.bool true) ∧ Below w.heap.size w w')
            have hk : ok_11 d n m a c i = (c == 0) := by simp [ok_11, xd, xn, xm, xa, xi]
            have HK := Lib.hid hk
            clear hk xd xn xm xa xi
            go_enter Try.func83, Try.ntmps83
            go_wp2_with (first | (go_at_call 167; refine (rfields_11 _).mono ?_; rintro e w' ⟨rfl, rfl⟩) | (go_at_call 168; (with_reducible refine (Hxd.out _).mono ?_); rintro e w' ⟨rfl, rfl⟩) | (go_at_call 168; (with_reducible refine (Hxn.out _).mono ?_); rintro e w' ⟨rfl, rfl⟩) | (go_at_call 168; (with_reducible refine (Hxm.out _).mono ?_); rintro e w' ⟨rfl, rfl⟩) | (go_at_call 168; (with_reducible refine (Hxa.out _).mono ?_); rintro e w' ⟨rfl, rfl⟩) | (go_at_call 169; refine (Hxi.out _).mono ?_; rintro e w2 ⟨rfl, hb2⟩; have HB2 := Lib.hid (((Below.refl _ _).alloc (Nat.le_refl _) _).trans (hb2.mono (by simp)) : Below w.heap.size w w2); have HI2 := Lib.hid ((InsC.new w (.int .i64 11) (.int .i64 d) (.int .i64 n) (.int .i64 m) (.int .i64 a) (.int .i64 c) (.int .i64 i)).below' hb2 rfl); obtain ⟨hl, i0, i1, i2, i3, i4, i5, i6⟩ := HI2.out; clear hb2))
            all_goals
              go_ret
              exact ⟨ret_er (by rw [HK.out]; first | rfl | (simp [er]; omega) | (simp [er, *]; done) | (simp_all [er]; omega)), HB2.out⟩
set_option maxRecDepth 100000 in
set_option maxHeartbeats 2000000 in
theorem rcheck_15 (d n m a c i : Int) (w : World) : Calls Try.prog 83 #[.agg #[.int .i64 15, .int .i64 d, .int .i64 n, .int .i64 m, .int .i64 a, .int .i64 c, .int .i64 i]] w fun e w' => e = .returned (.int .i64 (er (ok_15 d n m a c i))) ∧ Below w.heap.size w w' := by
  rcases xd : (wi d 0 31)
  · have hk : ok_15 d n m a c i = false := by
      simp [ok_15, xd]
    rw [hk]
    exact rck_d 15 d n m a c i true true true false false false w (by decide) (by decide) rfields_15 (fun w => by have := reg_y d w; rw [xd] at this; exact this)
  · skip
    rcases xn : (wi n 0 31)
    · have hk : ok_15 d n m a c i = false := by
        simp [ok_15, xn]
      rw [hk]
      exact rck_n 15 d n m a c i true true true false false false w (by decide) (by decide) rfields_15 (fun w => by have := reg_y d w; rw [xd] at this; exact this) (fun w => by have := reg_y n w; rw [xn] at this; exact this)
    · skip
      rcases xm : (wi m 0 31)
      · have hk : ok_15 d n m a c i = false := by
          simp [ok_15, xm]
        rw [hk]
        exact rck_m 15 d n m a c i true true true false false false w (by decide) (by decide) rfields_15 (fun w => by have := reg_y d w; rw [xd] at this; exact this) (fun w => by have := reg_y n w; rw [xn] at this; exact this) (fun w => by have := reg_y m w; rw [xm] at this; exact this)
      · skip
        rcases xa : (a == 0)
        · have hk : ok_15 d n m a c i = false := by
            simp [ok_15, xa]
          rw [hk]
          exact rck_a 15 d n m a c i true true true false false false w (by decide) (by decide) rfields_15 (fun w => by have := reg_y d w; rw [xd] at this; exact this) (fun w => by have := reg_y n w; rw [xn] at this; exact this) (fun w => by have := reg_y m w; rw [xm] at this; exact this) (fun w => by have := reg_n a w; rw [xa] at this; exact this)
        · skip
          rcases xi : ((i == 0))
          · have hk : ok_15 d n m a c i = false := by
              simp [ok_15, xi]
            rw [hk]
            exact rck_i 15 d n m a c i true true true false false false w (by decide) (by decide) rfields_15 (fun w => by have := reg_y d w; rw [xd] at this; exact this) (fun w => by have := reg_y n w; rw [xn] at this; exact this) (fun w => by have := reg_y m w; rw [xm] at this; exact this) (fun w => by have := reg_n a w; rw [xa] at this; exact this) (fun w => by have := rimm_15 d n m a c i w; rw [xi] at this; exact this)
          · skip
            have Hxd := Lib.hid (fun w => (by have := reg_y d w; rw [xd] at this; exact this) : ∀ w, Calls Try.prog 168 #[.bool true, .int .i64 d] w fun e w' => e = .returned (.bool true) ∧ w' = w)
            have Hxn := Lib.hid (fun w => (by have := reg_y n w; rw [xn] at this; exact this) : ∀ w, Calls Try.prog 168 #[.bool true, .int .i64 n] w fun e w' => e = .returned (.bool true) ∧ w' = w)
            have Hxm := Lib.hid (fun w => (by have := reg_y m w; rw [xm] at this; exact this) : ∀ w, Calls Try.prog 168 #[.bool true, .int .i64 m] w fun e w' => e = .returned (.bool true) ∧ w' = w)
            have Hxa := Lib.hid (fun w => (by have := reg_n a w; rw [xa] at this; exact this) : ∀ w, Calls Try.prog 168 #[.bool false, .int .i64 a] w fun e w' => e = .returned (.bool true) ∧ w' = w)
            have Hxi := Lib.hid (fun w => (by have := rimm_15 d n m a c i w; rw [xi] at this; exact this) : ∀ w, Calls Try.prog 169 #[.agg #[.int .i64 15, .int .i64 d, .int .i64 n, .int .i64 m, .int .i64 a, .int .i64 c, .int .i64 i]] w fun e w' => e = .returned (.bool true) ∧ Below w.heap.size w w')
            have hk : ok_15 d n m a c i = (c == 0) := by simp [ok_15, xd, xn, xm, xa, xi]
            have HK := Lib.hid hk
            clear hk xd xn xm xa xi
            go_enter Try.func83, Try.ntmps83
            go_wp2_with (first | (go_at_call 167; refine (rfields_15 _).mono ?_; rintro e w' ⟨rfl, rfl⟩) | (go_at_call 168; (with_reducible refine (Hxd.out _).mono ?_); rintro e w' ⟨rfl, rfl⟩) | (go_at_call 168; (with_reducible refine (Hxn.out _).mono ?_); rintro e w' ⟨rfl, rfl⟩) | (go_at_call 168; (with_reducible refine (Hxm.out _).mono ?_); rintro e w' ⟨rfl, rfl⟩) | (go_at_call 168; (with_reducible refine (Hxa.out _).mono ?_); rintro e w' ⟨rfl, rfl⟩) | (go_at_call 169; refine (Hxi.out _).mono ?_; rintro e w2 ⟨rfl, hb2⟩; have HB2 := Lib.hid (((Below.refl _ _).alloc (Nat.le_refl _) _).trans (hb2.mono (by simp)) : Below w.heap.size w w2); have HI2 := Lib.hid ((InsC.new w (.int .i64 15) (.int .i64 d) (.int .i64 n) (.int .i64 m) (.int .i64 a) (.int .i64 c) (.int .i64 i)).below' hb2 rfl); obtain ⟨hl, i0, i1, i2, i3, i4, i5, i6⟩ := HI2.out; clear hb2))
            all_goals
              go_ret
              exact ⟨ret_er (by rw [HK.out]; first | rfl | (simp [er]; omega) | (simp [er, *]; done) | (simp_all [er]; omega)), HB2.out⟩
set_option maxRecDepth 100000 in
set_option maxHeartbeats 2000000 in
theorem rcheck_19 (d n m a c i : Int) (w : World) : Calls Try.prog 83 #[.agg #[.int .i64 19, .int .i64 d, .int .i64 n, .int .i64 m, .int .i64 a, .int .i64 c, .int .i64 i]] w fun e w' => e = .returned (.int .i64 (er (ok_19 d n m a c i))) ∧ Below w.heap.size w w' := by
  rcases xd : (wi d 0 31)
  · have hk : ok_19 d n m a c i = false := by
      simp [ok_19, xd]
    rw [hk]
    exact rck_d 19 d n m a c i true true true false true false w (by decide) (by decide) rfields_19 (fun w => by have := reg_y d w; rw [xd] at this; exact this)
  · skip
    rcases xn : (wi n 0 31)
    · have hk : ok_19 d n m a c i = false := by
        simp [ok_19, xn]
      rw [hk]
      exact rck_n 19 d n m a c i true true true false true false w (by decide) (by decide) rfields_19 (fun w => by have := reg_y d w; rw [xd] at this; exact this) (fun w => by have := reg_y n w; rw [xn] at this; exact this)
    · skip
      rcases xm : (wi m 0 31)
      · have hk : ok_19 d n m a c i = false := by
          simp [ok_19, xm]
        rw [hk]
        exact rck_m 19 d n m a c i true true true false true false w (by decide) (by decide) rfields_19 (fun w => by have := reg_y d w; rw [xd] at this; exact this) (fun w => by have := reg_y n w; rw [xn] at this; exact this) (fun w => by have := reg_y m w; rw [xm] at this; exact this)
      · skip
        rcases xa : (a == 0)
        · have hk : ok_19 d n m a c i = false := by
            simp [ok_19, xa]
          rw [hk]
          exact rck_a 19 d n m a c i true true true false true false w (by decide) (by decide) rfields_19 (fun w => by have := reg_y d w; rw [xd] at this; exact this) (fun w => by have := reg_y n w; rw [xn] at this; exact this) (fun w => by have := reg_y m w; rw [xm] at this; exact this) (fun w => by have := reg_n a w; rw [xa] at this; exact this)
        · skip
          rcases xi : ((i == 0))
          · have hk : ok_19 d n m a c i = false := by
              simp [ok_19, xi]
            rw [hk]
            exact rck_i 19 d n m a c i true true true false true false w (by decide) (by decide) rfields_19 (fun w => by have := reg_y d w; rw [xd] at this; exact this) (fun w => by have := reg_y n w; rw [xn] at this; exact this) (fun w => by have := reg_y m w; rw [xm] at this; exact this) (fun w => by have := reg_n a w; rw [xa] at this; exact this) (fun w => by have := rimm_19 d n m a c i w; rw [xi] at this; exact this)
          · skip
            have Hxd := Lib.hid (fun w => (by have := reg_y d w; rw [xd] at this; exact this) : ∀ w, Calls Try.prog 168 #[.bool true, .int .i64 d] w fun e w' => e = .returned (.bool true) ∧ w' = w)
            have Hxn := Lib.hid (fun w => (by have := reg_y n w; rw [xn] at this; exact this) : ∀ w, Calls Try.prog 168 #[.bool true, .int .i64 n] w fun e w' => e = .returned (.bool true) ∧ w' = w)
            have Hxm := Lib.hid (fun w => (by have := reg_y m w; rw [xm] at this; exact this) : ∀ w, Calls Try.prog 168 #[.bool true, .int .i64 m] w fun e w' => e = .returned (.bool true) ∧ w' = w)
            have Hxa := Lib.hid (fun w => (by have := reg_n a w; rw [xa] at this; exact this) : ∀ w, Calls Try.prog 168 #[.bool false, .int .i64 a] w fun e w' => e = .returned (.bool true) ∧ w' = w)
            have Hxi := Lib.hid (fun w => (by have := rimm_19 d n m a c i w; rw [xi] at this; exact this) : ∀ w, Calls Try.prog 169 #[.agg #[.int .i64 19, .int .i64 d, .int .i64 n, .int .i64 m, .int .i64 a, .int .i64 c, .int .i64 i]] w fun e w' => e = .returned (.bool true) ∧ Below w.heap.size w w')
            have hk : ok_19 d n m a c i = wi c 0 15 := by simp [ok_19, xd, xn, xm, xa, xi]
            have HK := Lib.hid hk
            clear hk xd xn xm xa xi
            go_enter Try.func83, Try.ntmps83
            go_wp2_with (first | (go_at_call 167; refine (rfields_19 _).mono ?_; rintro e w' ⟨rfl, rfl⟩) | (go_at_call 168; (with_reducible refine (Hxd.out _).mono ?_); rintro e w' ⟨rfl, rfl⟩) | (go_at_call 168; (with_reducible refine (Hxn.out _).mono ?_); rintro e w' ⟨rfl, rfl⟩) | (go_at_call 168; (with_reducible refine (Hxm.out _).mono ?_); rintro e w' ⟨rfl, rfl⟩) | (go_at_call 168; (with_reducible refine (Hxa.out _).mono ?_); rintro e w' ⟨rfl, rfl⟩) | (go_at_call 169; refine (Hxi.out _).mono ?_; rintro e w2 ⟨rfl, hb2⟩; have HB2 := Lib.hid (((Below.refl _ _).alloc (Nat.le_refl _) _).trans (hb2.mono (by simp)) : Below w.heap.size w w2); have HI2 := Lib.hid ((InsC.new w (.int .i64 19) (.int .i64 d) (.int .i64 n) (.int .i64 m) (.int .i64 a) (.int .i64 c) (.int .i64 i)).below' hb2 rfl); obtain ⟨hl, i0, i1, i2, i3, i4, i5, i6⟩ := HI2.out; clear hb2))
            all_goals
              go_ret
              exact ⟨ret_er (by rw [HK.out]; first | rfl | (simp [er, wi]; omega) | (simp [er, wi, *]; done) | (simp_all [er, wi]; omega)), HB2.out⟩
set_option maxRecDepth 100000 in
set_option maxHeartbeats 2000000 in
theorem rcheck_23 (d n m a c i : Int) (w : World) : Calls Try.prog 83 #[.agg #[.int .i64 23, .int .i64 d, .int .i64 n, .int .i64 m, .int .i64 a, .int .i64 c, .int .i64 i]] w fun e w' => e = .returned (.int .i64 (er (ok_23 d n m a c i))) ∧ Below w.heap.size w w' := by
  rcases xd : (wi d 0 31)
  · have hk : ok_23 d n m a c i = false := by
      simp [ok_23, xd]
    rw [hk]
    exact rck_d 23 d n m a c i true false false false false true w (by decide) (by decide) rfields_23 (fun w => by have := reg_y d w; rw [xd] at this; exact this)
  · skip
    rcases xn : (n == 0)
    · have hk : ok_23 d n m a c i = false := by
        simp [ok_23, xn]
      rw [hk]
      exact rck_n 23 d n m a c i true false false false false true w (by decide) (by decide) rfields_23 (fun w => by have := reg_y d w; rw [xd] at this; exact this) (fun w => by have := reg_n n w; rw [xn] at this; exact this)
    · skip
      rcases xm : (m == 0)
      · have hk : ok_23 d n m a c i = false := by
          simp [ok_23, xm]
        rw [hk]
        exact rck_m 23 d n m a c i true false false false false true w (by decide) (by decide) rfields_23 (fun w => by have := reg_y d w; rw [xd] at this; exact this) (fun w => by have := reg_n n w; rw [xn] at this; exact this) (fun w => by have := reg_n m w; rw [xm] at this; exact this)
      · skip
        rcases xa : (a == 0)
        · have hk : ok_23 d n m a c i = false := by
            simp [ok_23, xa]
          rw [hk]
          exact rck_a 23 d n m a c i true false false false false true w (by decide) (by decide) rfields_23 (fun w => by have := reg_y d w; rw [xd] at this; exact this) (fun w => by have := reg_n n w; rw [xn] at this; exact this) (fun w => by have := reg_n m w; rw [xm] at this; exact this) (fun w => by have := reg_n a w; rw [xa] at this; exact this)
        · skip
          rcases xi : ((wm i (-1048576) 1048572 4))
          · have hk : ok_23 d n m a c i = false := by
              simp [ok_23, xi]
            rw [hk]
            exact rck_i 23 d n m a c i true false false false false true w (by decide) (by decide) rfields_23 (fun w => by have := reg_y d w; rw [xd] at this; exact this) (fun w => by have := reg_n n w; rw [xn] at this; exact this) (fun w => by have := reg_n m w; rw [xm] at this; exact this) (fun w => by have := reg_n a w; rw [xa] at this; exact this) (fun w => by have := rimm_23 d n m a c i w; rw [xi] at this; exact this)
          · skip
            have Hxd := Lib.hid (fun w => (by have := reg_y d w; rw [xd] at this; exact this) : ∀ w, Calls Try.prog 168 #[.bool true, .int .i64 d] w fun e w' => e = .returned (.bool true) ∧ w' = w)
            have Hxn := Lib.hid (fun w => (by have := reg_n n w; rw [xn] at this; exact this) : ∀ w, Calls Try.prog 168 #[.bool false, .int .i64 n] w fun e w' => e = .returned (.bool true) ∧ w' = w)
            have Hxm := Lib.hid (fun w => (by have := reg_n m w; rw [xm] at this; exact this) : ∀ w, Calls Try.prog 168 #[.bool false, .int .i64 m] w fun e w' => e = .returned (.bool true) ∧ w' = w)
            have Hxa := Lib.hid (fun w => (by have := reg_n a w; rw [xa] at this; exact this) : ∀ w, Calls Try.prog 168 #[.bool false, .int .i64 a] w fun e w' => e = .returned (.bool true) ∧ w' = w)
            have Hxi := Lib.hid (fun w => (by have := rimm_23 d n m a c i w; rw [xi] at this; exact this) : ∀ w, Calls Try.prog 169 #[.agg #[.int .i64 23, .int .i64 d, .int .i64 n, .int .i64 m, .int .i64 a, .int .i64 c, .int .i64 i]] w fun e w' => e = .returned (.bool true) ∧ Below w.heap.size w w')
            have hk : ok_23 d n m a c i = (c == 0) := by simp [ok_23, xd, xn, xm, xa, xi]
            have HK := Lib.hid hk
            clear hk xd xn xm xa xi
            go_enter Try.func83, Try.ntmps83
            go_wp2_with (first | (go_at_call 167; refine (rfields_23 _).mono ?_; rintro e w' ⟨rfl, rfl⟩) | (go_at_call 168; (with_reducible refine (Hxd.out _).mono ?_); rintro e w' ⟨rfl, rfl⟩) | (go_at_call 168; (with_reducible refine (Hxn.out _).mono ?_); rintro e w' ⟨rfl, rfl⟩) | (go_at_call 168; (with_reducible refine (Hxm.out _).mono ?_); rintro e w' ⟨rfl, rfl⟩) | (go_at_call 168; (with_reducible refine (Hxa.out _).mono ?_); rintro e w' ⟨rfl, rfl⟩) | (go_at_call 169; refine (Hxi.out _).mono ?_; rintro e w2 ⟨rfl, hb2⟩; have HB2 := Lib.hid (((Below.refl _ _).alloc (Nat.le_refl _) _).trans (hb2.mono (by simp)) : Below w.heap.size w w2); have HI2 := Lib.hid ((InsC.new w (.int .i64 23) (.int .i64 d) (.int .i64 n) (.int .i64 m) (.int .i64 a) (.int .i64 c) (.int .i64 i)).below' hb2 rfl); obtain ⟨hl, i0, i1, i2, i3, i4, i5, i6⟩ := HI2.out; clear hb2))
            all_goals
              go_ret
              exact ⟨ret_er (by rw [HK.out]; first | rfl | (simp [er]; omega) | (simp [er, *]; done) | (simp_all [er]; omega)), HB2.out⟩
set_option maxRecDepth 100000 in
set_option maxHeartbeats 2000000 in
theorem rcheck_27 (d n m a c i : Int) (w : World) : Calls Try.prog 83 #[.agg #[.int .i64 27, .int .i64 d, .int .i64 n, .int .i64 m, .int .i64 a, .int .i64 c, .int .i64 i]] w fun e w' => e = .returned (.int .i64 (er (ok_27 d n m a c i))) ∧ Below w.heap.size w w' := by
  rcases xd : (d == 0)
  · have hk : ok_27 d n m a c i = false := by
      simp [ok_27, xd]
    rw [hk]
    exact rck_d 27 d n m a c i false true false false false false w (by decide) (by decide) rfields_27 (fun w => by have := reg_n d w; rw [xd] at this; exact this)
  · skip
    rcases xn : (wi n 0 31)
    · have hk : ok_27 d n m a c i = false := by
        simp [ok_27, xn]
      rw [hk]
      exact rck_n 27 d n m a c i false true false false false false w (by decide) (by decide) rfields_27 (fun w => by have := reg_n d w; rw [xd] at this; exact this) (fun w => by have := reg_y n w; rw [xn] at this; exact this)
    · skip
      rcases xm : (m == 0)
      · have hk : ok_27 d n m a c i = false := by
          simp [ok_27, xm]
        rw [hk]
        exact rck_m 27 d n m a c i false true false false false false w (by decide) (by decide) rfields_27 (fun w => by have := reg_n d w; rw [xd] at this; exact this) (fun w => by have := reg_y n w; rw [xn] at this; exact this) (fun w => by have := reg_n m w; rw [xm] at this; exact this)
      · skip
        rcases xa : (a == 0)
        · have hk : ok_27 d n m a c i = false := by
            simp [ok_27, xa]
          rw [hk]
          exact rck_a 27 d n m a c i false true false false false false w (by decide) (by decide) rfields_27 (fun w => by have := reg_n d w; rw [xd] at this; exact this) (fun w => by have := reg_y n w; rw [xn] at this; exact this) (fun w => by have := reg_n m w; rw [xm] at this; exact this) (fun w => by have := reg_n a w; rw [xa] at this; exact this)
        · skip
          rcases xi : ((i == 0))
          · have hk : ok_27 d n m a c i = false := by
              simp [ok_27, xi]
            rw [hk]
            exact rck_i 27 d n m a c i false true false false false false w (by decide) (by decide) rfields_27 (fun w => by have := reg_n d w; rw [xd] at this; exact this) (fun w => by have := reg_y n w; rw [xn] at this; exact this) (fun w => by have := reg_n m w; rw [xm] at this; exact this) (fun w => by have := reg_n a w; rw [xa] at this; exact this) (fun w => by have := rimm_27 d n m a c i w; rw [xi] at this; exact this)
          · skip
            have Hxd := Lib.hid (fun w => (by have := reg_n d w; rw [xd] at this; exact this) : ∀ w, Calls Try.prog 168 #[.bool false, .int .i64 d] w fun e w' => e = .returned (.bool true) ∧ w' = w)
            have Hxn := Lib.hid (fun w => (by have := reg_y n w; rw [xn] at this; exact this) : ∀ w, Calls Try.prog 168 #[.bool true, .int .i64 n] w fun e w' => e = .returned (.bool true) ∧ w' = w)
            have Hxm := Lib.hid (fun w => (by have := reg_n m w; rw [xm] at this; exact this) : ∀ w, Calls Try.prog 168 #[.bool false, .int .i64 m] w fun e w' => e = .returned (.bool true) ∧ w' = w)
            have Hxa := Lib.hid (fun w => (by have := reg_n a w; rw [xa] at this; exact this) : ∀ w, Calls Try.prog 168 #[.bool false, .int .i64 a] w fun e w' => e = .returned (.bool true) ∧ w' = w)
            have Hxi := Lib.hid (fun w => (by have := rimm_27 d n m a c i w; rw [xi] at this; exact this) : ∀ w, Calls Try.prog 169 #[.agg #[.int .i64 27, .int .i64 d, .int .i64 n, .int .i64 m, .int .i64 a, .int .i64 c, .int .i64 i]] w fun e w' => e = .returned (.bool true) ∧ Below w.heap.size w w')
            have hk : ok_27 d n m a c i = (c == 0) := by simp [ok_27, xd, xn, xm, xa, xi]
            have HK := Lib.hid hk
            clear hk xd xn xm xa xi
            go_enter Try.func83, Try.ntmps83
            go_wp2_with (first | (go_at_call 167; refine (rfields_27 _).mono ?_; rintro e w' ⟨rfl, rfl⟩) | (go_at_call 168; (with_reducible refine (Hxd.out _).mono ?_); rintro e w' ⟨rfl, rfl⟩) | (go_at_call 168; (with_reducible refine (Hxn.out _).mono ?_); rintro e w' ⟨rfl, rfl⟩) | (go_at_call 168; (with_reducible refine (Hxm.out _).mono ?_); rintro e w' ⟨rfl, rfl⟩) | (go_at_call 168; (with_reducible refine (Hxa.out _).mono ?_); rintro e w' ⟨rfl, rfl⟩) | (go_at_call 169; refine (Hxi.out _).mono ?_; rintro e w2 ⟨rfl, hb2⟩; have HB2 := Lib.hid (((Below.refl _ _).alloc (Nat.le_refl _) _).trans (hb2.mono (by simp)) : Below w.heap.size w w2); have HI2 := Lib.hid ((InsC.new w (.int .i64 27) (.int .i64 d) (.int .i64 n) (.int .i64 m) (.int .i64 a) (.int .i64 c) (.int .i64 i)).below' hb2 rfl); obtain ⟨hl, i0, i1, i2, i3, i4, i5, i6⟩ := HI2.out; clear hb2))
            all_goals
              go_ret
              exact ⟨ret_er (by rw [HK.out]; first | rfl | (simp [er]; omega) | (simp [er, *]; done) | (simp_all [er]; omega)), HB2.out⟩
set_option maxRecDepth 100000 in
set_option maxHeartbeats 2000000 in
theorem rcheck_31 (d n m a c i : Int) (w : World) : Calls Try.prog 83 #[.agg #[.int .i64 31, .int .i64 d, .int .i64 n, .int .i64 m, .int .i64 a, .int .i64 c, .int .i64 i]] w fun e w' => e = .returned (.int .i64 (er (ok_31 d n m a c i))) ∧ Below w.heap.size w w' := by
  rcases xd : (wi d 0 31)
  · have hk : ok_31 d n m a c i = false := by
      simp [ok_31, xd]
    rw [hk]
    exact rck_d 31 d n m a c i true true true false false false w (by decide) (by decide) rfields_31 (fun w => by have := reg_y d w; rw [xd] at this; exact this)
  · skip
    rcases xn : (wi n 0 31)
    · have hk : ok_31 d n m a c i = false := by
        simp [ok_31, xn]
      rw [hk]
      exact rck_n 31 d n m a c i true true true false false false w (by decide) (by decide) rfields_31 (fun w => by have := reg_y d w; rw [xd] at this; exact this) (fun w => by have := reg_y n w; rw [xn] at this; exact this)
    · skip
      rcases xm : (wi m 0 31)
      · have hk : ok_31 d n m a c i = false := by
          simp [ok_31, xm]
        rw [hk]
        exact rck_m 31 d n m a c i true true true false false false w (by decide) (by decide) rfields_31 (fun w => by have := reg_y d w; rw [xd] at this; exact this) (fun w => by have := reg_y n w; rw [xn] at this; exact this) (fun w => by have := reg_y m w; rw [xm] at this; exact this)
      · skip
        rcases xa : (a == 0)
        · have hk : ok_31 d n m a c i = false := by
            simp [ok_31, xa]
          rw [hk]
          exact rck_a 31 d n m a c i true true true false false false w (by decide) (by decide) rfields_31 (fun w => by have := reg_y d w; rw [xd] at this; exact this) (fun w => by have := reg_y n w; rw [xn] at this; exact this) (fun w => by have := reg_y m w; rw [xm] at this; exact this) (fun w => by have := reg_n a w; rw [xa] at this; exact this)
        · skip
          rcases xi : ((i == 0))
          · have hk : ok_31 d n m a c i = false := by
              simp [ok_31, xi]
            rw [hk]
            exact rck_i 31 d n m a c i true true true false false false w (by decide) (by decide) rfields_31 (fun w => by have := reg_y d w; rw [xd] at this; exact this) (fun w => by have := reg_y n w; rw [xn] at this; exact this) (fun w => by have := reg_y m w; rw [xm] at this; exact this) (fun w => by have := reg_n a w; rw [xa] at this; exact this) (fun w => by have := rimm_31 d n m a c i w; rw [xi] at this; exact this)
          · skip
            have Hxd := Lib.hid (fun w => (by have := reg_y d w; rw [xd] at this; exact this) : ∀ w, Calls Try.prog 168 #[.bool true, .int .i64 d] w fun e w' => e = .returned (.bool true) ∧ w' = w)
            have Hxn := Lib.hid (fun w => (by have := reg_y n w; rw [xn] at this; exact this) : ∀ w, Calls Try.prog 168 #[.bool true, .int .i64 n] w fun e w' => e = .returned (.bool true) ∧ w' = w)
            have Hxm := Lib.hid (fun w => (by have := reg_y m w; rw [xm] at this; exact this) : ∀ w, Calls Try.prog 168 #[.bool true, .int .i64 m] w fun e w' => e = .returned (.bool true) ∧ w' = w)
            have Hxa := Lib.hid (fun w => (by have := reg_n a w; rw [xa] at this; exact this) : ∀ w, Calls Try.prog 168 #[.bool false, .int .i64 a] w fun e w' => e = .returned (.bool true) ∧ w' = w)
            have Hxi := Lib.hid (fun w => (by have := rimm_31 d n m a c i w; rw [xi] at this; exact this) : ∀ w, Calls Try.prog 169 #[.agg #[.int .i64 31, .int .i64 d, .int .i64 n, .int .i64 m, .int .i64 a, .int .i64 c, .int .i64 i]] w fun e w' => e = .returned (.bool true) ∧ Below w.heap.size w w')
            have hk : ok_31 d n m a c i = (c == 0) := by simp [ok_31, xd, xn, xm, xa, xi]
            have HK := Lib.hid hk
            clear hk xd xn xm xa xi
            go_enter Try.func83, Try.ntmps83
            go_wp2_with (first | (go_at_call 167; refine (rfields_31 _).mono ?_; rintro e w' ⟨rfl, rfl⟩) | (go_at_call 168; (with_reducible refine (Hxd.out _).mono ?_); rintro e w' ⟨rfl, rfl⟩) | (go_at_call 168; (with_reducible refine (Hxn.out _).mono ?_); rintro e w' ⟨rfl, rfl⟩) | (go_at_call 168; (with_reducible refine (Hxm.out _).mono ?_); rintro e w' ⟨rfl, rfl⟩) | (go_at_call 168; (with_reducible refine (Hxa.out _).mono ?_); rintro e w' ⟨rfl, rfl⟩) | (go_at_call 169; refine (Hxi.out _).mono ?_; rintro e w2 ⟨rfl, hb2⟩; have HB2 := Lib.hid (((Below.refl _ _).alloc (Nat.le_refl _) _).trans (hb2.mono (by simp)) : Below w.heap.size w w2); have HI2 := Lib.hid ((InsC.new w (.int .i64 31) (.int .i64 d) (.int .i64 n) (.int .i64 m) (.int .i64 a) (.int .i64 c) (.int .i64 i)).below' hb2 rfl); obtain ⟨hl, i0, i1, i2, i3, i4, i5, i6⟩ := HI2.out; clear hb2))
            all_goals
              go_ret
              exact ⟨ret_er (by rw [HK.out]; first | rfl | (simp [er]; omega) | (simp [er, *]; done) | (simp_all [er]; omega)), HB2.out⟩
set_option maxRecDepth 100000 in
set_option maxHeartbeats 2000000 in
theorem rcheck_35 (d n m a c i : Int) (w : World) : Calls Try.prog 83 #[.agg #[.int .i64 35, .int .i64 d, .int .i64 n, .int .i64 m, .int .i64 a, .int .i64 c, .int .i64 i]] w fun e w' => e = .returned (.int .i64 (er (ok_35 d n m a c i))) ∧ Below w.heap.size w w' := by
  rcases xd : (wi d 0 31)
  · have hk : ok_35 d n m a c i = false := by
      simp [ok_35, xd]
    rw [hk]
    exact rck_d 35 d n m a c i true true false false false false w (by decide) (by decide) rfields_35 (fun w => by have := reg_y d w; rw [xd] at this; exact this)
  · skip
    rcases xn : (wi n 0 31)
    · have hk : ok_35 d n m a c i = false := by
        simp [ok_35, xn]
      rw [hk]
      exact rck_n 35 d n m a c i true true false false false false w (by decide) (by decide) rfields_35 (fun w => by have := reg_y d w; rw [xd] at this; exact this) (fun w => by have := reg_y n w; rw [xn] at this; exact this)
    · skip
      rcases xm : (m == 0)
      · have hk : ok_35 d n m a c i = false := by
          simp [ok_35, xm]
        rw [hk]
        exact rck_m 35 d n m a c i true true false false false false w (by decide) (by decide) rfields_35 (fun w => by have := reg_y d w; rw [xd] at this; exact this) (fun w => by have := reg_y n w; rw [xn] at this; exact this) (fun w => by have := reg_n m w; rw [xm] at this; exact this)
      · skip
        rcases xa : (a == 0)
        · have hk : ok_35 d n m a c i = false := by
            simp [ok_35, xa]
          rw [hk]
          exact rck_a 35 d n m a c i true true false false false false w (by decide) (by decide) rfields_35 (fun w => by have := reg_y d w; rw [xd] at this; exact this) (fun w => by have := reg_y n w; rw [xn] at this; exact this) (fun w => by have := reg_n m w; rw [xm] at this; exact this) (fun w => by have := reg_n a w; rw [xa] at this; exact this)
        · skip
          rcases xi : ((i == 0))
          · have hk : ok_35 d n m a c i = false := by
              simp [ok_35, xi]
            rw [hk]
            exact rck_i 35 d n m a c i true true false false false false w (by decide) (by decide) rfields_35 (fun w => by have := reg_y d w; rw [xd] at this; exact this) (fun w => by have := reg_y n w; rw [xn] at this; exact this) (fun w => by have := reg_n m w; rw [xm] at this; exact this) (fun w => by have := reg_n a w; rw [xa] at this; exact this) (fun w => by have := rimm_35 d n m a c i w; rw [xi] at this; exact this)
          · skip
            have Hxd := Lib.hid (fun w => (by have := reg_y d w; rw [xd] at this; exact this) : ∀ w, Calls Try.prog 168 #[.bool true, .int .i64 d] w fun e w' => e = .returned (.bool true) ∧ w' = w)
            have Hxn := Lib.hid (fun w => (by have := reg_y n w; rw [xn] at this; exact this) : ∀ w, Calls Try.prog 168 #[.bool true, .int .i64 n] w fun e w' => e = .returned (.bool true) ∧ w' = w)
            have Hxm := Lib.hid (fun w => (by have := reg_n m w; rw [xm] at this; exact this) : ∀ w, Calls Try.prog 168 #[.bool false, .int .i64 m] w fun e w' => e = .returned (.bool true) ∧ w' = w)
            have Hxa := Lib.hid (fun w => (by have := reg_n a w; rw [xa] at this; exact this) : ∀ w, Calls Try.prog 168 #[.bool false, .int .i64 a] w fun e w' => e = .returned (.bool true) ∧ w' = w)
            have Hxi := Lib.hid (fun w => (by have := rimm_35 d n m a c i w; rw [xi] at this; exact this) : ∀ w, Calls Try.prog 169 #[.agg #[.int .i64 35, .int .i64 d, .int .i64 n, .int .i64 m, .int .i64 a, .int .i64 c, .int .i64 i]] w fun e w' => e = .returned (.bool true) ∧ Below w.heap.size w w')
            have hk : ok_35 d n m a c i = (c == 0) := by simp [ok_35, xd, xn, xm, xa, xi]
            have HK := Lib.hid hk
            clear hk xd xn xm xa xi
            go_enter Try.func83, Try.ntmps83
            go_wp2_with (first | (go_at_call 167; refine (rfields_35 _).mono ?_; rintro e w' ⟨rfl, rfl⟩) | (go_at_call 168; (with_reducible refine (Hxd.out _).mono ?_); rintro e w' ⟨rfl, rfl⟩) | (go_at_call 168; (with_reducible refine (Hxn.out _).mono ?_); rintro e w' ⟨rfl, rfl⟩) | (go_at_call 168; (with_reducible refine (Hxm.out _).mono ?_); rintro e w' ⟨rfl, rfl⟩) | (go_at_call 168; (with_reducible refine (Hxa.out _).mono ?_); rintro e w' ⟨rfl, rfl⟩) | (go_at_call 169; refine (Hxi.out _).mono ?_; rintro e w2 ⟨rfl, hb2⟩; have HB2 := Lib.hid (((Below.refl _ _).alloc (Nat.le_refl _) _).trans (hb2.mono (by simp)) : Below w.heap.size w w2); have HI2 := Lib.hid ((InsC.new w (.int .i64 35) (.int .i64 d) (.int .i64 n) (.int .i64 m) (.int .i64 a) (.int .i64 c) (.int .i64 i)).below' hb2 rfl); obtain ⟨hl, i0, i1, i2, i3, i4, i5, i6⟩ := HI2.out; clear hb2))
            all_goals
              go_ret
              exact ⟨ret_er (by rw [HK.out]; first | rfl | (simp [er]; omega) | (simp [er, *]; done) | (simp_all [er]; omega)), HB2.out⟩
set_option maxRecDepth 100000 in
set_option maxHeartbeats 2000000 in
theorem rcheck_39 (d n m a c i : Int) (w : World) : Calls Try.prog 83 #[.agg #[.int .i64 39, .int .i64 d, .int .i64 n, .int .i64 m, .int .i64 a, .int .i64 c, .int .i64 i]] w fun e w' => e = .returned (.int .i64 (er (ok_39 d n m a c i))) ∧ Below w.heap.size w w' := by
  rcases xd : (d == 0)
  · have hk : ok_39 d n m a c i = false := by
      simp [ok_39, xd]
    rw [hk]
    exact rck_d 39 d n m a c i false false false false false false w (by decide) (by decide) rfields_39 (fun w => by have := reg_n d w; rw [xd] at this; exact this)
  · skip
    rcases xn : (n == 0)
    · have hk : ok_39 d n m a c i = false := by
        simp [ok_39, xn]
      rw [hk]
      exact rck_n 39 d n m a c i false false false false false false w (by decide) (by decide) rfields_39 (fun w => by have := reg_n d w; rw [xd] at this; exact this) (fun w => by have := reg_n n w; rw [xn] at this; exact this)
    · skip
      rcases xm : (m == 0)
      · have hk : ok_39 d n m a c i = false := by
          simp [ok_39, xm]
        rw [hk]
        exact rck_m 39 d n m a c i false false false false false false w (by decide) (by decide) rfields_39 (fun w => by have := reg_n d w; rw [xd] at this; exact this) (fun w => by have := reg_n n w; rw [xn] at this; exact this) (fun w => by have := reg_n m w; rw [xm] at this; exact this)
      · skip
        rcases xa : (a == 0)
        · have hk : ok_39 d n m a c i = false := by
            simp [ok_39, xa]
          rw [hk]
          exact rck_a 39 d n m a c i false false false false false false w (by decide) (by decide) rfields_39 (fun w => by have := reg_n d w; rw [xd] at this; exact this) (fun w => by have := reg_n n w; rw [xn] at this; exact this) (fun w => by have := reg_n m w; rw [xm] at this; exact this) (fun w => by have := reg_n a w; rw [xa] at this; exact this)
        · skip
          rcases xi : ((i == 0))
          · have hk : ok_39 d n m a c i = false := by
              simp [ok_39, xi]
            rw [hk]
            exact rck_i 39 d n m a c i false false false false false false w (by decide) (by decide) rfields_39 (fun w => by have := reg_n d w; rw [xd] at this; exact this) (fun w => by have := reg_n n w; rw [xn] at this; exact this) (fun w => by have := reg_n m w; rw [xm] at this; exact this) (fun w => by have := reg_n a w; rw [xa] at this; exact this) (fun w => by have := rimm_39 d n m a c i w; rw [xi] at this; exact this)
          · skip
            have Hxd := Lib.hid (fun w => (by have := reg_n d w; rw [xd] at this; exact this) : ∀ w, Calls Try.prog 168 #[.bool false, .int .i64 d] w fun e w' => e = .returned (.bool true) ∧ w' = w)
            have Hxn := Lib.hid (fun w => (by have := reg_n n w; rw [xn] at this; exact this) : ∀ w, Calls Try.prog 168 #[.bool false, .int .i64 n] w fun e w' => e = .returned (.bool true) ∧ w' = w)
            have Hxm := Lib.hid (fun w => (by have := reg_n m w; rw [xm] at this; exact this) : ∀ w, Calls Try.prog 168 #[.bool false, .int .i64 m] w fun e w' => e = .returned (.bool true) ∧ w' = w)
            have Hxa := Lib.hid (fun w => (by have := reg_n a w; rw [xa] at this; exact this) : ∀ w, Calls Try.prog 168 #[.bool false, .int .i64 a] w fun e w' => e = .returned (.bool true) ∧ w' = w)
            have Hxi := Lib.hid (fun w => (by have := rimm_39 d n m a c i w; rw [xi] at this; exact this) : ∀ w, Calls Try.prog 169 #[.agg #[.int .i64 39, .int .i64 d, .int .i64 n, .int .i64 m, .int .i64 a, .int .i64 c, .int .i64 i]] w fun e w' => e = .returned (.bool true) ∧ Below w.heap.size w w')
            have hk : ok_39 d n m a c i = (c == 0) := by simp [ok_39, xd, xn, xm, xa, xi]
            have HK := Lib.hid hk
            clear hk xd xn xm xa xi
            go_enter Try.func83, Try.ntmps83
            go_wp2_with (first | (go_at_call 167; refine (rfields_39 _).mono ?_; rintro e w' ⟨rfl, rfl⟩) | (go_at_call 168; (with_reducible refine (Hxd.out _).mono ?_); rintro e w' ⟨rfl, rfl⟩) | (go_at_call 168; (with_reducible refine (Hxn.out _).mono ?_); rintro e w' ⟨rfl, rfl⟩) | (go_at_call 168; (with_reducible refine (Hxm.out _).mono ?_); rintro e w' ⟨rfl, rfl⟩) | (go_at_call 168; (with_reducible refine (Hxa.out _).mono ?_); rintro e w' ⟨rfl, rfl⟩) | (go_at_call 169; refine (Hxi.out _).mono ?_; rintro e w2 ⟨rfl, hb2⟩; have HB2 := Lib.hid (((Below.refl _ _).alloc (Nat.le_refl _) _).trans (hb2.mono (by simp)) : Below w.heap.size w w2); have HI2 := Lib.hid ((InsC.new w (.int .i64 39) (.int .i64 d) (.int .i64 n) (.int .i64 m) (.int .i64 a) (.int .i64 c) (.int .i64 i)).below' hb2 rfl); obtain ⟨hl, i0, i1, i2, i3, i4, i5, i6⟩ := HI2.out; clear hb2))
            all_goals
              go_ret
              exact ⟨ret_er (by rw [HK.out]; first | rfl | (simp [er]; omega) | (simp [er, *]; done) | (simp_all [er]; omega)), HB2.out⟩
end Go.Proofs.Ytnbpgoacooddjaa.En
