import Derived.Test.YtnbpgoacooddjaaRows
import Derived.WalkKit
import Derived.ProofKit
import Derived.OpenShut
import Derived.Outline
import Derived.WalkSmall
import Derived.WalkLawsBesides
import Derived.WalkSpells
import Derived.BigGuardPart
import Derived.RegionTactic
import Derived.Lib.Hide
import Derived.Below
import Derived.Deep.RegionWith
import Derived.Deep.RegionHeld3
import Derived.Test.YtnbpgoacooddjaaERfA
namespace Go.Proofs.Ytnbpgoacooddjaa.Fr
end Go.Proofs.Ytnbpgoacooddjaa.Fr
namespace Go.Proofs.Ytnbpgoacooddjaa.En
open Go.Proofs.Ytnbpgoacooddjaa.Fr
open Go.ChangeShapes Go.WideShapes Go.ChangeAt Go.RowKit
set_option linter.unusedVariables false
set_option maxRecDepth 100000 in
set_option maxHeartbeats 2000000 in
theorem rcheck_2 (d n m a c i : Int) (w : World) : Calls Try.prog 83 #[.agg #[.int .i64 2, .int .i64 d, .int .i64 n, .int .i64 m, .int .i64 a, .int .i64 c, .int .i64 i]] w fun e w' => e = .returned (.int .i64 (er (ok_2 d n m a c i))) ∧ Below w.heap.size w w' := by
  rcases xd : (wi d 0 31)
  · have hk : ok_2 d n m a c i = false := by
      simp [ok_2, xd]
    rw [hk]
    exact rck_d 2 d n m a c i true false true false false true w (by decide) (by decide) rfields_2 (fun w => by have := reg_y d w; rw [xd] at this; exact this)
  · skip
    rcases xn : (n == 0)
    · have hk : ok_2 d n m a c i = false := by
        simp [ok_2, xn]
      rw [hk]
      exact rck_n 2 d n m a c i true false true false false true w (by decide) (by decide) rfields_2 (fun w => by have := reg_y d w; rw [xd] at this; exact this) (fun w => by have := reg_n n w; rw [xn] at this; exact this)
    · skip
      rcases xm : (wi m 0 31)
      · have hk : ok_2 d n m a c i = false := by
          have h2 : wi m 0 3 = false := by simp [wi] at xm ⊢; omega
          simp [ok_2, h2]
        rw [hk]
        exact rck_m 2 d n m a c i true false true false false true w (by decide) (by decide) rfields_2 (fun w => by have := reg_y d w; rw [xd] at this; exact this) (fun w => by have := reg_n n w; rw [xn] at this; exact this) (fun w => by have := reg_y m w; rw [xm] at this; exact this)
      · skip
        rcases xa : (a == 0)
        · have hk : ok_2 d n m a c i = false := by
            simp [ok_2, xa]
          rw [hk]
          exact rck_a 2 d n m a c i true false true false false true w (by decide) (by decide) rfields_2 (fun w => by have := reg_y d w; rw [xd] at this; exact this) (fun w => by have := reg_n n w; rw [xn] at this; exact this) (fun w => by have := reg_y m w; rw [xm] at this; exact this) (fun w => by have := reg_n a w; rw [xa] at this; exact this)
        · skip
          rcases xi : ((wi i 0 65535))
          · have hk : ok_2 d n m a c i = false := by
              simp [ok_2, xi]
            rw [hk]
            exact rck_i 2 d n m a c i true false true false false true w (by decide) (by decide) rfields_2 (fun w => by have := reg_y d w; rw [xd] at this; exact this) (fun w => by have := reg_n n w; rw [xn] at this; exact this) (fun w => by have := reg_y m w; rw [xm] at this; exact this) (fun w => by have := reg_n a w; rw [xa] at this; exact this) (fun w => by have := rimm_2 d n m a c i w; rw [xi] at this; exact this)
          · skip
            have Hxd := Lib.hid (fun w => (by have := reg_y d w; rw [xd] at this; exact this) : ∀ w, Calls Try.prog 168 #[.bool true, .int .i64 d] w fun e w' => e = .returned (.bool true) ∧ w' = w)
            have Hxn := Lib.hid (fun w => (by have := reg_n n w; rw [xn] at this; exact this) : ∀ w, Calls Try.prog 168 #[.bool false, .int .i64 n] w fun e w' => e = .returned (.bool true) ∧ w' = w)
            have Hxm := Lib.hid (fun w => (by have := reg_y m w; rw [xm] at this; exact this) : ∀ w, Calls Try.prog 168 #[.bool true, .int .i64 m] w fun e w' => e = .returned (.bool true) ∧ w' = w)
            have Hxa := Lib.hid (fun w => (by have := reg_n a w; rw [xa] at this; exact this) : ∀ w, Calls Try.prog 168 #[.bool false, .int .i64 a] w fun e w' => e = .returned (.bool true) ∧ w' = w)
            have Hxi := Lib.hid (fun w => (by have := rimm_2 d n m a c i w; rw [xi] at this; exact this) : ∀ w, Calls Try.prog 169 #[.agg #[.int .i64 2, .int .i64 d, .int .i64 n, .int .i64 m, .int .i64 a, .int .i64 c, .int .i64 i]] w fun e w' => e = .returned (.bool true) ∧ Below w.heap.size w w')
            have hk : ok_2 d n m a c i = (wi m 0 3 && (c == 0)) := by simp [ok_2, xd, xn, xa, xi]
            have HK := Lib.hid hk
            clear hk xd xn xa xi
            have hm1 : 0 ≤ m ∧ m ≤ 31 := by simpa [wi] using xm
            have HM := Lib.hid hm1
            clear xm hm1
            go_enter Try.func83, Try.ntmps83
            go_wp2_with (first | (go_at_call 167; refine (rfields_2 _).mono ?_; rintro e w' ⟨rfl, rfl⟩) | (go_at_call 168; (with_reducible refine (Hxd.out _).mono ?_); rintro e w' ⟨rfl, rfl⟩) | (go_at_call 168; (with_reducible refine (Hxn.out _).mono ?_); rintro e w' ⟨rfl, rfl⟩) | (go_at_call 168; (with_reducible refine (Hxm.out _).mono ?_); rintro e w' ⟨rfl, rfl⟩) | (go_at_call 168; (with_reducible refine (Hxa.out _).mono ?_); rintro e w' ⟨rfl, rfl⟩) | (go_at_call 169; refine (Hxi.out _).mono ?_; rintro e w2 ⟨rfl, hb2⟩; have HB2 := Lib.hid (((Below.refl _ _).alloc (Nat.le_refl _) _).trans (hb2.mono (by simp)) : Below w.heap.size w w2); have HI2 := Lib.hid ((InsC.new w (.int .i64 2) (.int .i64 d) (.int .i64 n) (.int .i64 m) (.int .i64 a) (.int .i64 c) (.int .i64 i)).below' hb2 rfl); obtain ⟨hl, i0, i1, i2, i3, i4, i5, i6⟩ := HI2.out; clear hb2))
            all_goals
              go_ret
              exact ⟨ret_er (by rw [HK.out]; have := HM.out; first | rfl | (simp [er, wi]; omega) | (simp [er, wi, *]; done) | (simp_all [er, wi]; omega)), HB2.out⟩
set_option maxRecDepth 100000 in
set_option maxHeartbeats 2000000 in
theorem rcheck_6 (d n m a c i : Int) (w : World) : Calls Try.prog 83 #[.agg #[.int .i64 6, .int .i64 d, .int .i64 n, .int .i64 m, .int .i64 a, .int .i64 c, .int .i64 i]] w fun e w' => e = .returned (.int .i64 (er (ok_6 d n m a c i))) ∧ Below w.heap.size w w' := by
  rcases xd : (wi d 0 31)
  · have hk : ok_6 d n m a c i = false := by
      simp [ok_6, xd]
    rw [hk]
    exact rck_d 6 d n m a c i true true false false false true w (by decide) (by decide) rfields_6 (fun w => by have := reg_y d w; rw [xd] at this; exact this)
  · skip
    rcases xn : (wi n 0 31)
    · have hk : ok_6 d n m a c i = false := by
        simp [ok_6, xn]
      rw [hk]
      exact rck_n 6 d n m a c i true true false false false true w (by decide) (by decide) rfields_6 (fun w => by have := reg_y d w; rw [xd] at this; exact this) (fun w => by have := reg_y n w; rw [xn] at this; exact this)
    · skip
      rcases xm : (m == 0)
      · have hk : ok_6 d n m a c i = false := by
          simp [ok_6, xm]
        rw [hk]
        exact rck_m 6 d n m a c i true true false false false true w (by decide) (by decide) rfields_6 (fun w => by have := reg_y d w; rw [xd] at this; exact this) (fun w => by have := reg_y n w; rw [xn] at this; exact this) (fun w => by have := reg_n m w; rw [xm] at this; exact this)
      · skip
        rcases xa : (a == 0)
        · have hk : ok_6 d n m a c i = false := by
            simp [ok_6, xa]
          rw [hk]
          exact rck_a 6 d n m a c i true true false false false true w (by decide) (by decide) rfields_6 (fun w => by have := reg_y d w; rw [xd] at this; exact this) (fun w => by have := reg_y n w; rw [xn] at this; exact this) (fun w => by have := reg_n m w; rw [xm] at this; exact this) (fun w => by have := reg_n a w; rw [xa] at this; exact this)
        · skip
          rcases xi : ((wi i 0 4095))
          · have hk : ok_6 d n m a c i = false := by
              simp [ok_6, xi]
            rw [hk]
            exact rck_i 6 d n m a c i true true false false false true w (by decide) (by decide) rfields_6 (fun w => by have := reg_y d w; rw [xd] at this; exact this) (fun w => by have := reg_y n w; rw [xn] at this; exact this) (fun w => by have := reg_n m w; rw [xm] at this; exact this) (fun w => by have := reg_n a w; rw [xa] at this; exact this) (fun w => by have := rimm_6 d n m a c i w; rw [xi] at this; exact this)
          · skip
            have Hxd := Lib.hid (fun w => (by have := reg_y d w; rw [xd] at this; exact this) : ∀ w, Calls Try.prog 168 #[.bool true, .int .i64 d] w fun e w' => e = .returned (.bool true) ∧ w' = w)
            have Hxn := Lib.hid (fun w => (by have := reg_y n w; rw [xn] at this; exact this) : ∀ w, Calls Try.prog 168 #[.bool true, .int .i64 n] w fun e w' => e = .returned (.bool true) ∧ w' = w)
            have Hxm := Lib.hid (fun w => (by have := reg_n m w; rw [xm] at this; exact this) : ∀ w, Calls Try.prog 168 #[.bool false, .int .i64 m] w fun e w' => e = .returned (.bool true) ∧ w' = w)
            have Hxa := Lib.hid (fun w => (by have := reg_n a w; rw [xa] at this; exact this) : ∀ w, Calls Try.prog 168 #[.bool false, .int .i64 a] w fun e w' => e = .returned (.bool true) ∧ w' = w)
            have Hxi := Lib.hid (fun w => (by have := rimm_6 d n m a c i w; rw [xi] at this; exact this) : ∀ w, Calls Try.prog 169 #[.agg #[.int .i64 6, .int .i64 d, .int .i64 n, .int .i64 m, .int .i64 a, .int .i64 c, .int .i64 i]] w fun e w' => e = .returned (.bool true) ∧ Below w.heap.size w w')
            have hk : ok_6 d n m a c i = (c == 0) := by simp [ok_6, xd, xn, xm, xa, xi]
            have HK := Lib.hid hk
            clear hk xd xn xm xa xi
            go_enter Try.func83, Try.ntmps83
            go_wp2_with (first | (go_at_call 167; refine (rfields_6 _).mono ?_; rintro e w' ⟨rfl, rfl⟩) | (go_at_call 168; (with_reducible refine (Hxd.out _).mono ?_); rintro e w' ⟨rfl, rfl⟩) | (go_at_call 168; (with_reducible refine (Hxn.out _).mono ?_); rintro e w' ⟨rfl, rfl⟩) | (go_at_call 168; (with_reducible refine (Hxm.out _).mono ?_); rintro e w' ⟨rfl, rfl⟩) | (go_at_call 168; (with_reducible refine (Hxa.out _).mono ?_); rintro e w' ⟨rfl, rfl⟩) | (go_at_call 169; refine (Hxi.out _).mono ?_; rintro e w2 ⟨rfl, hb2⟩; have HB2 := Lib.hid (((Below.refl _ _).alloc (Nat.le_refl _) _).trans (hb2.mono (by simp)) : Below w.heap.size w w2); have HI2 := Lib.hid ((InsC.new w (.int .i64 6) (.int .i64 d) (.int .i64 n) (.int .i64 m) (.int .i64 a) (.int .i64 c) (.int .i64 i)).below' hb2 rfl); obtain ⟨hl, i0, i1, i2, i3, i4, i5, i6⟩ := HI2.out; clear hb2))
            all_goals
              go_ret
              exact ⟨ret_er (by rw [HK.out]; first | rfl | (simp [er]; omega) | (simp [er, *]; done) | (simp_all [er]; omega)), HB2.out⟩
set_option maxRecDepth 100000 in
set_option maxHeartbeats 2000000 in
theorem rcheck_10 (d n m a c i : Int) (w : World) : Calls Try.prog 83 #[.agg #[.int .i64 10, .int .i64 d, .int .i64 n, .int .i64 m, .int .i64 a, .int .i64 c, .int .i64 i]] w fun e w' => e = .returned (.int .i64 (er (ok_10 d n m a c i))) ∧ Below w.heap.size w w' := by
  rcases xd : (wi d 0 31)
  · have hk : ok_10 d n m a c i = false := by
      simp [ok_10, xd]
    rw [hk]
    exact rck_d 10 d n m a c i true true true false false false w (by decide) (by decide) rfields_10 (fun w => by have := reg_y d w; rw [xd] at this; exact this)
  · skip
    rcases xn : (wi n 0 31)
    · have hk : ok_10 d n m a c i = false := by
        simp [ok_10, xn]
      rw [hk]
      exact rck_n 10 d n m a c i true true true false false false w (by decide) (by decide) rfields_10 (fun w => by have := reg_y d w; rw [xd] at this; exact this) (fun w => by have := reg_y n w; rw [xn] at this; exact this)
    · skip
      rcases xm : (wi m 0 31)
      · have hk : ok_10 d n m a c i = false := by
          simp [ok_10, xm]
        rw [hk]
        exact rck_m 10 d n m a c i true true true false false false w (by decide) (by decide) rfields_10 (fun w => by have := reg_y d w; rw [xd] at this; exact this) (fun w => by have := reg_y n w; rw [xn] at this; exact this) (fun w => by have := reg_y m w; rw [xm] at this; exact this)
      · skip
        rcases xa : (a == 0)
        · have hk : ok_10 d n m a c i = false := by
            simp [ok_10, xa]
          rw [hk]
          exact rck_a 10 d n m a c i true true true false false false w (by decide) (by decide) rfields_10 (fun w => by have := reg_y d w; rw [xd] at this; exact this) (fun w => by have := reg_y n w; rw [xn] at this; exact this) (fun w => by have := reg_y m w; rw [xm] at this; exact this) (fun w => by have := reg_n a w; rw [xa] at this; exact this)
        · skip
          rcases xi : ((i == 0))
          · have hk : ok_10 d n m a c i = false := by
              simp [ok_10, xi]
            rw [hk]
            exact rck_i 10 d n m a c i true true true false false false w (by decide) (by decide) rfields_10 (fun w => by have := reg_y d w; rw [xd] at this; exact this) (fun w => by have := reg_y n w; rw [xn] at this; exact this) (fun w => by have := reg_y m w; rw [xm] at this; exact this) (fun w => by have := reg_n a w; rw [xa] at this; exact this) (fun w => by have := rimm_10 d n m a c i w; rw [xi] at this; exact this)
          · skip
            have Hxd := Lib.hid (fun w => (by have := reg_y d w; rw [xd] at this; exact this) : ∀ w, Calls Try.prog 168 #[.bool true, .int .i64 d] w fun e w' => e = .returned (.bool true) ∧ w' = w)
            have Hxn := Lib.hid (fun w => (by have := reg_y n w; rw [xn] at this; exact this) : ∀ w, Calls Try.prog 168 #[.bool true, .int .i64 n] w fun e w' => e = .returned (.bool true) ∧ w' = w)
            have Hxm := Lib.hid (fun w => (by have := reg_y m w; rw [xm] at this; exact this) : ∀ w, Calls Try.prog 168 #[.bool true, .int .i64 m] w fun e w' => e = .returned (.bool true) ∧ w' = w)
            have Hxa := Lib.hid (fun w => (by have := reg_n a w; rw [xa] at this; exact this) : ∀ w, Calls Try.prog 168 #[.bool false, .int .i64 a] w fun e w' => e = .returned (.bool true) ∧ w' = w)
            have Hxi := Lib.hid (fun w => (by have := rimm_10 d n m a c i w; rw [xi] at this; exact this) : ∀ w, Calls Try.prog 169 #[.agg #[.int .i64 10, .int .i64 d, .int .i64 n, .int .i64 m, .int .i64 a, .int .i64 c, .int .i64 i]] w fun e w' => e = .returned (.bool true) ∧ Below w.heap.size w w')
            have hk : ok_10 d n m a c i = (c == 0) := by simp [ok_10, xd, xn, xm, xa, xi]
            have HK := Lib.hid hk
            clear hk xd xn xm xa xi
            go_enter Try.func83, Try.ntmps83
            go_wp2_with (first | (go_at_call 167; refine (rfields_10 _).mono ?_; rintro e w' ⟨rfl, rfl⟩) | (go_at_call 168; (with_reducible refine (Hxd.out _).mono ?_); rintro e w' ⟨rfl, rfl⟩) | (go_at_call 168; (with_reducible refine (Hxn.out _).mono ?_); rintro e w' ⟨rfl, rfl⟩) | (go_at_call 168; (with_reducible refine (Hxm.out _).mono ?_); rintro e w' ⟨rfl, rfl⟩) | (go_at_call 168; (with_reducible refine (Hxa.out _).mono ?_); rintro e w' ⟨rfl, rfl⟩) | (go_at_call 169; refine (Hxi.out _).mono ?_; rintro e w2 ⟨rfl, hb2⟩; have HB2 := Lib.hid (((Below.refl _ _).alloc (Nat.le_refl _) _).trans (hb2.mono (by simp)) : Below w.heap.size w w2); have HI2 := Lib.hid ((InsC.new w (.int .i64 10) (.int .i64 d) (.int .i64 n) (.int .i64 m) (.int .i64 a) (.int .i64 c) (.int .i64 i)).below' hb2 rfl); obtain ⟨hl, i0, i1, i2, i3, i4, i5, i6⟩ := HI2.out; clear hb2))
            all_goals
              go_ret
              exact ⟨ret_er (by rw [HK.out]; first | rfl | (simp [er]; omega) | (simp [er, *]; done) | (simp_all [er]; omega)), HB2.out⟩
set_option maxRecDepth 100000 in
set_option maxHeartbeats 2000000 in
theorem rcheck_14 (d n m a c i : Int) (w : World) : Calls Try.prog 83 #[.agg #[.int .i64 14, .int .i64 d, .int .i64 n, .int .i64 m, .int .i64 a, .int .i64 c, .int .i64 i]] w fun e w' => e = .returned (.int .i64 (er (ok_14 d n m a c i))) ∧ Below w.heap.size w w' := by
  rcases xd : (wi d 0 31)
  · have hk : ok_14 d n m a c i = false := by
      simp [ok_14, xd]
    rw [hk]
    exact rck_d 14 d n m a c i true true true true false false w (by decide) (by decide) rfields_14 (fun w => by have := reg_y d w; rw [xd] at this; exact this)
  · skip
    rcases xn : (wi n 0 31)
    · have hk : ok_14 d n m a c i = false := by
        simp [ok_14, xn]
      rw [hk]
      exact rck_n 14 d n m a c i true true true true false false w (by decide) (by decide) rfields_14 (fun w => by have := reg_y d w; rw [xd] at this; exact this) (fun w => by have := reg_y n w; rw [xn] at this; exact this)
    · skip
      rcases xm : (wi m 0 31)
      · have hk : ok_14 d n m a c i = false := by
          simp [ok_14, xm]
        rw [hk]
        exact rck_m 14 d n m a c i true true true true false false w (by decide) (by decide) rfields_14 (fun w => by have := reg_y d w; rw [xd] at this; exact this) (fun w => by have := reg_y n w; rw [xn] at this; exact this) (fun w => by have := reg_y m w; rw [xm] at this; exact this)
      · skip
        rcases xa : (wi a 0 31)
        · have hk : ok_14 d n m a c i = false := by
            simp [ok_14, xa]
          rw [hk]
          exact rck_a 14 d n m a c i true true true true false false w (by decide) (by decide) rfields_14 (fun w => by have := reg_y d w; rw [xd] at this; exact this) (fun w => by have := reg_y n w; rw [xn] at this; exact this) (fun w => by have := reg_y m w; rw [xm] at this; exact this) (fun w => by have := reg_y a w; rw [xa] at this; exact this)
        · skip
          rcases xi : ((i == 0))
          · have hk : ok_14 d n m a c i = false := by
              simp [ok_14, xi]
            rw [hk]
            exact rck_i 14 d n m a c i true true true true false false w (by decide) (by decide) rfields_14 (fun w => by have := reg_y d w; rw [xd] at this; exact this) (fun w => by have := reg_y n w; rw [xn] at this; exact this) (fun w => by have := reg_y m w; rw [xm] at this; exact this) (fun w => by have := reg_y a w; rw [xa] at this; exact this) (fun w => by have := rimm_14 d n m a c i w; rw [xi] at this; exact this)
          · skip
            have Hxd := Lib.hid (fun w => (by have := reg_y d w; rw [xd] at this; exact this) : ∀ w, Calls Try.prog 168 #[.bool true, .int .i64 d] w fun e w' => e = .returned (.bool true) ∧ w' = w)
            have Hxn := Lib.hid (fun w => (by have := reg_y n w; rw [xn] at this; exact this) : ∀ w, Calls Try.prog 168 #[.bool true, .int .i64 n] w fun e w' => e = .returned (.bool true) ∧ w' = w)
            have Hxm := Lib.hid (fun w => (by have := reg_y m w; rw [xm] at this; exact this) : ∀ w, Calls Try.prog 168 #[.bool true, .int .i64 m] w fun e w' => e = .returned (.bool true) ∧ w' = w)
            have Hxa := Lib.hid (fun w => (by have := reg_y a w; rw [xa] at this; exact this) : ∀ w, Calls Try.prog 168 #[.bool true, .int .i64 a] w fun e w' => e = .returned (.bool true) ∧ w' = w)
            have Hxi := Lib.hid (fun w => (by have := rimm_14 d n m a c i w; rw [xi] at this; exact this) : ∀ w, Calls Try.prog 169 #[.agg #[.int .i64 14, .int .i64 d, .int .i64 n, .int .i64 m, .int .i64 a, .int .i64 c, .int .i64 i]] w fun e w' => e = .returned (.bool true) ∧ Below w.heap.size w w')
            have hk : ok_14 d n m a c i = (c == 0) := by simp [ok_14, xd, xn, xm, xa, xi]
            have HK := Lib.hid hk
            clear hk xd xn xm xa xi
            go_enter Try.func83, Try.ntmps83
            go_wp2_with (first | (go_at_call 167; refine (rfields_14 _).mono ?_; rintro e w' ⟨rfl, rfl⟩) | (go_at_call 168; (with_reducible refine (Hxd.out _).mono ?_); rintro e w' ⟨rfl, rfl⟩) | (go_at_call 168; (with_reducible refine (Hxn.out _).mono ?_); rintro e w' ⟨rfl, rfl⟩) | (go_at_call 168; (with_reducible refine (Hxm.out _).mono ?_); rintro e w' ⟨rfl, rfl⟩) | (go_at_call 168; (with_reducible refine (Hxa.out _).mono ?_); rintro e w' ⟨rfl, rfl⟩) | (go_at_call 169; refine (Hxi.out _).mono ?_; rintro e w2 ⟨rfl, hb2⟩; have HB2 := Lib.hid (((Below.refl _ _).alloc (Nat.le_refl _) _).trans (hb2.mono (by simp)) : Below w.heap.size w w2); have HI2 := Lib.hid ((InsC.new w (.int .i64 14) (.int .i64 d) (.int .i64 n) (.int .i64 m) (.int .i64 a) (.int .i64 c) (.int .i64 i)).below' hb2 rfl); obtain ⟨hl, i0, i1, i2, i3, i4, i5, i6⟩ := HI2.out; clear hb2))
            all_goals
              go_ret
              exact ⟨ret_er (by rw [HK.out]; first | rfl | (simp [er]; omega) | (simp [er, *]; done) | (simp_all [er]; omega)), HB2.out⟩
set_option maxRecDepth 100000 in
set_option maxHeartbeats 2000000 in
theorem rcheck_18 (d n m a c i : Int) (w : World) : Calls Try.prog 83 #[.agg #[.int .i64 18, .int .i64 d, .int .i64 n, .int .i64 m, .int .i64 a, .int .i64 c, .int .i64 i]] w fun e w' => e = .returned (.int .i64 (er (ok_18 d n m a c i))) ∧ Below w.heap.size w w' := by
  rcases xd : (wi d 0 31)
  · have hk : ok_18 d n m a c i = false := by
      simp [ok_18, xd]
    rw [hk]
    exact rck_d 18 d n m a c i true true true false false false w (by decide) (by decide) rfields_18 (fun w => by have := reg_y d w; rw [xd] at this; exact this)
  · skip
    rcases xn : (wi n 0 31)
    · have hk : ok_18 d n m a c i = false := by
        simp [ok_18, xn]
      rw [hk]
      exact rck_n 18 d n m a c i true true true false false false w (by decide) (by decide) rfields_18 (fun w => by have := reg_y d w; rw [xd] at this; exact this) (fun w => by have := reg_y n w; rw [xn] at this; exact this)
    · skip
      rcases xm : (wi m 0 31)
      · have hk : ok_18 d n m a c i = false := by
          simp [ok_18, xm]
        rw [hk]
        exact rck_m 18 d n m a c i true true true false false false w (by decide) (by decide) rfields_18 (fun w => by have := reg_y d w; rw [xd] at this; exact this) (fun w => by have := reg_y n w; rw [xn] at this; exact this) (fun w => by have := reg_y m w; rw [xm] at this; exact this)
      · skip
        rcases xa : (a == 0)
        · have hk : ok_18 d n m a c i = false := by
            simp [ok_18, xa]
          rw [hk]
          exact rck_a 18 d n m a c i true true true false false false w (by decide) (by decide) rfields_18 (fun w => by have := reg_y d w; rw [xd] at this; exact this) (fun w => by have := reg_y n w; rw [xn] at this; exact this) (fun w => by have := reg_y m w; rw [xm] at this; exact this) (fun w => by have := reg_n a w; rw [xa] at this; exact this)
        · skip
          rcases xi : ((i == 0))
          · have hk : ok_18 d n m a c i = false := by
              simp [ok_18, xi]
            rw [hk]
            exact rck_i 18 d n m a c i true true true false false false w (by decide) (by decide) rfields_18 (fun w => by have := reg_y d w; rw [xd] at this; exact this) (fun w => by have := reg_y n w; rw [xn] at this; exact this) (fun w => by have := reg_y m w; rw [xm] at this; exact this) (fun w => by have := reg_n a w; rw [xa] at this; exact this) (fun w => by have := rimm_18 d n m a c i w; rw [xi] at this; exact this)
          · skip
            have Hxd := Lib.hid (fun w => (by have := reg_y d w; rw [xd] at this; exact this) : ∀ w, Calls Try.prog 168 #[.bool true, .int .i64 d] w fun e w' => e = .returned (.bool true) ∧ w' = w)
            have Hxn := Lib.hid (fun w => (by have := reg_y n w; rw [xn] at this; exact this) : ∀ w, Calls Try.prog 168 #[.bool true, .int .i64 n] w fun e w' => e = .returned (.bool true) ∧ w' = w)
            have Hxm := Lib.hid (fun w => (by have := reg_y m w; rw [xm] at this; exact this) : ∀ w, Calls Try.prog 168 #[.bool true, .int .i64 m] w fun e w' => e = .returned (.bool true) ∧ w' = w)
            have Hxa := Lib.hid (fun w => (by have := reg_n a w; rw [xa] at this; exact this) : ∀ w, Calls Try.prog 168 #[.bool false, .int .i64 a] w fun e w' => e = .returned (.bool true) ∧ w' = w)
            have Hxi := Lib.hid (fun w => (by have := rimm_18 d n m a c i w; rw [xi] at this; exact this) : ∀ w, Calls Try.prog 169 #[.agg #[.int .i64 18, .int .i64 d, .int .i64 n, .int .i64 m, .int .i64 a, .int .i64 c, .int .i64 i]] w fun e w' => e = .returned (.bool true) ∧ Below w.heap.size w w')
            have hk : ok_18 d n m a c i = (c == 0) := by simp [ok_18, xd, xn, xm, xa, xi]
            have HK := Lib.hid hk
            clear hk xd xn xm xa xi
            go_enter Try.func83, Try.ntmps83
            go_wp2_with (first | (go_at_call 167; refine (rfields_18 _).mono ?_; rintro e w' ⟨rfl, rfl⟩) | (go_at_call 168; (with_reducible refine (Hxd.out _).mono ?_); rintro e w' ⟨rfl, rfl⟩) | (go_at_call 168; (with_reducible refine (Hxn.out _).mono ?_); rintro e w' ⟨rfl, rfl⟩) | (go_at_call 168; (with_reducible refine (Hxm.out _).mono ?_); rintro e w' ⟨rfl, rfl⟩) | (go_at_call 168; (with_reducible refine (Hxa.out _).mono ?_); rintro e w' ⟨rfl, rfl⟩) | (go_at_call 169; refine (Hxi.out _).mono ?_; rintro e w2 ⟨rfl, hb2⟩; have HB2 := Lib.hid (((Below.refl _ _).alloc (Nat.le_refl _) _).trans (hb2.mono (by simp)) : Below w.heap.size w w2); have HI2 := Lib.hid ((InsC.new w (.int .i64 18) (.int .i64 d) (.int .i64 n) (.int .i64 m) (.int .i64 a) (.int .i64 c) (.int .i64 i)).below' hb2 rfl); obtain ⟨hl, i0, i1, i2, i3, i4, i5, i6⟩ := HI2.out; clear hb2))
            all_goals
              go_ret
              exact ⟨ret_er (by rw [HK.out]; first | rfl | (simp [er]; omega) | (simp [er, *]; done) | (simp_all [er]; omega)), HB2.out⟩
set_option maxRecDepth 100000 in
set_option maxHeartbeats 2000000 in
theorem rcheck_22 (d n m a c i : Int) (w : World) : Calls Try.prog 83 #[.agg #[.int .i64 22, .int .i64 d, .int .i64 n, .int .i64 m, .int .i64 a, .int .i64 c, .int .i64 i]] w fun e w' => e = .returned (.int .i64 (er (ok_22 d n m a c i))) ∧ Below w.heap.size w w' := by
  rcases xd : (wi d 0 31)
  · have hk : ok_22 d n m a c i = false := by
      simp [ok_22, xd]
    rw [hk]
    exact rck_d 22 d n m a c i true false false false false true w (by decide) (by decide) rfields_22 (fun w => by have := reg_y d w; rw [xd] at this; exact this)
  · skip
    rcases xn : (n == 0)
    · have hk : ok_22 d n m a c i = false := by
        simp [ok_22, xn]
      rw [hk]
      exact rck_n 22 d n m a c i true false false false false true w (by decide) (by decide) rfields_22 (fun w => by have := reg_y d w; rw [xd] at this; exact this) (fun w => by have := reg_n n w; rw [xn] at this; exact this)
    · skip
      rcases xm : (m == 0)
      · have hk : ok_22 d n m a c i = false := by
          simp [ok_22, xm]
        rw [hk]
        exact rck_m 22 d n m a c i true false false false false true w (by decide) (by decide) rfields_22 (fun w => by have := reg_y d w; rw [xd] at this; exact this) (fun w => by have := reg_n n w; rw [xn] at this; exact this) (fun w => by have := reg_n m w; rw [xm] at this; exact this)
      · skip
        rcases xa : (a == 0)
        · have hk : ok_22 d n m a c i = false := by
            simp [ok_22, xa]
          rw [hk]
          exact rck_a 22 d n m a c i true false false false false true w (by decide) (by decide) rfields_22 (fun w => by have := reg_y d w; rw [xd] at this; exact this) (fun w => by have := reg_n n w; rw [xn] at this; exact this) (fun w => by have := reg_n m w; rw [xm] at this; exact this) (fun w => by have := reg_n a w; rw [xa] at this; exact this)
        · skip
          rcases xi : ((wm i (-1048576) 1048572 4))
          · have hk : ok_22 d n m a c i = false := by
              simp [ok_22, xi]
            rw [hk]
            exact rck_i 22 d n m a c i true false false false false true w (by decide) (by decide) rfields_22 (fun w => by have := reg_y d w; rw [xd] at this; exact this) (fun w => by have := reg_n n w; rw [xn] at this; exact this) (fun w => by have := reg_n m w; rw [xm] at this; exact this) (fun w => by have := reg_n a w; rw [xa] at this; exact this) (fun w => by have := rimm_22 d n m a c i w; rw [xi] at this; exact this)
          · skip
            have Hxd := Lib.hid (fun w => (by have := reg_y d w; rw [xd] at this; exact this) : ∀ w, Calls Try.prog 168 #[.bool true, .int .i64 d] w fun e w' => e = .returned (.bool true) ∧ w' = w)
            have Hxn := Lib.hid (fun w => (by have := reg_n n w; rw [xn] at this; exact this) : ∀ w, Calls Try.prog 168 #[.bool false, .int .i64 n] w fun e w' => e = .returned (.bool true) ∧ w' = w)
            have Hxm := Lib.hid (fun w => (by have := reg_n m w; rw [xm] at this; exact this) : ∀ w, Calls Try.prog 168 #[.bool false, .int .i64 m] w fun e w' => e = .returned (.bool true) ∧ w' = w)
            have Hxa := Lib.hid (fun w => (by have := reg_n a w; rw [xa] at this; exact this) : ∀ w, Calls Try.prog 168 #[.bool false, .int .i64 a] w fun e w' => e = .returned (.bool true) ∧ w' = w)
            have Hxi := Lib.hid (fun w => (by have := rimm_22 d n m a c i w; rw [xi] at this; exact this) : ∀ w, Calls Try.prog 169 #[.agg #[.int .i64 22, .int .i64 d, .int .i64 n, .int .i64 m, .int .i64 a, .int .i64 c, .int .i64 i]] w fun e w' => e = .returned (.bool true) ∧ Below w.heap.size w w')
            have hk : ok_22 d n m a c i = (c == 0) := by simp [ok_22, xd, xn, xm, xa, xi]
            have HK := Lib.hid hk
            clear hk xd xn xm xa xi
            go_enter Try.func83, Try.ntmps83
            go_wp2_with (first | (go_at_call 167; refine (rfields_22 _).mono ?_; rintro e w' ⟨rfl, rfl⟩) | (go_at_call 168; (with_reducible refine (Hxd.out _).mono ?_); rintro e w' ⟨rfl, rfl⟩) | (go_at_call 168; (with_reducible refine (Hxn.out _).mono ?_); rintro e w' ⟨rfl, rfl⟩) | (go_at_call 168; (with_reducible refine (Hxm.out _).mono ?_); rintro e w' ⟨rfl, rfl⟩) | (go_at_call 168; (with_reducible refine (Hxa.out _).mono ?_); rintro e w' ⟨rfl, rfl⟩) | (go_at_call 169; refine (Hxi.out _).mono ?_; rintro e w2 ⟨rfl, hb2⟩; have HB2 := Lib.hid (((Below.refl _ _).alloc (Nat.le_refl _) _).trans (hb2.mono (by simp)) : Below w.heap.size w w2); have HI2 := Lib.hid ((InsC.new w (.int .i64 22) (.int .i64 d) (.int .i64 n) (.int .i64 m) (.int .i64 a) (.int .i64 c) (.int .i64 i)).below' hb2 rfl); obtain ⟨hl, i0, i1, i2, i3, i4, i5, i6⟩ := HI2.out; clear hb2))
            all_goals
              go_ret
              exact ⟨ret_er (by rw [HK.out]; first | rfl | (simp [er]; omega) | (simp [er, *]; done) | (simp_all [er]; omega)), HB2.out⟩
set_option maxRecDepth 100000 in
set_option maxHeartbeats 2000000 in
theorem rcheck_26 (d n m a c i : Int) (w : World) : Calls Try.prog 83 #[.agg #[.int .i64 26, .int .i64 d, .int .i64 n, .int .i64 m, .int .i64 a, .int .i64 c, .int .i64 i]] w fun e w' => e = .returned (.int .i64 (er (ok_26 d n m a c i))) ∧ Below w.heap.size w w' := by
  rcases xd : (d == 0)
  · have hk : ok_26 d n m a c i = false := by
      simp [ok_26, xd]
    rw [hk]
    exact rck_d 26 d n m a c i false true false false false false w (by decide) (by decide) rfields_26 (fun w => by have := reg_n d w; rw [xd] at this; exact this)
  · skip
    rcases xn : (wi n 0 31)
    · have hk : ok_26 d n m a c i = false := by
        simp [ok_26, xn]
      rw [hk]
      exact rck_n 26 d n m a c i false true false false false false w (by decide) (by decide) rfields_26 (fun w => by have := reg_n d w; rw [xd] at this; exact this) (fun w => by have := reg_y n w; rw [xn] at this; exact this)
    · skip
      rcases xm : (m == 0)
      · have hk : ok_26 d n m a c i = false := by
          simp [ok_26, xm]
        rw [hk]
        exact rck_m 26 d n m a c i false true false false false false w (by decide) (by decide) rfields_26 (fun w => by have := reg_n d w; rw [xd] at this; exact this) (fun w => by have := reg_y n w; rw [xn] at this; exact this) (fun w => by have := reg_n m w; rw [xm] at this; exact this)
      · skip
        rcases xa : (a == 0)
        · have hk : ok_26 d n m a c i = false := by
            simp [ok_26, xa]
          rw [hk]
          exact rck_a 26 d n m a c i false true false false false false w (by decide) (by decide) rfields_26 (fun w => by have := reg_n d w; rw [xd] at this; exact this) (fun w => by have := reg_y n w; rw [xn] at this; exact this) (fun w => by have := reg_n m w; rw [xm] at this; exact this) (fun w => by have := reg_n a w; rw [xa] at this; exact this)
        · skip
          rcases xi : ((i == 0))
          · have hk : ok_26 d n m a c i = false := by
              simp [ok_26, xi]
            rw [hk]
            exact rck_i 26 d n m a c i false true false false false false w (by decide) (by decide) rfields_26 (fun w => by have := reg_n d w; rw [xd] at this; exact this) (fun w => by have := reg_y n w; rw [xn] at this; exact this) (fun w => by have := reg_n m w; rw [xm] at this; exact this) (fun w => by have := reg_n a w; rw [xa] at this; exact this) (fun w => by have := rimm_26 d n m a c i w; rw [xi] at this; exact this)
          · skip
            have Hxd := Lib.hid (fun w => (by have := reg_n d w; rw [xd] at this; exact this) : ∀ w, Calls Try.prog 168 #[.bool false, .int .i64 d] w fun e w' => e = .returned (.bool true) ∧ w' = w)
            have Hxn := Lib.hid (fun w => (by have := reg_y n w; rw [xn] at this; exact this) : ∀ w, Calls Try.prog 168 #[.bool true, .int .i64 n] w fun e w' => e = .returned (.bool true) ∧ w' = w)
            have Hxm := Lib.hid (fun w => (by have := reg_n m w; rw [xm] at this; exact this) : ∀ w, Calls Try.prog 168 #[.bool false, .int .i64 m] w fun e w' => e = .returned (.bool true) ∧ w' = w)
            have Hxa := Lib.hid (fun w => (by have := reg_n a w; rw [xa] at this; exact this) : ∀ w, Calls Try.prog 168 #[.bool false, .int .i64 a] w fun e w' => e = .returned (.bool true) ∧ w' = w)
            have Hxi := Lib.hid (fun w => (by have := rimm_26 d n m a c i w; rw [xi] at this; exact this) : ∀ w, Calls Try.prog 169 #[.agg #[.int .i64 26, .int .i64 d, .int .i64 n, .int .i64 m, .int .i64 a, .int .i64 c, .int .i64 i]] w fun e w' => e = .returned (.bool true) ∧ Below w.heap.size w w')
            have hk : ok_26 d n m a c i = (c == 0) := by simp [ok_26, xd, xn, xm, xa, xi]
            have HK := Lib.hid hk
            clear hk xd xn xm xa xi
            go_enter Try.func83, Try.ntmps83
            go_wp2_with (first | (go_at_call 167; refine (rfields_26 _).mono ?_; rintro e w' ⟨rfl, rfl⟩) | (go_at_call 168; (with_reducible refine (Hxd.out _).mono ?_); rintro e w' ⟨rfl, rfl⟩) | (go_at_call 168; (with_reducible refine (Hxn.out _).mono ?_); rintro e w' ⟨rfl, rfl⟩) | (go_at_call 168; (with_reducible refine (Hxm.out _).mono ?_); rintro e w' ⟨rfl, rfl⟩) | (go_at_call 168; (with_reducible refine (Hxa.out _).mono ?_); rintro e w' ⟨rfl, rfl⟩) | (go_at_call 169; refine (Hxi.out _).mono ?_; rintro e w2 ⟨rfl, hb2⟩; have HB2 := Lib.hid (((Below.refl _ _).alloc (Nat.le_refl _) _).trans (hb2.mono (by simp)) : Below w.heap.size w w2); have HI2 := Lib.hid ((InsC.new w (.int .i64 26) (.int .i64 d) (.int .i64 n) (.int .i64 m) (.int .i64 a) (.int .i64 c) (.int .i64 i)).below' hb2 rfl); obtain ⟨hl, i0, i1, i2, i3, i4, i5, i6⟩ := HI2.out; clear hb2))
            all_goals
              go_ret
              exact ⟨ret_er (by rw [HK.out]; first | rfl | (simp [er]; omega) | (simp [er, *]; done) | (simp_all [er]; omega)), HB2.out⟩
set_option maxRecDepth 100000 in
set_option maxHeartbeats 2000000 in
theorem rcheck_30 (d n m a c i : Int) (w : World) : Calls Try.prog 83 #[.agg #[.int .i64 30, .int .i64 d, .int .i64 n, .int .i64 m, .int .i64 a, .int .i64 c, .int .i64 i]] w fun e w' => e = .returned (.int .i64 (er (ok_30 d n m a c i))) ∧ Below w.heap.size w w' := by
  rcases xd : (wi d 0 31)
  · have hk : ok_30 d n m a c i = false := by
      simp [ok_30, xd]
    rw [hk]
    exact rck_d 30 d n m a c i true true false false false true w (by decide) (by decide) rfields_30 (fun w => by have := reg_y d w; rw [xd] at this; exact this)
  · skip
    rcases xn : (wi n 0 31)
    · have hk : ok_30 d n m a c i = false := by
        simp [ok_30, xn]
      rw [hk]
      exact rck_n 30 d n m a c i true true false false false true w (by decide) (by decide) rfields_30 (fun w => by have := reg_y d w; rw [xd] at this; exact this) (fun w => by have := reg_y n w; rw [xn] at this; exact this)
    · skip
      rcases xm : (m == 0)
      · have hk : ok_30 d n m a c i = false := by
          simp [ok_30, xm]
        rw [hk]
        exact rck_m 30 d n m a c i true true false false false true w (by decide) (by decide) rfields_30 (fun w => by have := reg_y d w; rw [xd] at this; exact this) (fun w => by have := reg_y n w; rw [xn] at this; exact this) (fun w => by have := reg_n m w; rw [xm] at this; exact this)
      · skip
        rcases xa : (a == 0)
        · have hk : ok_30 d n m a c i = false := by
            simp [ok_30, xa]
          rw [hk]
          exact rck_a 30 d n m a c i true true false false false true w (by decide) (by decide) rfields_30 (fun w => by have := reg_y d w; rw [xd] at this; exact this) (fun w => by have := reg_y n w; rw [xn] at this; exact this) (fun w => by have := reg_n m w; rw [xm] at this; exact this) (fun w => by have := reg_n a w; rw [xa] at this; exact this)
        · skip
          rcases xi : ((wi i 0 4095))
          · have hk : ok_30 d n m a c i = false := by
              simp [ok_30, xi]
            rw [hk]
            exact rck_i 30 d n m a c i true true false false false true w (by decide) (by decide) rfields_30 (fun w => by have := reg_y d w; rw [xd] at this; exact this) (fun w => by have := reg_y n w; rw [xn] at this; exact this) (fun w => by have := reg_n m w; rw [xm] at this; exact this) (fun w => by have := reg_n a w; rw [xa] at this; exact this) (fun w => by have := rimm_30 d n m a c i w; rw [xi] at this; exact this)
          · skip
            have Hxd := Lib.hid (fun w => (by have := reg_y d w; rw [xd] at this; exact this) : ∀ w, Calls Try.prog 168 #[.bool true, .int .i64 d] w fun e w' => e = .returned (.bool true) ∧ w' = w)
            have Hxn := Lib.hid (fun w => (by have := reg_y n w; rw [xn] at this; exact this) : ∀ w, Calls Try.prog 168 #[.bool true, .int .i64 n] w fun e w' => e = .returned (.bool true) ∧ w' = w)
            have Hxm := Lib.hid (fun w => (by have := reg_n m w; rw [xm] at this; exact this) : ∀ w, Calls Try.prog 168 #[.bool false, .int .i64 m] w fun e w' => e = .returned (.bool true) ∧ w' = w)
            have Hxa := Lib.hid (fun w => (by have := reg_n a w; rw [xa] at this; exact this) : ∀ w, Calls Try.prog 168 #[.bool false, .int .i64 a] w fun e w' => e = .returned (.bool true) ∧ w' = w)
            have Hxi := Lib.hid (fun w => (by have := rimm_30 d n m a c i w; rw [xi] at this; exact this) : ∀ w, Calls Try.prog 169 #[.agg #[.int .i64 30, .int .i64 d, .int .i64 n, .int .i64 m, .int .i64 a, .int .i64 c, .int .i64 i]] w fun e w' => e = .returned (.bool true) ∧ Below w.heap.size w w')
            have hk : ok_30 d n m a c i = (c == 0) := by simp [ok_30, xd, xn, xm, xa, xi]
            have HK := Lib.hid hk
            clear hk xd xn xm xa xi
            go_enter Try.func83, Try.ntmps83
            go_wp2_with (first | (go_at_call 167; refine (rfields_30 _).mono ?_; rintro e w' ⟨rfl, rfl⟩) | (go_at_call 168; (with_reducible refine (Hxd.out _).mono ?_); rintro e w' ⟨rfl, rfl⟩) | (go_at_call 168; (with_reducible refine (Hxn.out _).mono ?_); rintro e w' ⟨rfl, rfl⟩) | (go_at_call 168; (with_reducible refine (Hxm.out _).mono ?_); rintro e w' ⟨rfl, rfl⟩) | (go_at_call 168; (with_reducible refine (Hxa.out _).mono ?_); rintro e w' ⟨rfl, rfl⟩) | (go_at_call 169; refine (Hxi.out _).mono ?_; rintro e w2 ⟨rfl, hb2⟩; have HB2 := Lib.hid (((Below.refl _ _).alloc (Nat.le_refl _) _).trans (hb2.mono (by simp)) : Below w.heap.size w w2); have HI2 := Lib.hid ((InsC.new w (.int .i64 30) (.int .i64 d) (.int .i64 n) (.int .i64 m) (.int .i64 a) (.int .i64 c) (.int .i64 i)).below' hb2 rfl); obtain ⟨hl, i0, i1, i2, i3, i4, i5, i6⟩ := HI2.out; clear hb2))
            all_goals
              go_ret
              exact ⟨ret_er (by rw [HK.out]; first | rfl | (simp [er]; omega) | (simp [er, *]; done) | (simp_all [er]; omega)), HB2.out⟩
set_option maxRecDepth 100000 in
set_option maxHeartbeats 2000000 in
theorem rcheck_34 (d n m a c i : Int) (w : World) : Calls Try.prog 83 #[.agg #[.int .i64 34, .int .i64 d, .int .i64 n, .int .i64 m, .int .i64 a, .int .i64 c, .int .i64 i]] w fun e w' => e = .returned (.int .i64 (er (ok_34 d n m a c i))) ∧ Below w.heap.size w w' := by
  rcases xd : (wi d 0 31)
  · have hk : ok_34 d n m a c i = false := by
      simp [ok_34, xd]
    rw [hk]
    exact rck_d 34 d n m a c i true true false false false false w (by decide) (by decide) rfields_34 (fun w => by have := reg_y d w; rw [xd] at this; exact this)
  · skip
    rcases xn : (wi n 0 31)
    · have hk : ok_34 d n m a c i = false := by
        simp [ok_34, xn]
      rw [hk]
      exact rck_n 34 d n m a c i true true false false false false w (by decide) (by decide) rfields_34 (fun w => by have := reg_y d w; rw [xd] at this; exact this) (fun w => by have := reg_y n w; rw [xn] at this; exact this)
    · skip
      rcases xm : (m == 0)
      · have hk : ok_34 d n m a c i = false := by
          simp [ok_34, xm]
        rw [hk]
        exact rck_m 34 d n m a c i true true false false false false w (by decide) (by decide) rfields_34 (fun w => by have := reg_y d w; rw [xd] at this; exact this) (fun w => by have := reg_y n w; rw [xn] at this; exact this) (fun w => by have := reg_n m w; rw [xm] at this; exact this)
      · skip
        rcases xa : (a == 0)
        · have hk : ok_34 d n m a c i = false := by
            simp [ok_34, xa]
          rw [hk]
          exact rck_a 34 d n m a c i true true false false false false w (by decide) (by decide) rfields_34 (fun w => by have := reg_y d w; rw [xd] at this; exact this) (fun w => by have := reg_y n w; rw [xn] at this; exact this) (fun w => by have := reg_n m w; rw [xm] at this; exact this) (fun w => by have := reg_n a w; rw [xa] at this; exact this)
        · skip
          rcases xi : ((i == 0))
          · have hk : ok_34 d n m a c i = false := by
              simp [ok_34, xi]
            rw [hk]
            exact rck_i 34 d n m a c i true true false false false false w (by decide) (by decide) rfields_34 (fun w => by have := reg_y d w; rw [xd] at this; exact this) (fun w => by have := reg_y n w; rw [xn] at this; exact this) (fun w => by have := reg_n m w; rw [xm] at this; exact this) (fun w => by have := reg_n a w; rw [xa] at this; exact this) (fun w => by have := rimm_34 d n m a c i w; rw [xi] at this; exact this)
          · skip
            have Hxd := Lib.hid (fun w => (by have := reg_y d w; rw [xd] at this; exact this) : ∀ w, Calls Try.prog 168 #[.bool true, .int .i64 d] w fun e w' => e = .returned (.bool true) ∧ w' = w)
            have Hxn := Lib.hid (fun w => (by have := reg_y n w; rw [xn] at this; exact this) : ∀ w, Calls Try.prog 168 #[.bool true, .int .i64 n] w fun e w' => e = .returned (.bool true) ∧ w' = w)
            have Hxm := Lib.hid (fun w => (by have := reg_n m w; rw [xm] at this; exact this) : ∀ w, Calls Try.prog 168 #[.bool false, .int .i64 m] w fun e w' => e = .returned (.bool true) ∧ w' = w)
            have Hxa := Lib.hid (fun w => (by have := reg_n a w; rw [xa] at this; exact this) : ∀ w, Calls Try.prog 168 #[.bool false, .int .i64 a] w fun e w' => e = .returned (.bool true) ∧ w' = w)
            have Hxi := Lib.hid (fun w => (by have := rimm_34 d n m a c i w; rw [xi] at this; exact this) : ∀ w, Calls Try.prog 169 #[.agg #[.int .i64 34, .int .i64 d, .int .i64 n, .int .i64 m, .int .i64 a, .int .i64 c, .int .i64 i]] w fun e w' => e = .returned (.bool true) ∧ Below w.heap.size w w')
            have hk : ok_34 d n m a c i = (c == 0) := by simp [ok_34, xd, xn, xm, xa, xi]
            have HK := Lib.hid hk
            clear hk xd xn xm xa xi
            go_enter Try.func83, Try.ntmps83
            go_wp2_with (first | (go_at_call 167; refine (rfields_34 _).mono ?_; rintro e w' ⟨rfl, rfl⟩) | (go_at_call 168; (with_reducible refine (Hxd.out _).mono ?_); rintro e w' ⟨rfl, rfl⟩) | (go_at_call 168; (with_reducible refine (Hxn.out _).mono ?_); rintro e w' ⟨rfl, rfl⟩) | (go_at_call 168; (with_reducible refine (Hxm.out _).mono ?_); rintro e w' ⟨rfl, rfl⟩) | (go_at_call 168; (with_reducible refine (Hxa.out _).mono ?_); rintro e w' ⟨rfl, rfl⟩) | (go_at_call 169; refine (Hxi.out _).mono ?_; rintro e w2 ⟨rfl, hb2⟩; have HB2 := Lib.hid (((Below.refl _ _).alloc (Nat.le_refl _) _).trans (hb2.mono (by simp)) : Below w.heap.size w w2); have HI2 := Lib.hid ((InsC.new w (.int .i64 34) (.int .i64 d) (.int .i64 n) (.int .i64 m) (.int .i64 a) (.int .i64 c) (.int .i64 i)).below' hb2 rfl); obtain ⟨hl, i0, i1, i2, i3, i4, i5, i6⟩ := HI2.out; clear hb2))
            all_goals
              go_ret
              exact ⟨ret_er (by rw [HK.out]; first | rfl | (simp [er]; omega) | (simp [er, *]; done) | (simp_all [er]; omega)), HB2.out⟩
set_option maxRecDepth 100000 in
set_option maxHeartbeats 2000000 in
theorem rcheck_38 (d n m a c i : Int) (w : World) : Calls Try.prog 83 #[.agg #[.int .i64 38, .int .i64 d, .int .i64 n, .int .i64 m, .int .i64 a, .int .i64 c, .int .i64 i]] w fun e w' => e = .returned (.int .i64 (er (ok_38 d n m a c i))) ∧ Below w.heap.size w w' := by
  rcases xd : (d == 0)
  · have hk : ok_38 d n m a c i = false := by
      simp [ok_38, xd]
    rw [hk]
    exact rck_d 38 d n m a c i false false false false false false w (by decide) (by decide) rfields_38 (fun w => by have := reg_n d w; rw [xd] at this; exact this)
  · skip
    rcases xn : (n == 0)
    · have hk : ok_38 d n m a c i = false := by
        simp [ok_38, xn]
      rw [hk]
      exact rck_n 38 d n m a c i false false false false false false w (by decide) (by decide) rfields_38 (fun w => by have := reg_n d w; rw [xd] at this; exact this) (fun w => by have := reg_n n w; rw [xn] at this; exact this)
    · skip
      rcases xm : (m == 0)
      · have hk : ok_38 d n m a c i = false := by
          simp [ok_38, xm]
        rw [hk]
        exact rck_m 38 d n m a c i false false false false false false w (by decide) (by decide) rfields_38 (fun w => by have := reg_n d w; rw [xd] at this; exact this) (fun w => by have := reg_n n w; rw [xn] at this; exact this) (fun w => by have := reg_n m w; rw [xm] at this; exact this)
      · skip
        rcases xa : (a == 0)
        · have hk : ok_38 d n m a c i = false := by
            simp [ok_38, xa]
          rw [hk]
          exact rck_a 38 d n m a c i false false false false false false w (by decide) (by decide) rfields_38 (fun w => by have := reg_n d w; rw [xd] at this; exact this) (fun w => by have := reg_n n w; rw [xn] at this; exact this) (fun w => by have := reg_n m w; rw [xm] at this; exact this) (fun w => by have := reg_n a w; rw [xa] at this; exact this)
        · skip
          rcases xi : ((i == 0))
          · have hk : ok_38 d n m a c i = false := by
              simp [ok_38, xi]
            rw [hk]
            exact rck_i 38 d n m a c i false false false false false false w (by decide) (by decide) rfields_38 (fun w => by have := reg_n d w; rw [xd] at this; exact this) (fun w => by have := reg_n n w; rw [xn] at this; exact this) (fun w => by have := reg_n m w; rw [xm] at this; exact this) (fun w => by have := reg_n a w; rw [xa] at this; exact this) (fun w => by have := rimm_38 d n m a c i w; rw [xi] at this; exact this)
          · skip
            have Hxd := Lib.hid (fun w => (by have := reg_n d w; rw [xd] at this; exact this) : ∀ w, Calls Try.prog 168 #[.bool false, .int .i64 d] w fun e w' => e = .returned (.bool true) ∧ w' = w)
            have Hxn := Lib.hid (fun w => (by have := reg_n n w; rw [xn] at this; exact this) : ∀ w, Calls Try.prog 168 #[.bool false, .int .i64 n] w fun e w' => e = .returned (.bool true) ∧ w' = w)
            have Hxm := Lib.hid (fun w => (by have := reg_n m w; rw [xm] at this; exact this) : ∀ w, Calls Try.prog 168 #[.bool false, .int .i64 m] w fun e w' => e = .returned (.bool true) ∧ w' = w)
            have Hxa := Lib.hid (fun w => (by have := reg_n a w; rw [xa] at this; exact this) : ∀ w, Calls Try.prog 168 #[.bool false, .int .i64 a] w fun e w' => e = .returned (.bool true) ∧ w' = w)
            have Hxi := Lib.hid (fun w => (by have := rimm_38 d n m a c i w; rw [xi] at this; exact this) : ∀ w, Calls Try.prog 169 #[.agg #[.int .i64 38, .int .i64 d, .int .i64 n, .int .i64 m, .int .i64 a, .int .i64 c, .int .i64 i]] w fun e w' => e = .returned (.bool true) ∧ Below w.heap.size w w')
            have hk : ok_38 d n m a c i = (c == 0) := by simp [ok_38, xd, xn, xm, xa, xi]
            have HK := Lib.hid hk
            clear hk xd xn xm xa xi
            go_enter Try.func83, Try.ntmps83
            go_wp2_with (first | (go_at_call 167; refine (rfields_38 _).mono ?_; rintro e w' ⟨rfl, rfl⟩) | (go_at_call 168; (with_reducible refine (Hxd.out _).mono ?_); rintro e w' ⟨rfl, rfl⟩) | (go_at_call 168; (with_reducible refine (Hxn.out _).mono ?_); rintro e w' ⟨rfl, rfl⟩) | (go_at_call 168; (with_reducible refine (Hxm.out _).mono ?_); rintro e w' ⟨rfl, rfl⟩) | (go_at_call 168; (with_reducible refine (Hxa.out _).mono ?_); rintro e w' ⟨rfl, rfl⟩) | (go_at_call 169; refine (Hxi.out _).mono ?_; rintro e w2 ⟨rfl, hb2⟩; have HB2 := Lib.hid (((Below.refl _ _).alloc (Nat.le_refl _) _).trans (hb2.mono (by simp)) : Below w.heap.size w w2); have HI2 := Lib.hid ((InsC.new w (.int .i64 38) (.int .i64 d) (.int .i64 n) (.int .i64 m) (.int .i64 a) (.int .i64 c) (.int .i64 i)).below' hb2 rfl); obtain ⟨hl, i0, i1, i2, i3, i4, i5, i6⟩ := HI2.out; clear hb2))
            all_goals
              go_ret
              exact ⟨ret_er (by rw [HK.out]; first | rfl | (simp [er]; omega) | (simp [er, *]; done) | (simp_all [er]; omega)), HB2.out⟩
set_option maxRecDepth 100000 in
set_option maxHeartbeats 2000000 in
theorem rcheck_42 (d n m a c i : Int) (w : World) : Calls Try.prog 83 #[.agg #[.int .i64 42, .int .i64 d, .int .i64 n, .int .i64 m, .int .i64 a, .int .i64 c, .int .i64 i]] w fun e w' => e = .returned (.int .i64 (er (ok_42 d n m a c i))) ∧ Below w.heap.size w w' := by
  rcases xd : (d == 0)
  · have hk : ok_42 d n m a c i = false := by
      simp [ok_42, xd]
    rw [hk]
    exact rck_d 42 d n m a c i false false false false false true w (by decide) (by decide) rfields_42 (fun w => by have := reg_n d w; rw [xd] at this; exact this)
  · skip
    rcases xn : (n == 0)
    · have hk : ok_42 d n m a c i = false := by
        simp [ok_42, xn]
      rw [hk]
      exact rck_n 42 d n m a c i false false false false false true w (by decide) (by decide) rfields_42 (fun w => by have := reg_n d w; rw [xd] at this; exact this) (fun w => by have := reg_n n w; rw [xn] at this; exact this)
    · skip
      rcases xm : (m == 0)
      · have hk : ok_42 d n m a c i = false := by
          simp [ok_42, xm]
        rw [hk]
        exact rck_m 42 d n m a c i false false false false false true w (by decide) (by decide) rfields_42 (fun w => by have := reg_n d w; rw [xd] at this; exact this) (fun w => by have := reg_n n w; rw [xn] at this; exact this) (fun w => by have := reg_n m w; rw [xm] at this; exact this)
      · skip
        rcases xa : (a == 0)
        · have hk : ok_42 d n m a c i = false := by
            simp [ok_42, xa]
          rw [hk]
          exact rck_a 42 d n m a c i false false false false false true w (by decide) (by decide) rfields_42 (fun w => by have := reg_n d w; rw [xd] at this; exact this) (fun w => by have := reg_n n w; rw [xn] at this; exact this) (fun w => by have := reg_n m w; rw [xm] at this; exact this) (fun w => by have := reg_n a w; rw [xa] at this; exact this)
        · skip
          rcases xi : ((wi i 0 65535))
          · have hk : ok_42 d n m a c i = false := by
              simp [ok_42, xi]
            rw [hk]
            exact rck_i 42 d n m a c i false false false false false true w (by decide) (by decide) rfields_42 (fun w => by have := reg_n d w; rw [xd] at this; exact this) (fun w => by have := reg_n n w; rw [xn] at this; exact this) (fun w => by have := reg_n m w; rw [xm] at this; exact this) (fun w => by have := reg_n a w; rw [xa] at this; exact this) (fun w => by have := rimm_42 d n m a c i w; rw [xi] at this; exact this)
          · skip
            have Hxd := Lib.hid (fun w => (by have := reg_n d w; rw [xd] at this; exact this) : ∀ w, Calls Try.prog 168 #[.bool false, .int .i64 d] w fun e w' => e = .returned (.bool true) ∧ w' = w)
            have Hxn := Lib.hid (fun w => (by have := reg_n n w; rw [xn] at this; exact this) : ∀ w, Calls Try.prog 168 #[.bool false, .int .i64 n] w fun e w' => e = .returned (.bool true) ∧ w' = w)
            have Hxm := Lib.hid (fun w => (by have := reg_n m w; rw [xm] at this; exact this) : ∀ w, Calls Try.prog 168 #[.bool false, .int .i64 m] w fun e w' => e = .returned (.bool true) ∧ w' = w)
            have Hxa := Lib.hid (fun w => (by have := reg_n a w; rw [xa] at this; exact this) : ∀ w, Calls Try.prog 168 #[.bool false, .int .i64 a] w fun e w' => e = .returned (.bool true) ∧ w' = w)
            have Hxi := Lib.hid (fun w => (by have := rimm_42 d n m a c i w; rw [xi] at this; exact this) : ∀ w, Calls Try.prog 169 #[.agg #[.int .i64 42, .int .i64 d, .int .i64 n, .int .i64 m, .int .i64 a, .int .i64 c, .int .i64 i]] w fun e w' => e = .returned (.bool true) ∧ Below w.heap.size w w')
            have hk : ok_42 d n m a c i = (c == 0) := by simp [ok_42, xd, xn, xm, xa, xi]
            have HK := Lib.hid hk
            clear hk xd xn xm xa xi
            go_enter Try.func83, Try.ntmps83
            go_wp2_with (first | (go_at_call 167; refine (rfields_42 _).mono ?_; rintro e w' ⟨rfl, rfl⟩) | (go_at_call 168; (with_reducible refine (Hxd.out _).mono ?_); rintro e w' ⟨rfl, rfl⟩) | (go_at_call 168; (with_reducible refine (Hxn.out _).mono ?_); rintro e w' ⟨rfl, rfl⟩) | (go_at_call 168; (with_reducible refine (Hxm.out _).mono ?_); rintro e w' ⟨rfl, rfl⟩) | (go_at_call 168; (with_reducible refine (Hxa.out _).mono ?_); rintro e w' ⟨rfl, rfl⟩) | (go_at_call 169; refine (Hxi.out _).mono ?_; rintro e w2 ⟨rfl, hb2⟩; have HB2 := Lib.hid (((Below.refl _ _).alloc (Nat.le_refl _) _).trans (hb2.mono (by simp)) : Below w.heap.size w w2); have HI2 := Lib.hid ((InsC.new w (.int .i64 42) (.int .i64 d) (.int .i64 n) (.int .i64 m) (.int .i64 a) (.int .i64 c) (.int .i64 i)).below' hb2 rfl); obtain ⟨hl, i0, i1, i2, i3, i4, i5, i6⟩ := HI2.out; clear hb2))
            all_goals
              go_ret
              exact ⟨ret_er (by rw [HK.out]; first | rfl | (simp [er]; omega) | (simp [er, *]; done) | (simp_all [er]; omega)), HB2.out⟩
end Go.Proofs.Ytnbpgoacooddjaa.En
