import Derived.Test.YtpjfjdncdiemlaaSfM
import Derived.Test.YtpjfjdncdiemlaaSfE0
import Derived.Test.YtpjfjdncdiemlaaSfE1
import Derived.Test.YtpjfjdncdiemlaaSfE2
import Derived.Test.YtpjfjdncdiemlaaSfG
import Derived.Test.YtpjfjdncdiemlaaSfH
import Derived.Test.YtpjfjdncdiemlaaSxL
import Derived.Test.YtpjfjdncdiemlaaFCkA
import Derived.Test.YtpjfjdncdiemlaaFCkB
import Derived.Test.YtpjfjdncdiemlaaFCkC
import Derived.Test.YtpjfjdncdiemlaaFCkD
import Derived.Test.YtpjfjdncdiemlaaFCkE
import Derived.Test.YtpjfjdncdiemlaaFCkP
import Derived.Test.YtpjfjdncdiemlaaFIoA
namespace Go.Proofs.Ytpjfjdncdiemlaa
open Go.ChangeShapes Go.WideShapes Go.ChangeAt Go.RowKit
open Fr (puts mem_puts)
set_option linter.unusedVariables false
theorem wi_t (v lo hi : Int) : Fr.wi v lo hi = true ↔ lo ≤ v ∧ v ≤ hi := by unfold Fr.wi; exact decide_eq_true_iff
theorem spOr_eq (n : Int) : Fr.spOr n = spR n := rfl
theorem spR_lo (n : Int) (h : 0 ≤ n) : 0 ≤ spR n := by unfold spR; split <;> omega
theorem spR_hi (n : Int) (h : n ≤ 31) : spR n ≤ 32 := by unfold spR; split <;> omega
theorem wrap_lo (i : Int) : 0 ≤ IntKind.u64.wrap i := by rw [IntKind.wrap_u64]; omega
theorem wrap_hi (i : Int) : IntKind.u64.wrap i < 18446744073709551616 := by rw [IntKind.wrap_u64]; omega
theorem ck0 {o d n m a c i : Int} {b : Bool} (h : ∀ w, Calls Try.prog 17 #[.agg #[.int .i64 o, .int .i64 d, .int .i64 n, .int .i64 m, .int .i64 a, .int .i64 c, .int .i64 i]] w fun e w' => e = .returned (.int .i64 (Fr.er b)) ∧ Below w.heap.size w w') (hb : b = true) :
    ∀ w, Calls Try.prog 17 #[.agg #[.int .i64 o, .int .i64 d, .int .i64 n, .int .i64 m, .int .i64 a, .int .i64 c, .int .i64 i]] w fun e w' => e = .returned (.int .i64 0) ∧ Below w.heap.size w w' := by
  subst hb
  exact h
def FramesOf (o d n m a c i : Int) (I T : List Int) (touch : Bool) (pc : Int) (r o' : Rg) : Prop :=
  ∃ (ra rb : Rg) (nx ad da : Int) (to : Bool),
    (∀ w, Calls Try.prog 20 #[.agg #[.int .i64 o, .int .i64 d, .int .i64 n, .int .i64 m, .int .i64 a, .int .i64 c, .int .i64 i], .int .u64 pc, .agg r.arr] w fun e w' => e = .returned (.agg (efA ra nx ad da to)) ∧ Below w.heap.size w w') ∧
    (∀ w, Calls Try.prog 20 #[.agg #[.int .i64 o, .int .i64 d, .int .i64 n, .int .i64 m, .int .i64 a, .int .i64 c, .int .i64 i], .int .u64 pc, .agg (mrg (puts I) r o').arr] w fun e w' => e = .returned (.agg (efA rb nx ad da to)) ∧ Below w.heap.size w w') ∧
    FrameOK T touch r ra rb
theorem fr_0 (d n m a c i pc : Int) (r o' : Rg) (hr : r.within) (ho : o'.within) (hok : Fr.ok_0 d n m a c i = true) : FramesOf 0 d n m a c i [] [] false pc r o' := by
  have hck := ck0 (Fr.check_0 d n m a c i) hok
  have hM := mrg_within (puts []) hr ho
  unfold FramesOf
  generalize mrg (puts []) r o' = M at *
  exact ⟨_, _, _, _, _, _, (fun w => do_nil 0 d n m a c i pc r w hck doing_0), (fun w => do_nil 0 d n m a c i pc M w hck doing_0), frame_nil r M⟩
theorem fr_1 (d n m a c i pc : Int) (r o' : Rg) (hr : r.within) (ho : o'.within) (hok : Fr.ok_1 d n m a c i = true) : FramesOf 1 d n m a c i [] [] false pc r o' := by
  have hck := ck0 (Fr.check_1 d n m a c i) hok
  have hM := mrg_within (puts []) hr ho
  unfold FramesOf
  generalize mrg (puts []) r o' = M at *
  exact ⟨_, _, _, _, _, _, (fun w => do_nil 1 d n m a c i pc r w hck doing_1), (fun w => do_nil 1 d n m a c i pc M w hck doing_1), frame_nil r M⟩
theorem fr_2 (d n m a c i pc : Int) (r o' : Rg) (hr : r.within) (ho : o'.within) (hok : Fr.ok_2 d n m a c i = true) : FramesOf 2 d n m a c i [] [d] false pc r o' := by
  have hck := ck0 (Fr.check_2 d n m a c i) hok
  simp only [Fr.ok_2, Bool.and_eq_true, wi_t] at hok
  have hM := mrg_within (puts []) hr ho
  unfold FramesOf
  generalize mrg (puts []) r o' = M at *
  obtain rfl | rfl | rfl | rfl : m = 0 ∨ m = 1 ∨ m = 2 ∨ m = 3 := by omega
  · have h1 := fun w => moved_0 2 d n a c i pc r w (by omega) (by omega)
    have h2 := fun w => moved_0 2 d n a c i pc M w (by omega) (by omega)
    exact ⟨_, _, _, _, _, _, (fun w => do_rs78 2 d n 0 a c i pc d _ r w hck doing_2 (fun w => target_n 2 d n 0 a c i pc r w rfl rfl) h1), (fun w => do_rs78 2 d n 0 a c i pc d _ M w hck doing_2 (fun w => target_n 2 d n 0 a c i pc M w rfl rfl) h2), frame_set r M d _ (by omega) (by omega)⟩
  · have h1 := fun w => moved_1 2 d n a c i pc r w (by omega) (by omega)
    have h2 := fun w => moved_1 2 d n a c i pc M w (by omega) (by omega)
    exact ⟨_, _, _, _, _, _, (fun w => do_rs78 2 d n 1 a c i pc d _ r w hck doing_2 (fun w => target_n 2 d n 1 a c i pc r w rfl rfl) h1), (fun w => do_rs78 2 d n 1 a c i pc d _ M w hck doing_2 (fun w => target_n 2 d n 1 a c i pc M w rfl rfl) h2), frame_set r M d _ (by omega) (by omega)⟩
  · have h1 := fun w => moved_2 2 d n a c i pc r w (by omega) (by omega)
    have h2 := fun w => moved_2 2 d n a c i pc M w (by omega) (by omega)
    exact ⟨_, _, _, _, _, _, (fun w => do_rs78 2 d n 2 a c i pc d _ r w hck doing_2 (fun w => target_n 2 d n 2 a c i pc r w rfl rfl) h1), (fun w => do_rs78 2 d n 2 a c i pc d _ M w hck doing_2 (fun w => target_n 2 d n 2 a c i pc M w rfl rfl) h2), frame_set r M d _ (by omega) (by omega)⟩
  · have h1 := fun w => moved_3 2 d n a c i pc r w (by omega) (by omega)
    have h2 := fun w => moved_3 2 d n a c i pc M w (by omega) (by omega)
    exact ⟨_, _, _, _, _, _, (fun w => do_rs78 2 d n 3 a c i pc d _ r w hck doing_2 (fun w => target_n 2 d n 3 a c i pc r w rfl rfl) h1), (fun w => do_rs78 2 d n 3 a c i pc d _ M w hck doing_2 (fun w => target_n 2 d n 3 a c i pc M w rfl rfl) h2), frame_set r M d _ (by omega) (by omega)⟩
theorem fr_3 (d n m a c i pc : Int) (r o' : Rg) (hr : r.within) (ho : o'.within) (hok : Fr.ok_3 d n m a c i = true) : FramesOf 3 d n m a c i [d] [d] false pc r o' := by
  have hck := ck0 (Fr.check_3 d n m a c i) hok
  simp only [Fr.ok_3, Bool.and_eq_true, wi_t] at hok
  have e0 := mrg_get [d] r o' (d) (by simp)
  have hM := mrg_within (puts [d]) hr ho
  unfold FramesOf
  generalize mrg (puts [d]) r o' = M at *
  obtain rfl | rfl | rfl | rfl : m = 0 ∨ m = 1 ∨ m = 2 ∨ m = 3 := by omega
  · have h1 := fun w => keptg_0 3 d n a c i pc r w (by omega) (by omega)
    have h2 := fun w => keptg_0 3 d n a c i pc M w (by omega) (by omega)
    rw [e0] at h2
    exact ⟨_, _, _, _, _, _, (fun w => do_rs79 3 d n 0 a c i pc d _ r w hck doing_3 (fun w => target_n 3 d n 0 a c i pc r w rfl rfl) h1), (fun w => do_rs79 3 d n 0 a c i pc d _ M w hck doing_3 (fun w => target_n 3 d n 0 a c i pc M w rfl rfl) h2), frame_set r M d _ (by omega) (by omega)⟩
  · have h1 := fun w => keptg_1 3 d n a c i pc r w (by omega) (by omega)
    have h2 := fun w => keptg_1 3 d n a c i pc M w (by omega) (by omega)
    rw [e0] at h2
    exact ⟨_, _, _, _, _, _, (fun w => do_rs79 3 d n 1 a c i pc d _ r w hck doing_3 (fun w => target_n 3 d n 1 a c i pc r w rfl rfl) h1), (fun w => do_rs79 3 d n 1 a c i pc d _ M w hck doing_3 (fun w => target_n 3 d n 1 a c i pc M w rfl rfl) h2), frame_set r M d _ (by omega) (by omega)⟩
  · have h1 := fun w => keptg_2 3 d n a c i pc r w (by omega) (by omega)
    have h2 := fun w => keptg_2 3 d n a c i pc M w (by omega) (by omega)
    rw [e0] at h2
    exact ⟨_, _, _, _, _, _, (fun w => do_rs79 3 d n 2 a c i pc d _ r w hck doing_3 (fun w => target_n 3 d n 2 a c i pc r w rfl rfl) h1), (fun w => do_rs79 3 d n 2 a c i pc d _ M w hck doing_3 (fun w => target_n 3 d n 2 a c i pc M w rfl rfl) h2), frame_set r M d _ (by omega) (by omega)⟩
  · have h1 := fun w => keptg_3 3 d n a c i pc r w (by omega) (by omega)
    have h2 := fun w => keptg_3 3 d n a c i pc M w (by omega) (by omega)
    rw [e0] at h2
    exact ⟨_, _, _, _, _, _, (fun w => do_rs79 3 d n 3 a c i pc d _ r w hck doing_3 (fun w => target_n 3 d n 3 a c i pc r w rfl rfl) h1), (fun w => do_rs79 3 d n 3 a c i pc d _ M w hck doing_3 (fun w => target_n 3 d n 3 a c i pc M w rfl rfl) h2), frame_set r M d _ (by omega) (by omega)⟩
theorem fr_4 (d n m a c i pc : Int) (r o' : Rg) (hr : r.within) (ho : o'.within) (hok : Fr.ok_4 d n m a c i = true) : FramesOf 4 d n m a c i [Fr.spOr n] [Fr.spOr d] false pc r o' := by
  have hck := ck0 (Fr.check_4 d n m a c i) hok
  simp only [Fr.ok_4, Bool.and_eq_true, wi_t] at hok
  simp only [spOr_eq] at *
  have e0 := mrg_get [spR n] r o' (spR n) (by simp)
  have hM := mrg_within (puts [spR n]) hr ho
  unfold FramesOf
  generalize mrg (puts [spR n]) r o' = M at *
  have h1 := fun w => addn_g 4 d n m a c i pc _ r w (fun w => first_4 d n m a c i pc r w)
  have h2 := fun w => addn_g 4 d n m a c i pc _ M w (fun w => first_4 d n m a c i pc M w)
  rw [e0] at h2
  exact ⟨_, _, _, _, _, _, (fun w => do_rs65 4 d n m a c i pc (spR d) _ r w hck doing_4 (fun w => target_4 d n m a c i pc r w) h1), (fun w => do_rs65 4 d n m a c i pc (spR d) _ M w hck doing_4 (fun w => target_4 d n m a c i pc M w) h2), frame_set r M (spR d) _ (spR_lo d (by omega)) (spR_hi d (by omega))⟩
theorem fr_5 (d n m a c i pc : Int) (r o' : Rg) (hr : r.within) (ho : o'.within) (hok : Fr.ok_5 d n m a c i = true) : FramesOf 5 d n m a c i [Fr.spOr n] [Fr.spOr d] false pc r o' := by
  have hck := ck0 (Fr.check_5 d n m a c i) hok
  simp only [Fr.ok_5, Bool.and_eq_true, wi_t] at hok
  simp only [spOr_eq] at *
  have e0 := mrg_get [spR n] r o' (spR n) (by simp)
  have hM := mrg_within (puts [spR n]) hr ho
  unfold FramesOf
  generalize mrg (puts [spR n]) r o' = M at *
  have h1 := fun w => subn_g 5 d n m a c i pc _ r w (fun w => first_5 d n m a c i pc r w)
  have h2 := fun w => subn_g 5 d n m a c i pc _ M w (fun w => first_5 d n m a c i pc M w)
  rw [e0] at h2
  exact ⟨_, _, _, _, _, _, (fun w => do_rs80 5 d n m a c i pc (spR d) _ r w hck doing_5 (fun w => target_5 d n m a c i pc r w) h1), (fun w => do_rs80 5 d n m a c i pc (spR d) _ M w hck doing_5 (fun w => target_5 d n m a c i pc M w) h2), frame_set r M (spR d) _ (spR_lo d (by omega)) (spR_hi d (by omega))⟩
theorem fr_6 (d n m a c i pc : Int) (r o' : Rg) (hr : r.within) (ho : o'.within) (hok : Fr.ok_6 d n m a c i = true) : FramesOf 6 d n m a c i [Fr.spOr n] [d, 33] false pc r o' := by
  have hck := ck0 (Fr.check_6 d n m a c i) hok
  simp only [Fr.ok_6, Bool.and_eq_true, wi_t] at hok
  simp only [spOr_eq] at *
  have e0 := mrg_get [spR n] r o' (spR n) (by simp)
  have hM := mrg_within (puts [spR n]) hr ho
  unfold FramesOf
  generalize mrg (puts [spR n]) r o' = M at *
  have f2 := (fun w => first_6 d n m a c i pc M w)
  rw [e0] at f2
  have h1 := fun w => subtract_y 6 d n m a c i pc (IntKind.u64.wrap i) _ r w (fun w => first_6 d n m a c i pc r w) (wrap_lo i) (wrap_hi i) (Rg.within_get hr (spR n)).1 (Rg.within_get hr (spR n)).2
  have h2 := fun w => subtract_y 6 d n m a c i pc (IntKind.u64.wrap i) _ M w f2 (wrap_lo i) (wrap_hi i) (Rg.within_get hr (spR n)).1 (Rg.within_get hr (spR n)).2
  exact ⟨_, _, _, _, _, _, (fun w => do_op58 6 d n m a c i pc _ r _ w hck doing_6 h1 (fun w => number_g 6 d n m a c i pc r w)), (fun w => do_op58 6 d n m a c i pc _ M _ w hck doing_6 h2 (fun w => number_g 6 d n m a c i pc M w)), frame_less r M _ _ d (by omega) (by omega)⟩
theorem fr_7 (d n m a c i pc : Int) (r o' : Rg) (hr : r.within) (ho : o'.within) (hok : Fr.ok_7 d n m a c i = true) : FramesOf 7 d n m a c i [n, m] [d] false pc r o' := by
  have hck := ck0 (Fr.check_7 d n m a c i) hok
  simp only [Fr.ok_7, Bool.and_eq_true, wi_t] at hok
  have e0 := mrg_get [n, m] r o' (n) (by simp)
  have e1 := mrg_get [n, m] r o' (m) (by simp)
  have hM := mrg_within (puts [n, m]) hr ho
  unfold FramesOf
  generalize mrg (puts [n, m]) r o' = M at *
  have h1 := fun w => add_g 7 d n m a c i pc _ r w (fun w => first_n 7 d n m a c i pc r w rfl rfl rfl (by omega))
  have h2 := fun w => add_g 7 d n m a c i pc _ M w (fun w => first_n 7 d n m a c i pc M w rfl rfl rfl (by omega))
  rw [e0, e1] at h2
  exact ⟨_, _, _, _, _, _, (fun w => do_rs81 7 d n m a c i pc (d) _ r w hck doing_7 (fun w => target_n 7 d n m a c i pc r w rfl rfl) h1), (fun w => do_rs81 7 d n m a c i pc (d) _ M w hck doing_7 (fun w => target_n 7 d n m a c i pc M w rfl rfl) h2), frame_set r M (d) _ (by omega) (by omega)⟩
theorem fr_8 (d n m a c i pc : Int) (r o' : Rg) (hr : r.within) (ho : o'.within) (hok : Fr.ok_8 d n m a c i = true) : FramesOf 8 d n m a c i [n, m] [d] false pc r o' := by
  have hck := ck0 (Fr.check_8 d n m a c i) hok
  simp only [Fr.ok_8, Bool.and_eq_true, wi_t] at hok
  have e0 := mrg_get [n, m] r o' (n) (by simp)
  have e1 := mrg_get [n, m] r o' (m) (by simp)
  have hM := mrg_within (puts [n, m]) hr ho
  unfold FramesOf
  generalize mrg (puts [n, m]) r o' = M at *
  have h1 := fun w => sub_g 8 d n m a c i pc _ r w (fun w => first_n 8 d n m a c i pc r w rfl rfl rfl (by omega))
  have h2 := fun w => sub_g 8 d n m a c i pc _ M w (fun w => first_n 8 d n m a c i pc M w rfl rfl rfl (by omega))
  rw [e0, e1] at h2
  exact ⟨_, _, _, _, _, _, (fun w => do_rs82 8 d n m a c i pc (d) _ r w hck doing_8 (fun w => target_n 8 d n m a c i pc r w rfl rfl) h1), (fun w => do_rs82 8 d n m a c i pc (d) _ M w hck doing_8 (fun w => target_n 8 d n m a c i pc M w rfl rfl) h2), frame_set r M (d) _ (by omega) (by omega)⟩
theorem fr_9 (d n m a c i pc : Int) (r o' : Rg) (hr : r.within) (ho : o'.within) (hok : Fr.ok_9 d n m a c i = true) : FramesOf 9 d n m a c i [n, m] [d, 33] false pc r o' := by
  have hck := ck0 (Fr.check_9 d n m a c i) hok
  simp only [Fr.ok_9, Bool.and_eq_true, wi_t] at hok
  have e0 := mrg_get [n, m] r o' (n) (by simp)
  have e1 := mrg_get [n, m] r o' (m) (by simp)
  have hM := mrg_within (puts [n, m]) hr ho
  unfold FramesOf
  generalize mrg (puts [n, m]) r o' = M at *
  have g1 := fun w => second_c 9 d n m a c i pc r w
  have g2 := fun w => second_c 9 d n m a c i pc M w
  rw [e1] at g2
  have f2 := (fun w => first_n 9 d n m a c i pc M w rfl rfl rfl (by omega))
  rw [e0] at f2
  have h1 := fun w => subtract_y 9 d n m a c i pc (r.get m) _ r w (fun w => first_n 9 d n m a c i pc r w rfl rfl rfl (by omega)) (Rg.within_get hr m).1 (Rg.within_get hr m).2 (Rg.within_get hr (n)).1 (Rg.within_get hr (n)).2
  have h2 := fun w => subtract_y 9 d n m a c i pc (r.get m) _ M w f2 (Rg.within_get hr m).1 (Rg.within_get hr m).2 (Rg.within_get hr (n)).1 (Rg.within_get hr (n)).2
  exact ⟨_, _, _, _, _, _, (fun w => do_op59 9 d n m a c i pc _ r _ w hck doing_9 h1 g1), (fun w => do_op59 9 d n m a c i pc _ M _ w hck doing_9 h2 g2), frame_less r M _ _ d (by omega) (by omega)⟩
theorem fr_10 (d n m a c i pc : Int) (r o' : Rg) (hr : r.within) (ho : o'.within) (hok : Fr.ok_10 d n m a c i = true) : FramesOf 10 d n m a c i [n, m] [d] false pc r o' := by
  have hck := ck0 (Fr.check_10 d n m a c i) hok
  simp only [Fr.ok_10, Bool.and_eq_true, wi_t] at hok
  have e0 := mrg_get [n, m] r o' (n) (by simp)
  have e1 := mrg_get [n, m] r o' (m) (by simp)
  have hM := mrg_within (puts [n, m]) hr ho
  unfold FramesOf
  generalize mrg (puts [n, m]) r o' = M at *
  have h1 := fun w => and_g 10 d n m a c i pc _ r w (fun w => first_n 10 d n m a c i pc r w rfl rfl rfl (by omega))
  have h2 := fun w => and_g 10 d n m a c i pc _ M w (fun w => first_n 10 d n m a c i pc M w rfl rfl rfl (by omega))
  rw [e0, e1] at h2
  exact ⟨_, _, _, _, _, _, (fun w => do_rs83 10 d n m a c i pc (d) _ r w hck doing_10 (fun w => target_n 10 d n m a c i pc r w rfl rfl) h1), (fun w => do_rs83 10 d n m a c i pc (d) _ M w hck doing_10 (fun w => target_n 10 d n m a c i pc M w rfl rfl) h2), frame_set r M (d) _ (by omega) (by omega)⟩
theorem fr_11 (d n m a c i pc : Int) (r o' : Rg) (hr : r.within) (ho : o'.within) (hok : Fr.ok_11 d n m a c i = true) : FramesOf 11 d n m a c i [n, m] [d] false pc r o' := by
  have hck := ck0 (Fr.check_11 d n m a c i) hok
  simp only [Fr.ok_11, Bool.and_eq_true, wi_t] at hok
  have e0 := mrg_get [n, m] r o' (n) (by simp)
  have e1 := mrg_get [n, m] r o' (m) (by simp)
  have hM := mrg_within (puts [n, m]) hr ho
  unfold FramesOf
  generalize mrg (puts [n, m]) r o' = M at *
  have h1 := fun w => or_g 11 d n m a c i pc _ r w (fun w => first_n 11 d n m a c i pc r w rfl rfl rfl (by omega))
  have h2 := fun w => or_g 11 d n m a c i pc _ M w (fun w => first_n 11 d n m a c i pc M w rfl rfl rfl (by omega))
  rw [e0, e1] at h2
  exact ⟨_, _, _, _, _, _, (fun w => do_rs84 11 d n m a c i pc (d) _ r w hck doing_11 (fun w => target_n 11 d n m a c i pc r w rfl rfl) h1), (fun w => do_rs84 11 d n m a c i pc (d) _ M w hck doing_11 (fun w => target_n 11 d n m a c i pc M w rfl rfl) h2), frame_set r M (d) _ (by omega) (by omega)⟩
theorem fr_12 (d n m a c i pc : Int) (r o' : Rg) (hr : r.within) (ho : o'.within) (hok : Fr.ok_12 d n m a c i = true) : FramesOf 12 d n m a c i [n, m] [d] false pc r o' := by
  have hck := ck0 (Fr.check_12 d n m a c i) hok
  simp only [Fr.ok_12, Bool.and_eq_true, wi_t] at hok
  have e0 := mrg_get [n, m] r o' (n) (by simp)
  have e1 := mrg_get [n, m] r o' (m) (by simp)
  have hM := mrg_within (puts [n, m]) hr ho
  unfold FramesOf
  generalize mrg (puts [n, m]) r o' = M at *
  have h1 := fun w => xor_g 12 d n m a c i pc _ r w (fun w => first_n 12 d n m a c i pc r w rfl rfl rfl (by omega))
  have h2 := fun w => xor_g 12 d n m a c i pc _ M w (fun w => first_n 12 d n m a c i pc M w rfl rfl rfl (by omega))
  rw [e0, e1] at h2
  exact ⟨_, _, _, _, _, _, (fun w => do_rs85 12 d n m a c i pc (d) _ r w hck doing_12 (fun w => target_n 12 d n m a c i pc r w rfl rfl) h1), (fun w => do_rs85 12 d n m a c i pc (d) _ M w hck doing_12 (fun w => target_n 12 d n m a c i pc M w rfl rfl) h2), frame_set r M (d) _ (by omega) (by omega)⟩
theorem fr_13 (d n m a c i pc : Int) (r o' : Rg) (hr : r.within) (ho : o'.within) (hok : Fr.ok_13 d n m a c i = true) : FramesOf 13 d n m a c i [n, m, a] [d] false pc r o' := by
  have hck := ck0 (Fr.check_13 d n m a c i) hok
  simp only [Fr.ok_13, Bool.and_eq_true, wi_t] at hok
  have e0 := mrg_get [n, m, a] r o' (n) (by simp)
  have e1 := mrg_get [n, m, a] r o' (m) (by simp)
  have e2 := mrg_get [n, m, a] r o' (a) (by simp)
  have hM := mrg_within (puts [n, m, a]) hr ho
  unfold FramesOf
  generalize mrg (puts [n, m, a]) r o' = M at *
  have h1 := fun w => madd_g 13 d n m a c i pc _ r w (fun w => first_n 13 d n m a c i pc r w rfl rfl rfl (by omega))
  have h2 := fun w => madd_g 13 d n m a c i pc _ M w (fun w => first_n 13 d n m a c i pc M w rfl rfl rfl (by omega))
  rw [e0, e1, e2] at h2
  exact ⟨_, _, _, _, _, _, (fun w => do_rs86 13 d n m a c i pc (d) _ r w hck doing_13 (fun w => target_n 13 d n m a c i pc r w rfl rfl) h1), (fun w => do_rs86 13 d n m a c i pc (d) _ M w hck doing_13 (fun w => target_n 13 d n m a c i pc M w rfl rfl) h2), frame_set r M (d) _ (by omega) (by omega)⟩
theorem fr_14 (d n m a c i pc : Int) (r o' : Rg) (hr : r.within) (ho : o'.within) (hok : Fr.ok_14 d n m a c i = true) : FramesOf 14 d n m a c i [n, m, a] [d] false pc r o' := by
  have hck := ck0 (Fr.check_14 d n m a c i) hok
  simp only [Fr.ok_14, Bool.and_eq_true, wi_t] at hok
  have e0 := mrg_get [n, m, a] r o' (n) (by simp)
  have e1 := mrg_get [n, m, a] r o' (m) (by simp)
  have e2 := mrg_get [n, m, a] r o' (a) (by simp)
  have hM := mrg_within (puts [n, m, a]) hr ho
  unfold FramesOf
  generalize mrg (puts [n, m, a]) r o' = M at *
  have h1 := fun w => msub_g 14 d n m a c i pc _ r w (fun w => first_n 14 d n m a c i pc r w rfl rfl rfl (by omega))
  have h2 := fun w => msub_g 14 d n m a c i pc _ M w (fun w => first_n 14 d n m a c i pc M w rfl rfl rfl (by omega))
  rw [e0, e1, e2] at h2
  exact ⟨_, _, _, _, _, _, (fun w => do_rs87 14 d n m a c i pc (d) _ r w hck doing_14 (fun w => target_n 14 d n m a c i pc r w rfl rfl) h1), (fun w => do_rs87 14 d n m a c i pc (d) _ M w hck doing_14 (fun w => target_n 14 d n m a c i pc M w rfl rfl) h2), frame_set r M (d) _ (by omega) (by omega)⟩
theorem fr_15 (d n m a c i pc : Int) (r o' : Rg) (hr : r.within) (ho : o'.within) (hok : Fr.ok_15 d n m a c i = true) : FramesOf 15 d n m a c i [n, m] [d] false pc r o' := by
  have hck := ck0 (Fr.check_15 d n m a c i) hok
  simp only [Fr.ok_15, Bool.and_eq_true, wi_t] at hok
  have e0 := mrg_get [n, m] r o' (n) (by simp)
  have e1 := mrg_get [n, m] r o' (m) (by simp)
  have hM := mrg_within (puts [n, m]) hr ho
  unfold FramesOf
  generalize mrg (puts [n, m]) r o' = M at *
  have h1 := fun w => divide_g 15 d n m a c i pc _ r w (fun w => first_n 15 d n m a c i pc r w rfl rfl rfl (by omega))
  have h2 := fun w => divide_g 15 d n m a c i pc _ M w (fun w => first_n 15 d n m a c i pc M w rfl rfl rfl (by omega))
  rw [e0, e1] at h2
  exact ⟨_, _, _, _, _, _, (fun w => do_rs88 15 d n m a c i pc (d) _ r w hck doing_15 (fun w => target_n 15 d n m a c i pc r w rfl rfl) h1), (fun w => do_rs88 15 d n m a c i pc (d) _ M w hck doing_15 (fun w => target_n 15 d n m a c i pc M w rfl rfl) h2), frame_set r M (d) _ (by omega) (by omega)⟩
theorem fr_16 (d n m a c i pc : Int) (r o' : Rg) (hr : r.within) (ho : o'.within) (hok : Fr.ok_16 d n m a c i = true) : FramesOf 16 d n m a c i [n, m] [d] false pc r o' := by
  have hck := ck0 (Fr.check_16 d n m a c i) hok
  simp only [Fr.ok_16, Bool.and_eq_true, wi_t] at hok
  have e0 := mrg_get [n, m] r o' (n) (by simp)
  have e1 := mrg_get [n, m] r o' (m) (by simp)
  have hM := mrg_within (puts [n, m]) hr ho
  unfold FramesOf
  generalize mrg (puts [n, m]) r o' = M at *
  have h1 := fun w => shift_g16 d n m a c i pc _ r w (Rg.within_get hr m).1 (Rg.within_get hr m).2 (fun w => first_n 16 d n m a c i pc r w rfl rfl rfl (by omega))
  have h2 := fun w => shift_g16 d n m a c i pc _ M w (Rg.within_get hM m).1 (Rg.within_get hM m).2 (fun w => first_n 16 d n m a c i pc M w rfl rfl rfl (by omega))
  rw [e0, e1] at h2
  exact ⟨_, _, _, _, _, _, (fun w => do_rs89 16 d n m a c i pc (d) _ r w hck doing_16 (fun w => target_n 16 d n m a c i pc r w rfl rfl) h1), (fun w => do_rs89 16 d n m a c i pc (d) _ M w hck doing_16 (fun w => target_n 16 d n m a c i pc M w rfl rfl) h2), frame_set r M (d) _ (by omega) (by omega)⟩
theorem fr_17 (d n m a c i pc : Int) (r o' : Rg) (hr : r.within) (ho : o'.within) (hok : Fr.ok_17 d n m a c i = true) : FramesOf 17 d n m a c i [n, m] [d] false pc r o' := by
  have hck := ck0 (Fr.check_17 d n m a c i) hok
  simp only [Fr.ok_17, Bool.and_eq_true, wi_t] at hok
  have e0 := mrg_get [n, m] r o' (n) (by simp)
  have e1 := mrg_get [n, m] r o' (m) (by simp)
  have hM := mrg_within (puts [n, m]) hr ho
  unfold FramesOf
  generalize mrg (puts [n, m]) r o' = M at *
  have h1 := fun w => shift_g17 d n m a c i pc _ r w (Rg.within_get hr m).1 (Rg.within_get hr m).2 (fun w => first_n 17 d n m a c i pc r w rfl rfl rfl (by omega))
  have h2 := fun w => shift_g17 d n m a c i pc _ M w (Rg.within_get hM m).1 (Rg.within_get hM m).2 (fun w => first_n 17 d n m a c i pc M w rfl rfl rfl (by omega))
  rw [e0, e1] at h2
  exact ⟨_, _, _, _, _, _, (fun w => do_rs89 17 d n m a c i pc (d) _ r w hck doing_17 (fun w => target_n 17 d n m a c i pc r w rfl rfl) h1), (fun w => do_rs89 17 d n m a c i pc (d) _ M w hck doing_17 (fun w => target_n 17 d n m a c i pc M w rfl rfl) h2), frame_set r M (d) _ (by omega) (by omega)⟩
theorem fr_18 (d n m a c i pc : Int) (r o' : Rg) (hr : r.within) (ho : o'.within) (hok : Fr.ok_18 d n m a c i = true) : FramesOf 18 d n m a c i [n, m] [d] false pc r o' := by
  have hck := ck0 (Fr.check_18 d n m a c i) hok
  simp only [Fr.ok_18, Bool.and_eq_true, wi_t] at hok
  have e0 := mrg_get [n, m] r o' (n) (by simp)
  have e1 := mrg_get [n, m] r o' (m) (by simp)
  have hM := mrg_within (puts [n, m]) hr ho
  unfold FramesOf
  generalize mrg (puts [n, m]) r o' = M at *
  have h1 := fun w => shift_g18 d n m a c i pc _ r w (Rg.within_get hr m).1 (Rg.within_get hr m).2 (fun w => first_n 18 d n m a c i pc r w rfl rfl rfl (by omega))
  have h2 := fun w => shift_g18 d n m a c i pc _ M w (Rg.within_get hM m).1 (Rg.within_get hM m).2 (fun w => first_n 18 d n m a c i pc M w rfl rfl rfl (by omega))
  rw [e0, e1] at h2
  exact ⟨_, _, _, _, _, _, (fun w => do_rs89 18 d n m a c i pc (d) _ r w hck doing_18 (fun w => target_n 18 d n m a c i pc r w rfl rfl) h1), (fun w => do_rs89 18 d n m a c i pc (d) _ M w hck doing_18 (fun w => target_n 18 d n m a c i pc M w rfl rfl) h2), frame_set r M (d) _ (by omega) (by omega)⟩
theorem fr_19 (d n m a c i pc : Int) (r o' : Rg) (hr : r.within) (ho : o'.within) (hok : Fr.ok_19 d n m a c i = true) : FramesOf 19 d n m a c i [n, m, 33] [d] false pc r o' := by
  have hck := ck0 (Fr.check_19 d n m a c i) hok
  simp only [Fr.ok_19, Bool.and_eq_true, wi_t] at hok
  have e0 := mrg_get [n, m, 33] r o' (n) (by simp)
  have e1 := mrg_get [n, m, 33] r o' (m) (by simp)
  have hh := mrg_hold [n, m, 33] r o' (by simp) c
  have hM := mrg_within (puts [n, m, 33]) hr ho
  unfold FramesOf
  generalize mrg (puts [n, m, 33]) r o' = M at *
  have h1 := fun w => choose_c d n m a c i pc r w (r.hold c) rfl
  have h2 := fun w => choose_c d n m a c i pc M w (r.hold c) hh
  rw [e0, e1] at h2
  exact ⟨_, _, _, _, _, _, (fun w => do_rs90 19 d n m a c i pc (d) _ r w hck doing_19 (fun w => target_n 19 d n m a c i pc r w rfl rfl) h1), (fun w => do_rs90 19 d n m a c i pc (d) _ M w hck doing_19 (fun w => target_n 19 d n m a c i pc M w rfl rfl) h2), frame_set r M (d) _ (by omega) (by omega)⟩
theorem fr_20 (d n m a c i pc : Int) (r o' : Rg) (hr : r.within) (ho : o'.within) (hok : Fr.ok_20 d n m a c i = true) : FramesOf 20 d n m a c i [] [] false pc r o' := by
  have hck := ck0 (Fr.check_20 d n m a c i) hok
  have hM := mrg_within (puts []) hr ho
  unfold FramesOf
  generalize mrg (puts []) r o' = M at *
  have h1 := fun w => far_c 20 d n m a c i pc r w
  have h2 := fun w => far_c 20 d n m a c i pc M w
  exact ⟨_, _, _, _, _, _, (fun w => do_w20 d n m a c i pc _ r w hck doing_20 h1), (fun w => do_w20 d n m a c i pc _ M w hck doing_20 h2), frame_nil r M⟩
theorem fr_21 (d n m a c i pc : Int) (r o' : Rg) (hr : r.within) (ho : o'.within) (hok : Fr.ok_21 d n m a c i = true) : FramesOf 21 d n m a c i [33] [] false pc r o' := by
  have hck := ck0 (Fr.check_21 d n m a c i) hok
  have hh := mrg_hold [33] r o' (by simp) c
  have hM := mrg_within (puts [33]) hr ho
  unfold FramesOf
  generalize mrg (puts [33]) r o' = M at *
  have h1 := fun w => ifholds_c 21 d n m a c i pc r w
  have h2 := fun w => ifholds_c 21 d n m a c i pc M w
  rw [hh] at h2
  exact ⟨_, _, _, _, _, _, (fun w => do_w21 d n m a c i pc _ r w hck doing_21 h1), (fun w => do_w21 d n m a c i pc _ M w hck doing_21 h2), frame_nil r M⟩
theorem fr_22 (d n m a c i pc : Int) (r o' : Rg) (hr : r.within) (ho : o'.within) (hok : Fr.ok_22 d n m a c i = true) : FramesOf 22 d n m a c i [d] [] false pc r o' := by
  have hck := ck0 (Fr.check_22 d n m a c i) hok
  have e0 := mrg_get [d] r o' (d) (by simp)
  have hM := mrg_within (puts [d]) hr ho
  unfold FramesOf
  generalize mrg (puts [d]) r o' = M at *
  have h1 := fun w => ifzero_c 22 d n m a c i pc r w
  have h2 := fun w => ifzero_c 22 d n m a c i pc M w
  rw [e0] at h2
  exact ⟨_, _, _, _, _, _, (fun w => do_w22 d n m a c i pc _ r w hck doing_22 h1), (fun w => do_w22 d n m a c i pc _ M w hck doing_22 h2), frame_nil r M⟩
theorem fr_23 (d n m a c i pc : Int) (r o' : Rg) (hr : r.within) (ho : o'.within) (hok : Fr.ok_23 d n m a c i = true) : FramesOf 23 d n m a c i [d] [] false pc r o' := by
  have hck := ck0 (Fr.check_23 d n m a c i) hok
  have e0 := mrg_get [d] r o' (d) (by simp)
  have hM := mrg_within (puts [d]) hr ho
  unfold FramesOf
  generalize mrg (puts [d]) r o' = M at *
  have h1 := fun w => ifnzero_c 23 d n m a c i pc r w
  have h2 := fun w => ifnzero_c 23 d n m a c i pc M w
  rw [e0] at h2
  exact ⟨_, _, _, _, _, _, (fun w => do_w23 d n m a c i pc _ r w hck doing_23 h1), (fun w => do_w23 d n m a c i pc _ M w hck doing_23 h2), frame_nil r M⟩
theorem fr_24 (d n m a c i pc : Int) (r o' : Rg) (hr : r.within) (ho : o'.within) (hok : Fr.ok_24 d n m a c i = true) : FramesOf 24 d n m a c i [] [30] false pc r o' := by
  have hck := ck0 (Fr.check_24 d n m a c i) hok
  have hM := mrg_within (puts []) hr ho
  unfold FramesOf
  generalize mrg (puts []) r o' = M at *
  have h1 := fun w => far_c 24 d n m a c i pc r w
  have h2 := fun w => far_c 24 d n m a c i pc M w
  exact ⟨_, _, _, _, _, _, (fun w => do_w24 d n m a c i pc _ r w hck doing_24 h1), (fun w => do_w24 d n m a c i pc _ M w hck doing_24 h2), frame_set r M 30 _ (by omega) (by omega)⟩
theorem fr_25 (d n m a c i pc : Int) (r o' : Rg) (hr : r.within) (ho : o'.within) (hok : Fr.ok_25 d n m a c i = true) : FramesOf 25 d n m a c i [n] [] false pc r o' := by
  have hck := ck0 (Fr.check_25 d n m a c i) hok
  have e0 := mrg_get [n] r o' (n) (by simp)
  have hM := mrg_within (puts [n]) hr ho
  unfold FramesOf
  generalize mrg (puts [n]) r o' = M at *
  have h1 := fun w => first_n 25 d n m a c i pc r w rfl rfl rfl (by omega)
  have h2 := fun w => first_n 25 d n m a c i pc M w rfl rfl rfl (by omega)
  rw [e0] at h2
  exact ⟨_, _, _, _, _, _, (fun w => do_w25 d n m a c i pc _ r w hck doing_25 h1), (fun w => do_w25 d n m a c i pc _ M w hck doing_25 h2), frame_nil r M⟩
theorem fr_26 (d n m a c i pc : Int) (r o' : Rg) (hr : r.within) (ho : o'.within) (hok : Fr.ok_26 d n m a c i = true) : FramesOf 26 d n m a c i [n] [30] false pc r o' := by
  have hck := ck0 (Fr.check_26 d n m a c i) hok
  have e0 := mrg_get [n] r o' (n) (by simp)
  have hM := mrg_within (puts [n]) hr ho
  unfold FramesOf
  generalize mrg (puts [n]) r o' = M at *
  have h1 := fun w => first_n 26 d n m a c i pc r w rfl rfl rfl (by omega)
  have h2 := fun w => first_n 26 d n m a c i pc M w rfl rfl rfl (by omega)
  rw [e0] at h2
  exact ⟨_, _, _, _, _, _, (fun w => do_w26 d n m a c i pc _ r w hck doing_26 h1), (fun w => do_w26 d n m a c i pc _ M w hck doing_26 h2), frame_set r M 30 _ (by omega) (by omega)⟩
theorem fr_27 (d n m a c i pc : Int) (r o' : Rg) (hr : r.within) (ho : o'.within) (hok : Fr.ok_27 d n m a c i = true) : FramesOf 27 d n m a c i [n] [] false pc r o' := by
  have hck := ck0 (Fr.check_27 d n m a c i) hok
  have e0 := mrg_get [n] r o' (n) (by simp)
  have hM := mrg_within (puts [n]) hr ho
  unfold FramesOf
  generalize mrg (puts [n]) r o' = M at *
  have h1 := fun w => first_n 27 d n m a c i pc r w rfl rfl rfl (by omega)
  have h2 := fun w => first_n 27 d n m a c i pc M w rfl rfl rfl (by omega)
  rw [e0] at h2
  exact ⟨_, _, _, _, _, _, (fun w => do_w27 d n m a c i pc _ r w hck doing_27 h1), (fun w => do_w27 d n m a c i pc _ M w hck doing_27 h2), frame_nil r M⟩
theorem fr_28 (d n m a c i pc : Int) (r o' : Rg) (hr : r.within) (ho : o'.within) (hok : Fr.ok_28 d n m a c i = true) : FramesOf 28 d n m a c i [Fr.spOr n] [d] true pc r o' := by
  have hck := ck0 (Fr.check_28 d n m a c i) hok
  simp only [Fr.ok_28, Bool.and_eq_true, wi_t] at hok
  simp only [spOr_eq] at *
  have e0 := mrg_get [spR n] r o' (spR n) (by simp)
  have hM := mrg_within (puts [spR n]) hr ho
  unfold FramesOf
  generalize mrg (puts [spR n]) r o' = M at *
  have h1 := fun w => addn_g 28 d n m a c i pc _ r w (fun w => first_m 28 d n m a c i pc r w rfl rfl rfl (by omega) (by omega))
  have h2 := fun w => addn_g 28 d n m a c i pc _ M w (fun w => first_m 28 d n m a c i pc M w rfl rfl rfl (by omega) (by omega))
  rw [e0] at h2
  have s1 := fun w => stored_28 d n m a c i pc r w
  have s2 := fun w => stored_28 d n m a c i pc M w
  exact ⟨_, _, _, _, _, _, (fun w => do_p65 28 d n m a c i pc _ _ r w hck doing_28 h1 s1), (fun w => do_p65 28 d n m a c i pc _ _ M w hck doing_28 h2 s2), frame_touch [d] r M (by simp only [List.mem_singleton]; omega)⟩
theorem fr_29 (d n m a c i pc : Int) (r o' : Rg) (hr : r.within) (ho : o'.within) (hok : Fr.ok_29 d n m a c i = true) : FramesOf 29 d n m a c i [d, Fr.spOr n] [] false pc r o' := by
  have hck := ck0 (Fr.check_29 d n m a c i) hok
  simp only [spOr_eq] at *
  have e0 := mrg_get [d, spR n] r o' (d) (by simp)
  have e1 := mrg_get [d, spR n] r o' (spR n) (by simp)
  have hM := mrg_within (puts [d, spR n]) hr ho
  unfold FramesOf
  generalize mrg (puts [d, spR n]) r o' = M at *
  have h1 := fun w => addn_g 29 d n m a c i pc _ r w (fun w => first_m 29 d n m a c i pc r w rfl rfl rfl (by omega) (by omega))
  have h2 := fun w => addn_g 29 d n m a c i pc _ M w (fun w => first_m 29 d n m a c i pc M w rfl rfl rfl (by omega) (by omega))
  rw [e1] at h2
  have s1 := fun w => stored_29 d n m a c i pc r w
  have s2 := fun w => stored_29 d n m a c i pc M w
  rw [e0] at s2
  exact ⟨_, _, _, _, _, _, (fun w => do_p65 29 d n m a c i pc _ _ r w hck doing_29 h1 s1), (fun w => do_p65 29 d n m a c i pc _ _ M w hck doing_29 h2 s2), frame_nil r M⟩
theorem fr_30 (d n m a c i pc : Int) (r o' : Rg) (hr : r.within) (ho : o'.within) (hok : Fr.ok_30 d n m a c i = true) : FramesOf 30 d n m a c i [Fr.spOr n] [d] true pc r o' := by
  have hck := ck0 (Fr.check_30 d n m a c i) hok
  simp only [Fr.ok_30, Bool.and_eq_true, wi_t] at hok
  simp only [spOr_eq] at *
  have e0 := mrg_get [spR n] r o' (spR n) (by simp)
  have hM := mrg_within (puts [spR n]) hr ho
  unfold FramesOf
  generalize mrg (puts [spR n]) r o' = M at *
  have h1 := fun w => addn_g 30 d n m a c i pc _ r w (fun w => first_m 30 d n m a c i pc r w rfl rfl rfl (by omega) (by omega))
  have h2 := fun w => addn_g 30 d n m a c i pc _ M w (fun w => first_m 30 d n m a c i pc M w rfl rfl rfl (by omega) (by omega))
  rw [e0] at h2
  have s1 := fun w => stored_30 d n m a c i pc r w
  have s2 := fun w => stored_30 d n m a c i pc M w
  exact ⟨_, _, _, _, _, _, (fun w => do_p65 30 d n m a c i pc _ _ r w hck doing_30 h1 s1), (fun w => do_p65 30 d n m a c i pc _ _ M w hck doing_30 h2 s2), frame_touch [d] r M (by simp only [List.mem_singleton]; omega)⟩
theorem fr_31 (d n m a c i pc : Int) (r o' : Rg) (hr : r.within) (ho : o'.within) (hok : Fr.ok_31 d n m a c i = true) : FramesOf 31 d n m a c i [Fr.spOr n, m] [d] true pc r o' := by
  have hck := ck0 (Fr.check_31 d n m a c i) hok
  simp only [Fr.ok_31, Bool.and_eq_true, wi_t] at hok
  simp only [spOr_eq] at *
  have e0 := mrg_get [spR n, m] r o' (spR n) (by simp)
  have e1 := mrg_get [spR n, m] r o' (m) (by simp)
  have hM := mrg_within (puts [spR n, m]) hr ho
  unfold FramesOf
  generalize mrg (puts [spR n, m]) r o' = M at *
  have h1 := fun w => elem_g 31 d n m a c i pc _ r w (fun w => first_m 31 d n m a c i pc r w rfl rfl rfl (by omega) (by omega))
  have h2 := fun w => elem_g 31 d n m a c i pc _ M w (fun w => first_m 31 d n m a c i pc M w rfl rfl rfl (by omega) (by omega))
  rw [e0, e1] at h2
  have s1 := fun w => stored_31 d n m a c i pc r w
  have s2 := fun w => stored_31 d n m a c i pc M w
  exact ⟨_, _, _, _, _, _, (fun w => do_p66 31 d n m a c i pc _ _ r w hck doing_31 h1 s1), (fun w => do_p66 31 d n m a c i pc _ _ M w hck doing_31 h2 s2), frame_touch [d] r M (by simp only [List.mem_singleton]; omega)⟩
theorem fr_32 (d n m a c i pc : Int) (r o' : Rg) (hr : r.within) (ho : o'.within) (hok : Fr.ok_32 d n m a c i = true) : FramesOf 32 d n m a c i [d, Fr.spOr n, m] [] false pc r o' := by
  have hck := ck0 (Fr.check_32 d n m a c i) hok
  simp only [spOr_eq] at *
  have e0 := mrg_get [d, spR n, m] r o' (d) (by simp)
  have e1 := mrg_get [d, spR n, m] r o' (spR n) (by simp)
  have e2 := mrg_get [d, spR n, m] r o' (m) (by simp)
  have hM := mrg_within (puts [d, spR n, m]) hr ho
  unfold FramesOf
  generalize mrg (puts [d, spR n, m]) r o' = M at *
  have h1 := fun w => elem_g 32 d n m a c i pc _ r w (fun w => first_m 32 d n m a c i pc r w rfl rfl rfl (by omega) (by omega))
  have h2 := fun w => elem_g 32 d n m a c i pc _ M w (fun w => first_m 32 d n m a c i pc M w rfl rfl rfl (by omega) (by omega))
  rw [e1, e2] at h2
  have s1 := fun w => stored_32 d n m a c i pc r w
  have s2 := fun w => stored_32 d n m a c i pc M w
  rw [e0] at s2
  exact ⟨_, _, _, _, _, _, (fun w => do_p66 32 d n m a c i pc _ _ r w hck doing_32 h1 s1), (fun w => do_p66 32 d n m a c i pc _ _ M w hck doing_32 h2 s2), frame_nil r M⟩
theorem fr_33 (d n m a c i pc : Int) (r o' : Rg) (hr : r.within) (ho : o'.within) (hok : Fr.ok_33 d n m a c i = true) : FramesOf 33 d n m a c i [Fr.spOr n] [d] true pc r o' := by
  have hck := ck0 (Fr.check_33 d n m a c i) hok
  simp only [Fr.ok_33, Bool.and_eq_true, wi_t] at hok
  simp only [spOr_eq] at *
  have e0 := mrg_get [spR n] r o' (spR n) (by simp)
  have hM := mrg_within (puts [spR n]) hr ho
  unfold FramesOf
  generalize mrg (puts [spR n]) r o' = M at *
  have h1 := fun w => first_m 33 d n m a c i pc r w rfl rfl rfl (by omega) (by omega)
  have h2 := fun w => first_m 33 d n m a c i pc M w rfl rfl rfl (by omega) (by omega)
  rw [e0] at h2
  have s1 := fun w => stored_33 d n m a c i pc r w
  have s2 := fun w => stored_33 d n m a c i pc M w
  exact ⟨_, _, _, _, _, _, (fun w => do_p64 33 d n m a c i pc _ _ r w hck doing_33 h1 s1), (fun w => do_p64 33 d n m a c i pc _ _ M w hck doing_33 h2 s2), frame_touch [d] r M (by simp only [List.mem_singleton]; omega)⟩
theorem fr_34 (d n m a c i pc : Int) (r o' : Rg) (hr : r.within) (ho : o'.within) (hok : Fr.ok_34 d n m a c i = true) : FramesOf 34 d n m a c i [d, Fr.spOr n] [] false pc r o' := by
  have hck := ck0 (Fr.check_34 d n m a c i) hok
  simp only [spOr_eq] at *
  have e0 := mrg_get [d, spR n] r o' (d) (by simp)
  have e1 := mrg_get [d, spR n] r o' (spR n) (by simp)
  have hM := mrg_within (puts [d, spR n]) hr ho
  unfold FramesOf
  generalize mrg (puts [d, spR n]) r o' = M at *
  have h1 := fun w => first_m 34 d n m a c i pc r w rfl rfl rfl (by omega) (by omega)
  have h2 := fun w => first_m 34 d n m a c i pc M w rfl rfl rfl (by omega) (by omega)
  rw [e1] at h2
  have s1 := fun w => stored_34 d n m a c i pc r w
  have s2 := fun w => stored_34 d n m a c i pc M w
  rw [e0] at s2
  exact ⟨_, _, _, _, _, _, (fun w => do_p64 34 d n m a c i pc _ _ r w hck doing_34 h1 s1), (fun w => do_p64 34 d n m a c i pc _ _ M w hck doing_34 h2 s2), frame_nil r M⟩
theorem fr_35 (d n m a c i pc : Int) (r o' : Rg) (hr : r.within) (ho : o'.within) (hok : Fr.ok_35 d n m a c i = true) : FramesOf 35 d n m a c i [Fr.spOr n] [d] true pc r o' := by
  have hck := ck0 (Fr.check_35 d n m a c i) hok
  simp only [Fr.ok_35, Bool.and_eq_true, wi_t] at hok
  simp only [spOr_eq] at *
  have e0 := mrg_get [spR n] r o' (spR n) (by simp)
  have hM := mrg_within (puts [spR n]) hr ho
  unfold FramesOf
  generalize mrg (puts [spR n]) r o' = M at *
  have h1 := fun w => first_m 35 d n m a c i pc r w rfl rfl rfl (by omega) (by omega)
  have h2 := fun w => first_m 35 d n m a c i pc M w rfl rfl rfl (by omega) (by omega)
  rw [e0] at h2
  have s1 := fun w => stored_35 d n m a c i pc r w
  have s2 := fun w => stored_35 d n m a c i pc M w
  exact ⟨_, _, _, _, _, _, (fun w => do_p64 35 d n m a c i pc _ _ r w hck doing_35 h1 s1), (fun w => do_p64 35 d n m a c i pc _ _ M w hck doing_35 h2 s2), frame_touch [d] r M (by simp only [List.mem_singleton]; omega)⟩
theorem fr_36 (d n m a c i pc : Int) (r o' : Rg) (hr : r.within) (ho : o'.within) (hok : Fr.ok_36 d n m a c i = true) : FramesOf 36 d n m a c i [Fr.spOr n, m] [d] true pc r o' := by
  have hck := ck0 (Fr.check_36 d n m a c i) hok
  simp only [Fr.ok_36, Bool.and_eq_true, wi_t] at hok
  simp only [spOr_eq] at *
  have e0 := mrg_get [spR n, m] r o' (spR n) (by simp)
  have e1 := mrg_get [spR n, m] r o' (m) (by simp)
  have hM := mrg_within (puts [spR n, m]) hr ho
  unfold FramesOf
  generalize mrg (puts [spR n, m]) r o' = M at *
  have h1 := fun w => first_m 36 d n m a c i pc r w rfl rfl rfl (by omega) (by omega)
  have h2 := fun w => first_m 36 d n m a c i pc M w rfl rfl rfl (by omega) (by omega)
  rw [e0] at h2
  have s1 := fun w => stored_36 d n m a c i pc r w
  have s2 := fun w => stored_36 d n m a c i pc M w
  rw [e1] at s2
  exact ⟨_, _, _, _, _, _, (fun w => do_p64 36 d n m a c i pc _ _ r w hck doing_36 h1 s1), (fun w => do_p64 36 d n m a c i pc _ _ M w hck doing_36 h2 s2), frame_touch [d] r M (by simp only [List.mem_singleton]; omega)⟩
theorem fr_37 (d n m a c i pc : Int) (r o' : Rg) (hr : r.within) (ho : o'.within) (hok : Fr.ok_37 d n m a c i = true) : FramesOf 37 d n m a c i [] [] false pc r o' := by
  have hck := ck0 (Fr.check_37 d n m a c i) hok
  have hM := mrg_within (puts []) hr ho
  unfold FramesOf
  generalize mrg (puts []) r o' = M at *
  exact ⟨_, _, _, _, _, _, (fun w => do_nil 37 d n m a c i pc r w hck doing_37), (fun w => do_nil 37 d n m a c i pc M w hck doing_37), frame_nil r M⟩
theorem fr_38 (d n m a c i pc : Int) (r o' : Rg) (hr : r.within) (ho : o'.within) (hok : Fr.ok_38 d n m a c i = true) : FramesOf 38 d n m a c i [] [] false pc r o' := by
  have hck := ck0 (Fr.check_38 d n m a c i) hok
  have hM := mrg_within (puts []) hr ho
  unfold FramesOf
  generalize mrg (puts []) r o' = M at *
  exact ⟨_, _, _, _, _, _, (fun w => do_nil 38 d n m a c i pc r w hck doing_38), (fun w => do_nil 38 d n m a c i pc M w hck doing_38), frame_nil r M⟩
theorem fr_39 (d n m a c i pc : Int) (r o' : Rg) (hr : r.within) (ho : o'.within) (hok : Fr.ok_39 d n m a c i = true) : FramesOf 39 d n m a c i [] [] false pc r o' := by
  have hck := ck0 (Fr.check_39 d n m a c i) hok
  have hM := mrg_within (puts []) hr ho
  unfold FramesOf
  generalize mrg (puts []) r o' = M at *
  exact ⟨_, _, _, _, _, _, (fun w => do_nil 39 d n m a c i pc r w hck doing_39), (fun w => do_nil 39 d n m a c i pc M w hck doing_39), frame_nil r M⟩
theorem fr_40 (d n m a c i pc : Int) (r o' : Rg) (hr : r.within) (ho : o'.within) (hok : Fr.ok_40 d n m a c i = true) : FramesOf 40 d n m a c i [n] [] false pc r o' := by
  have hck := ck0 (Fr.check_40 d n m a c i) hok
  have e0 := mrg_get [n] r o' (n) (by simp)
  have hM := mrg_within (puts [n]) hr ho
  unfold FramesOf
  generalize mrg (puts [n]) r o' = M at *
  have h1 := fun w => first_n 40 d n m a c i pc r w rfl rfl rfl (by omega)
  have h2 := fun w => first_n 40 d n m a c i pc M w rfl rfl rfl (by omega)
  rw [e0] at h2
  have s1 := fun w => stored_40 d n m a c i pc r w
  have s2 := fun w => stored_40 d n m a c i pc M w
  exact ⟨_, _, _, _, _, _, (fun w => do_p64 40 d n m a c i pc _ _ r w hck doing_40 h1 s1), (fun w => do_p64 40 d n m a c i pc _ _ M w hck doing_40 h2 s2), frame_nil r M⟩
theorem fr_41 (d n m a c i pc : Int) (r o' : Rg) (hr : r.within) (ho : o'.within) (hok : Fr.ok_41 d n m a c i = true) : FramesOf 41 d n m a c i [n] [] false pc r o' := by
  have hck := ck0 (Fr.check_41 d n m a c i) hok
  have e0 := mrg_get [n] r o' (n) (by simp)
  have hM := mrg_within (puts [n]) hr ho
  unfold FramesOf
  generalize mrg (puts [n]) r o' = M at *
  have h1 := fun w => first_n 41 d n m a c i pc r w rfl rfl rfl (by omega)
  have h2 := fun w => first_n 41 d n m a c i pc M w rfl rfl rfl (by omega)
  rw [e0] at h2
  have s1 := fun w => stored_41 d n m a c i pc r w
  have s2 := fun w => stored_41 d n m a c i pc M w
  exact ⟨_, _, _, _, _, _, (fun w => do_p64 41 d n m a c i pc _ _ r w hck doing_41 h1 s1), (fun w => do_p64 41 d n m a c i pc _ _ M w hck doing_41 h2 s2), frame_nil r M⟩
theorem fr_42 (d n m a c i pc : Int) (r o' : Rg) (hr : r.within) (ho : o'.within) (hok : Fr.ok_42 d n m a c i = true) : FramesOf 42 d n m a c i [] [] false pc r o' := by
  have hck := ck0 (Fr.check_42 d n m a c i) hok
  have hM := mrg_within (puts []) hr ho
  unfold FramesOf
  generalize mrg (puts []) r o' = M at *
  exact ⟨_, _, _, _, _, _, (fun w => do_nil 42 d n m a c i pc r w hck doing_42), (fun w => do_nil 42 d n m a c i pc M w hck doing_42), frame_nil r M⟩
end Go.Proofs.Ytpjfjdncdiemlaa
