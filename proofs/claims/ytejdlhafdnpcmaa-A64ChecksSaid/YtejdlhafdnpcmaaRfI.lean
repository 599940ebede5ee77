import Derived.Test.YtejdlhafdnpcmaaRows
import Derived.WalkKit
import Derived.ProofKit
import Derived.OpenShut
import Derived.Outline
import Derived.WalkSmall
import Derived.WalkLawsBesides
import Derived.WalkSpells
import Derived.BigGuardPart
import Derived.RegionTactic
import Derived.Lib.Hide
import Derived.Below
import Derived.Deep.RegionWith
import Derived.Deep.RegionHeld3
import Derived.Test.YtejdlhafdnpcmaaRfL
import Derived.Test.YtejdlhafdnpcmaaRfE
namespace Go.Proofs.Ytejdlhafdnpcmaa
open Go.ChangeShapes Go.WideShapes Go.ChangeAt Go.RowKit
set_option linter.unusedVariables false
set_option maxRecDepth 100000 in
set_option maxHeartbeats 2000000 in
theorem rin_3 (d n m a c i : Int) (w : World) (hok : ok_3 d n m a c i = true) : Calls Try.prog 13 #[.agg #[.int .i64 3, .int .i64 d, .int .i64 n, .int .i64 m, .int .i64 a, .int .i64 c, .int .i64 i]] w (RowP [d] w) := by
  have HCK := Lib.hid (fun w => (by have := rcheck_3 d n m a c i w; rw [hok] at this; exact this) : ∀ w, Calls Try.prog 10 #[.agg #[.int .i64 3, .int .i64 d, .int .i64 n, .int .i64 m, .int .i64 a, .int .i64 c, .int .i64 i]] w fun e w' => e = .returned (.int .i64 0) ∧ Below w.heap.size w w')
  clear hok
  go_enter Try.func13, Try.ntmps13
  go_wp2_with fail
  refine (HCK.out _).mono ?_
  rintro e w0 ⟨rfl, hb⟩
  have HB0 := Lib.hid (((Below.refl _ _).alloc (Nat.le_refl _) _).trans (hb.mono (by simp)) : Below w.heap.size w w0)
  have HI0 := Lib.hid ((InsC.new w (.int .i64 3) (.int .i64 d) (.int .i64 n) (.int .i64 m) (.int .i64 a) (.int .i64 c) (.int .i64 i)).below' hb rfl)
  obtain ⟨hl, i0, i1, i2, i3, i4, i5, i6⟩ := HI0.out
  have HO0 := Lib.hid (World.ownsRow_nil w0 w.heap.size 3 1)
  have hs0 : w.heap.size ≤ w0.heap.size := HB0.out.size
  clear hb
  go_wp2_with (first | (go_at_call 40; refine (rfields_3 _).mono ?_; rintro e w' ⟨rfl, rfl⟩) | (go_at_call 21; refine (rload_3 _).mono ?_; rintro e w' ⟨rfl, rfl⟩))
  refine (laid_own w.heap.size (puts []) d (.slice none 0 0) _ hs0 (Nat.le_trans (puts_length []) (by simp)) (puts_sorted _) (fun _ => rfl) HO0.out).mono ?_
  rintro e w1 ⟨v1, rfl, ho, hz, hb⟩
  have HB1 := Lib.hid (HB0.out.trans (hb.mono hs0))
  have HI1 := Lib.hid (HI0.out.below' hb rfl)
  clear hl i0 i1 i2 i3 i4 i5 i6
  obtain ⟨hl, i0, i1, i2, i3, i4, i5, i6⟩ := HI1.out
  have HO1 : Hid (w1.ownsRow w.heap.size 3 1 v1 (puts [d]).length (ivs (puts [d]))) := Lib.hid ho
  have HZ1 : Hid (puts [d] = [] → v1 = .slice none 0 0) := Lib.hid hz
  have hs1 : w.heap.size ≤ w1.heap.size := HB1.out.size
  clear hb ho hz
  go_wp2_with (first | (go_at_call 40; refine (rfields_3 _).mono ?_; rintro e w' ⟨rfl, rfl⟩) | (go_at_call 21; refine (rload_3 _).mono ?_; rintro e w' ⟨rfl, rfl⟩))
  go_ret
  exact ⟨_, rfl, HO1.out, HZ1.out, HB1.out⟩
set_option maxRecDepth 100000 in
set_option maxHeartbeats 2000000 in
theorem rout_3 (d n m a c i : Int) (w : World) (hok : ok_3 d n m a c i = true) : Calls Try.prog 15 #[.agg #[.int .i64 3, .int .i64 d, .int .i64 n, .int .i64 m, .int .i64 a, .int .i64 c, .int .i64 i]] w (RowP [d] w) := by
  have HCK := Lib.hid (fun w => (by have := rcheck_3 d n m a c i w; rw [hok] at this; exact this) : ∀ w, Calls Try.prog 10 #[.agg #[.int .i64 3, .int .i64 d, .int .i64 n, .int .i64 m, .int .i64 a, .int .i64 c, .int .i64 i]] w fun e w' => e = .returned (.int .i64 0) ∧ Below w.heap.size w w')
  clear hok
  go_enter Try.func15, Try.ntmps15
  go_wp2_with fail
  refine (HCK.out _).mono ?_
  rintro e w0 ⟨rfl, hb⟩
  have HB0 := Lib.hid (((Below.refl _ _).alloc (Nat.le_refl _) _).trans (hb.mono (by simp)) : Below w.heap.size w w0)
  have HI0 := Lib.hid ((InsC.new w (.int .i64 3) (.int .i64 d) (.int .i64 n) (.int .i64 m) (.int .i64 a) (.int .i64 c) (.int .i64 i)).below' hb rfl)
  obtain ⟨hl, i0, i1, i2, i3, i4, i5, i6⟩ := HI0.out
  have HO0 := Lib.hid (World.ownsRow_nil w0 w.heap.size 3 1)
  have hs0 : w.heap.size ≤ w0.heap.size := HB0.out.size
  clear hb
  go_wp2_with (first | (go_at_call 40; refine (rfields_3 _).mono ?_; rintro e w' ⟨rfl, rfl⟩) | (go_at_call 21; refine (rload_3 _).mono ?_; rintro e w' ⟨rfl, rfl⟩))
  refine (rdest_3 d n m a c i _).mono ?_
  rintro e w1 ⟨rfl, hb⟩
  have HB1 := Lib.hid (HB0.out.trans (hb.mono hs0))
  have HI1 := Lib.hid (HI0.out.below' hb rfl)
  clear hl i0 i1 i2 i3 i4 i5 i6
  obtain ⟨hl, i0, i1, i2, i3, i4, i5, i6⟩ := HI1.out
  have HO1 := Lib.hid (World.ownsRow_nil w1 w.heap.size 3 1)
  have hs1 : w.heap.size ≤ w1.heap.size := HB1.out.size
  clear hb
  go_wp2_with (first | (go_at_call 40; refine (rfields_3 _).mono ?_; rintro e w' ⟨rfl, rfl⟩) | (go_at_call 21; refine (rload_3 _).mono ?_; rintro e w' ⟨rfl, rfl⟩))
  refine (laid_own w.heap.size (puts []) d (.slice none 0 0) _ hs1 (Nat.le_trans (puts_length []) (by simp)) (puts_sorted _) (fun _ => rfl) HO1.out).mono ?_
  rintro e w2 ⟨v2, rfl, ho, hz, hb⟩
  have HB2 := Lib.hid (HB1.out.trans (hb.mono hs1))
  have HI2 := Lib.hid (HI1.out.below' hb rfl)
  clear hl i0 i1 i2 i3 i4 i5 i6
  obtain ⟨hl, i0, i1, i2, i3, i4, i5, i6⟩ := HI2.out
  have HO2 : Hid (w2.ownsRow w.heap.size 3 1 v2 (puts [d]).length (ivs (puts [d]))) := Lib.hid ho
  have HZ2 : Hid (puts [d] = [] → v2 = .slice none 0 0) := Lib.hid hz
  have hs2 : w.heap.size ≤ w2.heap.size := HB2.out.size
  clear hb ho hz
  go_wp2_with (first | (go_at_call 40; refine (rfields_3 _).mono ?_; rintro e w' ⟨rfl, rfl⟩) | (go_at_call 21; refine (rload_3 _).mono ?_; rintro e w' ⟨rfl, rfl⟩))
  go_ret
  exact ⟨_, rfl, HO2.out, HZ2.out, HB2.out⟩
set_option maxRecDepth 100000 in
set_option maxHeartbeats 2000000 in
theorem rin_7 (d n m a c i : Int) (w : World) (hok : ok_7 d n m a c i = true) : Calls Try.prog 13 #[.agg #[.int .i64 7, .int .i64 d, .int .i64 n, .int .i64 m, .int .i64 a, .int .i64 c, .int .i64 i]] w (RowP [n, m] w) := by
  have HCK := Lib.hid (fun w => (by have := rcheck_7 d n m a c i w; rw [hok] at this; exact this) : ∀ w, Calls Try.prog 10 #[.agg #[.int .i64 7, .int .i64 d, .int .i64 n, .int .i64 m, .int .i64 a, .int .i64 c, .int .i64 i]] w fun e w' => e = .returned (.int .i64 0) ∧ Below w.heap.size w w')
  clear hok
  go_enter Try.func13, Try.ntmps13
  go_wp2_with fail
  refine (HCK.out _).mono ?_
  rintro e w0 ⟨rfl, hb⟩
  have HB0 := Lib.hid (((Below.refl _ _).alloc (Nat.le_refl _) _).trans (hb.mono (by simp)) : Below w.heap.size w w0)
  have HI0 := Lib.hid ((InsC.new w (.int .i64 7) (.int .i64 d) (.int .i64 n) (.int .i64 m) (.int .i64 a) (.int .i64 c) (.int .i64 i)).below' hb rfl)
  obtain ⟨hl, i0, i1, i2, i3, i4, i5, i6⟩ := HI0.out
  have HO0 := Lib.hid (World.ownsRow_nil w0 w.heap.size 3 1)
  have hs0 : w.heap.size ≤ w0.heap.size := HB0.out.size
  clear hb
  go_wp2_with (first | (go_at_call 40; refine (rfields_7 _).mono ?_; rintro e w' ⟨rfl, rfl⟩) | (go_at_call 21; refine (rload_7 _).mono ?_; rintro e w' ⟨rfl, rfl⟩))
  refine (rbase_7 d n m a c i _).mono ?_
  rintro e w1 ⟨rfl, hb⟩
  have HB1 := Lib.hid (HB0.out.trans (hb.mono hs0))
  have HI1 := Lib.hid (HI0.out.below' hb rfl)
  clear hl i0 i1 i2 i3 i4 i5 i6
  obtain ⟨hl, i0, i1, i2, i3, i4, i5, i6⟩ := HI1.out
  have HO1 := Lib.hid (World.ownsRow_nil w1 w.heap.size 3 1)
  have hs1 : w.heap.size ≤ w1.heap.size := HB1.out.size
  clear hb
  go_wp2_with (first | (go_at_call 40; refine (rfields_7 _).mono ?_; rintro e w' ⟨rfl, rfl⟩) | (go_at_call 21; refine (rload_7 _).mono ?_; rintro e w' ⟨rfl, rfl⟩))
  refine (laid_own w.heap.size (puts []) n (.slice none 0 0) _ hs1 (Nat.le_trans (puts_length []) (by simp)) (puts_sorted _) (fun _ => rfl) HO1.out).mono ?_
  rintro e w2 ⟨v2, rfl, ho, hz, hb⟩
  have HB2 := Lib.hid (HB1.out.trans (hb.mono hs1))
  have HI2 := Lib.hid (HI1.out.below' hb rfl)
  clear hl i0 i1 i2 i3 i4 i5 i6
  obtain ⟨hl, i0, i1, i2, i3, i4, i5, i6⟩ := HI2.out
  have HO2 : Hid (w2.ownsRow w.heap.size 3 1 v2 (puts [n]).length (ivs (puts [n]))) := Lib.hid ho
  have HZ2 : Hid (puts [n] = [] → v2 = .slice none 0 0) := Lib.hid hz
  have hs2 : w.heap.size ≤ w2.heap.size := HB2.out.size
  clear hb ho hz
  go_wp2_with (first | (go_at_call 40; refine (rfields_7 _).mono ?_; rintro e w' ⟨rfl, rfl⟩) | (go_at_call 21; refine (rload_7 _).mono ?_; rintro e w' ⟨rfl, rfl⟩))
  refine (laid_own w.heap.size (puts [n]) m v2 _ hs2 (Nat.le_trans (puts_length [n]) (by simp)) (puts_sorted _) HZ2.out HO2.out).mono ?_
  rintro e w3 ⟨v3, rfl, ho, hz, hb⟩
  have HB3 := Lib.hid (HB2.out.trans (hb.mono hs2))
  have HI3 := Lib.hid (HI2.out.below' hb rfl)
  clear hl i0 i1 i2 i3 i4 i5 i6
  obtain ⟨hl, i0, i1, i2, i3, i4, i5, i6⟩ := HI3.out
  have HO3 : Hid (w3.ownsRow w.heap.size 3 1 v3 (puts [n, m]).length (ivs (puts [n, m]))) := Lib.hid ho
  have HZ3 : Hid (puts [n, m] = [] → v3 = .slice none 0 0) := Lib.hid hz
  have hs3 : w.heap.size ≤ w3.heap.size := HB3.out.size
  clear hb ho hz
  go_wp2_with (first | (go_at_call 40; refine (rfields_7 _).mono ?_; rintro e w' ⟨rfl, rfl⟩) | (go_at_call 21; refine (rload_7 _).mono ?_; rintro e w' ⟨rfl, rfl⟩))
  go_ret
  exact ⟨_, rfl, HO3.out, HZ3.out, HB3.out⟩
set_option maxRecDepth 100000 in
set_option maxHeartbeats 2000000 in
theorem rout_7 (d n m a c i : Int) (w : World) (hok : ok_7 d n m a c i = true) : Calls Try.prog 15 #[.agg #[.int .i64 7, .int .i64 d, .int .i64 n, .int .i64 m, .int .i64 a, .int .i64 c, .int .i64 i]] w (RowP [d] w) := by
  have HCK := Lib.hid (fun w => (by have := rcheck_7 d n m a c i w; rw [hok] at this; exact this) : ∀ w, Calls Try.prog 10 #[.agg #[.int .i64 7, .int .i64 d, .int .i64 n, .int .i64 m, .int .i64 a, .int .i64 c, .int .i64 i]] w fun e w' => e = .returned (.int .i64 0) ∧ Below w.heap.size w w')
  clear hok
  go_enter Try.func15, Try.ntmps15
  go_wp2_with fail
  refine (HCK.out _).mono ?_
  rintro e w0 ⟨rfl, hb⟩
  have HB0 := Lib.hid (((Below.refl _ _).alloc (Nat.le_refl _) _).trans (hb.mono (by simp)) : Below w.heap.size w w0)
  have HI0 := Lib.hid ((InsC.new w (.int .i64 7) (.int .i64 d) (.int .i64 n) (.int .i64 m) (.int .i64 a) (.int .i64 c) (.int .i64 i)).below' hb rfl)
  obtain ⟨hl, i0, i1, i2, i3, i4, i5, i6⟩ := HI0.out
  have HO0 := Lib.hid (World.ownsRow_nil w0 w.heap.size 3 1)
  have hs0 : w.heap.size ≤ w0.heap.size := HB0.out.size
  clear hb
  go_wp2_with (first | (go_at_call 40; refine (rfields_7 _).mono ?_; rintro e w' ⟨rfl, rfl⟩) | (go_at_call 21; refine (rload_7 _).mono ?_; rintro e w' ⟨rfl, rfl⟩))
  refine (rdest_7 d n m a c i _).mono ?_
  rintro e w1 ⟨rfl, hb⟩
  have HB1 := Lib.hid (HB0.out.trans (hb.mono hs0))
  have HI1 := Lib.hid (HI0.out.below' hb rfl)
  clear hl i0 i1 i2 i3 i4 i5 i6
  obtain ⟨hl, i0, i1, i2, i3, i4, i5, i6⟩ := HI1.out
  have HO1 := Lib.hid (World.ownsRow_nil w1 w.heap.size 3 1)
  have hs1 : w.heap.size ≤ w1.heap.size := HB1.out.size
  clear hb
  go_wp2_with (first | (go_at_call 40; refine (rfields_7 _).mono ?_; rintro e w' ⟨rfl, rfl⟩) | (go_at_call 21; refine (rload_7 _).mono ?_; rintro e w' ⟨rfl, rfl⟩))
  refine (laid_own w.heap.size (puts []) d (.slice none 0 0) _ hs1 (Nat.le_trans (puts_length []) (by simp)) (puts_sorted _) (fun _ => rfl) HO1.out).mono ?_
  rintro e w2 ⟨v2, rfl, ho, hz, hb⟩
  have HB2 := Lib.hid (HB1.out.trans (hb.mono hs1))
  have HI2 := Lib.hid (HI1.out.below' hb rfl)
  clear hl i0 i1 i2 i3 i4 i5 i6
  obtain ⟨hl, i0, i1, i2, i3, i4, i5, i6⟩ := HI2.out
  have HO2 : Hid (w2.ownsRow w.heap.size 3 1 v2 (puts [d]).length (ivs (puts [d]))) := Lib.hid ho
  have HZ2 : Hid (puts [d] = [] → v2 = .slice none 0 0) := Lib.hid hz
  have hs2 : w.heap.size ≤ w2.heap.size := HB2.out.size
  clear hb ho hz
  go_wp2_with (first | (go_at_call 40; refine (rfields_7 _).mono ?_; rintro e w' ⟨rfl, rfl⟩) | (go_at_call 21; refine (rload_7 _).mono ?_; rintro e w' ⟨rfl, rfl⟩))
  go_ret
  exact ⟨_, rfl, HO2.out, HZ2.out, HB2.out⟩
set_option maxRecDepth 100000 in
set_option maxHeartbeats 2000000 in
theorem rin_11 (d n m a c i : Int) (w : World) (hok : ok_11 d n m a c i = true) : Calls Try.prog 13 #[.agg #[.int .i64 11, .int .i64 d, .int .i64 n, .int .i64 m, .int .i64 a, .int .i64 c, .int .i64 i]] w (RowP [n, m] w) := by
  have HCK := Lib.hid (fun w => (by have := rcheck_11 d n m a c i w; rw [hok] at this; exact this) : ∀ w, Calls Try.prog 10 #[.agg #[.int .i64 11, .int .i64 d, .int .i64 n, .int .i64 m, .int .i64 a, .int .i64 c, .int .i64 i]] w fun e w' => e = .returned (.int .i64 0) ∧ Below w.heap.size w w')
  clear hok
  go_enter Try.func13, Try.ntmps13
  go_wp2_with fail
  refine (HCK.out _).mono ?_
  rintro e w0 ⟨rfl, hb⟩
  have HB0 := Lib.hid (((Below.refl _ _).alloc (Nat.le_refl _) _).trans (hb.mono (by simp)) : Below w.heap.size w w0)
  have HI0 := Lib.hid ((InsC.new w (.int .i64 11) (.int .i64 d) (.int .i64 n) (.int .i64 m) (.int .i64 a) (.int .i64 c) (.int .i64 i)).below' hb rfl)
  obtain ⟨hl, i0, i1, i2, i3, i4, i5, i6⟩ := HI0.out
  have HO0 := Lib.hid (World.ownsRow_nil w0 w.heap.size 3 1)
  have hs0 : w.heap.size ≤ w0.heap.size := HB0.out.size
  clear hb
  go_wp2_with (first | (go_at_call 40; refine (rfields_11 _).mono ?_; rintro e w' ⟨rfl, rfl⟩) | (go_at_call 21; refine (rload_11 _).mono ?_; rintro e w' ⟨rfl, rfl⟩))
  refine (rbase_11 d n m a c i _).mono ?_
  rintro e w1 ⟨rfl, hb⟩
  have HB1 := Lib.hid (HB0.out.trans (hb.mono hs0))
  have HI1 := Lib.hid (HI0.out.below' hb rfl)
  clear hl i0 i1 i2 i3 i4 i5 i6
  obtain ⟨hl, i0, i1, i2, i3, i4, i5, i6⟩ := HI1.out
  have HO1 := Lib.hid (World.ownsRow_nil w1 w.heap.size 3 1)
  have hs1 : w.heap.size ≤ w1.heap.size := HB1.out.size
  clear hb
  go_wp2_with (first | (go_at_call 40; refine (rfields_11 _).mono ?_; rintro e w' ⟨rfl, rfl⟩) | (go_at_call 21; refine (rload_11 _).mono ?_; rintro e w' ⟨rfl, rfl⟩))
  refine (laid_own w.heap.size (puts []) n (.slice none 0 0) _ hs1 (Nat.le_trans (puts_length []) (by simp)) (puts_sorted _) (fun _ => rfl) HO1.out).mono ?_
  rintro e w2 ⟨v2, rfl, ho, hz, hb⟩
  have HB2 := Lib.hid (HB1.out.trans (hb.mono hs1))
  have HI2 := Lib.hid (HI1.out.below' hb rfl)
  clear hl i0 i1 i2 i3 i4 i5 i6
  obtain ⟨hl, i0, i1, i2, i3, i4, i5, i6⟩ := HI2.out
  have HO2 : Hid (w2.ownsRow w.heap.size 3 1 v2 (puts [n]).length (ivs (puts [n]))) := Lib.hid ho
  have HZ2 : Hid (puts [n] = [] → v2 = .slice none 0 0) := Lib.hid hz
  have hs2 : w.heap.size ≤ w2.heap.size := HB2.out.size
  clear hb ho hz
  go_wp2_with (first | (go_at_call 40; refine (rfields_11 _).mono ?_; rintro e w' ⟨rfl, rfl⟩) | (go_at_call 21; refine (rload_11 _).mono ?_; rintro e w' ⟨rfl, rfl⟩))
  refine (laid_own w.heap.size (puts [n]) m v2 _ hs2 (Nat.le_trans (puts_length [n]) (by simp)) (puts_sorted _) HZ2.out HO2.out).mono ?_
  rintro e w3 ⟨v3, rfl, ho, hz, hb⟩
  have HB3 := Lib.hid (HB2.out.trans (hb.mono hs2))
  have HI3 := Lib.hid (HI2.out.below' hb rfl)
  clear hl i0 i1 i2 i3 i4 i5 i6
  obtain ⟨hl, i0, i1, i2, i3, i4, i5, i6⟩ := HI3.out
  have HO3 : Hid (w3.ownsRow w.heap.size 3 1 v3 (puts [n, m]).length (ivs (puts [n, m]))) := Lib.hid ho
  have HZ3 : Hid (puts [n, m] = [] → v3 = .slice none 0 0) := Lib.hid hz
  have hs3 : w.heap.size ≤ w3.heap.size := HB3.out.size
  clear hb ho hz
  go_wp2_with (first | (go_at_call 40; refine (rfields_11 _).mono ?_; rintro e w' ⟨rfl, rfl⟩) | (go_at_call 21; refine (rload_11 _).mono ?_; rintro e w' ⟨rfl, rfl⟩))
  go_ret
  exact ⟨_, rfl, HO3.out, HZ3.out, HB3.out⟩
set_option maxRecDepth 100000 in
set_option maxHeartbeats 2000000 in
theorem rout_11 (d n m a c i : Int) (w : World) (hok : ok_11 d n m a c i = true) : Calls Try.prog 15 #[.agg #[.int .i64 11, .int .i64 d, .int .i64 n, .int .i64 m, .int .i64 a, .int .i64 c, .int .i64 i]] w (RowP [d] w) := by
  have HCK := Lib.hid (fun w => (by have := rcheck_11 d n m a c i w; rw [hok] at this; exact this) : ∀ w, Calls Try.prog 10 #[.agg #[.int .i64 11, .int .i64 d, .int .i64 n, .int .i64 m, .int .i64 a, .int .i64 c, .int .i64 i]] w fun e w' => e = .returned (.int .i64 0) ∧ Below w.heap.size w w')
  clear hok
  go_enter Try.func15, Try.ntmps15
  go_wp2_with fail
  refine (HCK.out _).mono ?_
  rintro e w0 ⟨rfl, hb⟩
  have HB0 := Lib.hid (((Below.refl _ _).alloc (Nat.le_refl _) _).trans (hb.mono (by simp)) : Below w.heap.size w w0)
  have HI0 := Lib.hid ((InsC.new w (.int .i64 11) (.int .i64 d) (.int .i64 n) (.int .i64 m) (.int .i64 a) (.int .i64 c) (.int .i64 i)).below' hb rfl)
  obtain ⟨hl, i0, i1, i2, i3, i4, i5, i6⟩ := HI0.out
  have HO0 := Lib.hid (World.ownsRow_nil w0 w.heap.size 3 1)
  have hs0 : w.heap.size ≤ w0.heap.size := HB0.out.size
  clear hb
  go_wp2_with (first | (go_at_call 40; refine (rfields_11 _).mono ?_; rintro e w' ⟨rfl, rfl⟩) | (go_at_call 21; refine (rload_11 _).mono ?_; rintro e w' ⟨rfl, rfl⟩))
  refine (rdest_11 d n m a c i _).mono ?_
  rintro e w1 ⟨rfl, hb⟩
  have HB1 := Lib.hid (HB0.out.trans (hb.mono hs0))
  have HI1 := Lib.hid (HI0.out.below' hb rfl)
  clear hl i0 i1 i2 i3 i4 i5 i6
  obtain ⟨hl, i0, i1, i2, i3, i4, i5, i6⟩ := HI1.out
  have HO1 := Lib.hid (World.ownsRow_nil w1 w.heap.size 3 1)
  have hs1 : w.heap.size ≤ w1.heap.size := HB1.out.size
  clear hb
  go_wp2_with (first | (go_at_call 40; refine (rfields_11 _).mono ?_; rintro e w' ⟨rfl, rfl⟩) | (go_at_call 21; refine (rload_11 _).mono ?_; rintro e w' ⟨rfl, rfl⟩))
  refine (laid_own w.heap.size (puts []) d (.slice none 0 0) _ hs1 (Nat.le_trans (puts_length []) (by simp)) (puts_sorted _) (fun _ => rfl) HO1.out).mono ?_
  rintro e w2 ⟨v2, rfl, ho, hz, hb⟩
  have HB2 := Lib.hid (HB1.out.trans (hb.mono hs1))
  have HI2 := Lib.hid (HI1.out.below' hb rfl)
  clear hl i0 i1 i2 i3 i4 i5 i6
  obtain ⟨hl, i0, i1, i2, i3, i4, i5, i6⟩ := HI2.out
  have HO2 : Hid (w2.ownsRow w.heap.size 3 1 v2 (puts [d]).length (ivs (puts [d]))) := Lib.hid ho
  have HZ2 : Hid (puts [d] = [] → v2 = .slice none 0 0) := Lib.hid hz
  have hs2 : w.heap.size ≤ w2.heap.size := HB2.out.size
  clear hb ho hz
  go_wp2_with (first | (go_at_call 40; refine (rfields_11 _).mono ?_; rintro e w' ⟨rfl, rfl⟩) | (go_at_call 21; refine (rload_11 _).mono ?_; rintro e w' ⟨rfl, rfl⟩))
  go_ret
  exact ⟨_, rfl, HO2.out, HZ2.out, HB2.out⟩
set_option maxRecDepth 100000 in
set_option maxHeartbeats 2000000 in
theorem rin_15 (d n m a c i : Int) (w : World) (hok : ok_15 d n m a c i = true) : Calls Try.prog 13 #[.agg #[.int .i64 15, .int .i64 d, .int .i64 n, .int .i64 m, .int .i64 a, .int .i64 c, .int .i64 i]] w (RowP [n, m] w) := by
  have HCK := Lib.hid (fun w => (by have := rcheck_15 d n m a c i w; rw [hok] at this; exact this) : ∀ w, Calls Try.prog 10 #[.agg #[.int .i64 15, .int .i64 d, .int .i64 n, .int .i64 m, .int .i64 a, .int .i64 c, .int .i64 i]] w fun e w' => e = .returned (.int .i64 0) ∧ Below w.heap.size w w')
  clear hok
  go_enter Try.func13, Try.ntmps13
  go_wp2_with fail
  refine (HCK.out _).mono ?_
  rintro e w0 ⟨rfl, hb⟩
  have HB0 := Lib.hid (((Below.refl _ _).alloc (Nat.le_refl _) _).trans (hb.mono (by simp)) : Below w.heap.size w w0)
  have HI0 := Lib.hid ((InsC.new w (.int .i64 15) (.int .i64 d) (.int .i64 n) (.int .i64 m) (.int .i64 a) (.int .i64 c) (.int .i64 i)).below' hb rfl)
  obtain ⟨hl, i0, i1, i2, i3, i4, i5, i6⟩ := HI0.out
  have HO0 := Lib.hid (World.ownsRow_nil w0 w.heap.size 3 1)
  have hs0 : w.heap.size ≤ w0.heap.size := HB0.out.size
  clear hb
  go_wp2_with (first | (go_at_call 40; refine (rfields_15 _).mono ?_; rintro e w' ⟨rfl, rfl⟩) | (go_at_call 21; refine (rload_15 _).mono ?_; rintro e w' ⟨rfl, rfl⟩))
  refine (rbase_15 d n m a c i _).mono ?_
  rintro e w1 ⟨rfl, hb⟩
  have HB1 := Lib.hid (HB0.out.trans (hb.mono hs0))
  have HI1 := Lib.hid (HI0.out.below' hb rfl)
  clear hl i0 i1 i2 i3 i4 i5 i6
  obtain ⟨hl, i0, i1, i2, i3, i4, i5, i6⟩ := HI1.out
  have HO1 := Lib.hid (World.ownsRow_nil w1 w.heap.size 3 1)
  have hs1 : w.heap.size ≤ w1.heap.size := HB1.out.size
  clear hb
  go_wp2_with (first | (go_at_call 40; refine (rfields_15 _).mono ?_; rintro e w' ⟨rfl, rfl⟩) | (go_at_call 21; refine (rload_15 _).mono ?_; rintro e w' ⟨rfl, rfl⟩))
  refine (laid_own w.heap.size (puts []) n (.slice none 0 0) _ hs1 (Nat.le_trans (puts_length []) (by simp)) (puts_sorted _) (fun _ => rfl) HO1.out).mono ?_
  rintro e w2 ⟨v2, rfl, ho, hz, hb⟩
  have HB2 := Lib.hid (HB1.out.trans (hb.mono hs1))
  have HI2 := Lib.hid (HI1.out.below' hb rfl)
  clear hl i0 i1 i2 i3 i4 i5 i6
  obtain ⟨hl, i0, i1, i2, i3, i4, i5, i6⟩ := HI2.out
  have HO2 : Hid (w2.ownsRow w.heap.size 3 1 v2 (puts [n]).length (ivs (puts [n]))) := Lib.hid ho
  have HZ2 : Hid (puts [n] = [] → v2 = .slice none 0 0) := Lib.hid hz
  have hs2 : w.heap.size ≤ w2.heap.size := HB2.out.size
  clear hb ho hz
  go_wp2_with (first | (go_at_call 40; refine (rfields_15 _).mono ?_; rintro e w' ⟨rfl, rfl⟩) | (go_at_call 21; refine (rload_15 _).mono ?_; rintro e w' ⟨rfl, rfl⟩))
  refine (laid_own w.heap.size (puts [n]) m v2 _ hs2 (Nat.le_trans (puts_length [n]) (by simp)) (puts_sorted _) HZ2.out HO2.out).mono ?_
  rintro e w3 ⟨v3, rfl, ho, hz, hb⟩
  have HB3 := Lib.hid (HB2.out.trans (hb.mono hs2))
  have HI3 := Lib.hid (HI2.out.below' hb rfl)
  clear hl i0 i1 i2 i3 i4 i5 i6
  obtain ⟨hl, i0, i1, i2, i3, i4, i5, i6⟩ := HI3.out
  have HO3 : Hid (w3.ownsRow w.heap.size 3 1 v3 (puts [n, m]).length (ivs (puts [n, m]))) := Lib.hid ho
  have HZ3 : Hid (puts [n, m] = [] → v3 = .slice none 0 0) := Lib.hid hz
  have hs3 : w.heap.size ≤ w3.heap.size := HB3.out.size
  clear hb ho hz
  go_wp2_with (first | (go_at_call 40; refine (rfields_15 _).mono ?_; rintro e w' ⟨rfl, rfl⟩) | (go_at_call 21; refine (rload_15 _).mono ?_; rintro e w' ⟨rfl, rfl⟩))
  go_ret
  exact ⟨_, rfl, HO3.out, HZ3.out, HB3.out⟩
set_option maxRecDepth 100000 in
set_option maxHeartbeats 2000000 in
theorem rout_15 (d n m a c i : Int) (w : World) (hok : ok_15 d n m a c i = true) : Calls Try.prog 15 #[.agg #[.int .i64 15, .int .i64 d, .int .i64 n, .int .i64 m, .int .i64 a, .int .i64 c, .int .i64 i]] w (RowP [d] w) := by
  have HCK := Lib.hid (fun w => (by have := rcheck_15 d n m a c i w; rw [hok] at this; exact this) : ∀ w, Calls Try.prog 10 #[.agg #[.int .i64 15, .int .i64 d, .int .i64 n, .int .i64 m, .int .i64 a, .int .i64 c, .int .i64 i]] w fun e w' => e = .returned (.int .i64 0) ∧ Below w.heap.size w w')
  clear hok
  go_enter Try.func15, Try.ntmps15
  go_wp2_with fail
  refine (HCK.out _).mono ?_
  rintro e w0 ⟨rfl, hb⟩
  have HB0 := Lib.hid (((Below.refl _ _).alloc (Nat.le_refl _) _).trans (hb.mono (by simp)) : Below w.heap.size w w0)
  have HI0 := Lib.hid ((InsC.new w (.int .i64 15) (.int .i64 d) (.int .i64 n) (.int .i64 m) (.int .i64 a) (.int .i64 c) (.int .i64 i)).below' hb rfl)
  obtain ⟨hl, i0, i1, i2, i3, i4, i5, i6⟩ := HI0.out
  have HO0 := Lib.hid (World.ownsRow_nil w0 w.heap.size 3 1)
  have hs0 : w.heap.size ≤ w0.heap.size := HB0.out.size
  clear hb
  go_wp2_with (first | (go_at_call 40; refine (rfields_15 _).mono ?_; rintro e w' ⟨rfl, rfl⟩) | (go_at_call 21; refine (rload_15 _).mono ?_; rintro e w' ⟨rfl, rfl⟩))
  refine (rdest_15 d n m a c i _).mono ?_
  rintro e w1 ⟨rfl, hb⟩
  have HB1 := Lib.hid (HB0.out.trans (hb.mono hs0))
  have HI1 := Lib.hid (HI0.out.below' hb rfl)
  clear hl i0 i1 i2 i3 i4 i5 i6
  obtain ⟨hl, i0, i1, i2, i3, i4, i5, i6⟩ := HI1.out
  have HO1 := Lib.hid (World.ownsRow_nil w1 w.heap.size 3 1)
  have hs1 : w.heap.size ≤ w1.heap.size := HB1.out.size
  clear hb
  go_wp2_with (first | (go_at_call 40; refine (rfields_15 _).mono ?_; rintro e w' ⟨rfl, rfl⟩) | (go_at_call 21; refine (rload_15 _).mono ?_; rintro e w' ⟨rfl, rfl⟩))
  refine (laid_own w.heap.size (puts []) d (.slice none 0 0) _ hs1 (Nat.le_trans (puts_length []) (by simp)) (puts_sorted _) (fun _ => rfl) HO1.out).mono ?_
  rintro e w2 ⟨v2, rfl, ho, hz, hb⟩
  have HB2 := Lib.hid (HB1.out.trans (hb.mono hs1))
  have HI2 := Lib.hid (HI1.out.below' hb rfl)
  clear hl i0 i1 i2 i3 i4 i5 i6
  obtain ⟨hl, i0, i1, i2, i3, i4, i5, i6⟩ := HI2.out
  have HO2 : Hid (w2.ownsRow w.heap.size 3 1 v2 (puts [d]).length (ivs (puts [d]))) := Lib.hid ho
  have HZ2 : Hid (puts [d] = [] → v2 = .slice none 0 0) := Lib.hid hz
  have hs2 : w.heap.size ≤ w2.heap.size := HB2.out.size
  clear hb ho hz
  go_wp2_with (first | (go_at_call 40; refine (rfields_15 _).mono ?_; rintro e w' ⟨rfl, rfl⟩) | (go_at_call 21; refine (rload_15 _).mono ?_; rintro e w' ⟨rfl, rfl⟩))
  go_ret
  exact ⟨_, rfl, HO2.out, HZ2.out, HB2.out⟩
set_option maxRecDepth 100000 in
set_option maxHeartbeats 2000000 in
theorem rin_19 (d n m a c i : Int) (w : World) (hok : ok_19 d n m a c i = true) : Calls Try.prog 13 #[.agg #[.int .i64 19, .int .i64 d, .int .i64 n, .int .i64 m, .int .i64 a, .int .i64 c, .int .i64 i]] w (RowP [n, m, 33] w) := by
  have HCK := Lib.hid (fun w => (by have := rcheck_19 d n m a c i w; rw [hok] at this; exact this) : ∀ w, Calls Try.prog 10 #[.agg #[.int .i64 19, .int .i64 d, .int .i64 n, .int .i64 m, .int .i64 a, .int .i64 c, .int .i64 i]] w fun e w' => e = .returned (.int .i64 0) ∧ Below w.heap.size w w')
  clear hok
  go_enter Try.func13, Try.ntmps13
  go_wp2_with fail
  refine (HCK.out _).mono ?_
  rintro e w0 ⟨rfl, hb⟩
  have HB0 := Lib.hid (((Below.refl _ _).alloc (Nat.le_refl _) _).trans (hb.mono (by simp)) : Below w.heap.size w w0)
  have HI0 := Lib.hid ((InsC.new w (.int .i64 19) (.int .i64 d) (.int .i64 n) (.int .i64 m) (.int .i64 a) (.int .i64 c) (.int .i64 i)).below' hb rfl)
  obtain ⟨hl, i0, i1, i2, i3, i4, i5, i6⟩ := HI0.out
  have HO0 := Lib.hid (World.ownsRow_nil w0 w.heap.size 3 1)
  have hs0 : w.heap.size ≤ w0.heap.size := HB0.out.size
  clear hb
  go_wp2_with (first | (go_at_call 40; refine (rfields_19 _).mono ?_; rintro e w' ⟨rfl, rfl⟩) | (go_at_call 21; refine (rload_19 _).mono ?_; rintro e w' ⟨rfl, rfl⟩))
  refine (rbase_19 d n m a c i _).mono ?_
  rintro e w1 ⟨rfl, hb⟩
  have HB1 := Lib.hid (HB0.out.trans (hb.mono hs0))
  have HI1 := Lib.hid (HI0.out.below' hb rfl)
  clear hl i0 i1 i2 i3 i4 i5 i6
  obtain ⟨hl, i0, i1, i2, i3, i4, i5, i6⟩ := HI1.out
  have HO1 := Lib.hid (World.ownsRow_nil w1 w.heap.size 3 1)
  have hs1 : w.heap.size ≤ w1.heap.size := HB1.out.size
  clear hb
  go_wp2_with (first | (go_at_call 40; refine (rfields_19 _).mono ?_; rintro e w' ⟨rfl, rfl⟩) | (go_at_call 21; refine (rload_19 _).mono ?_; rintro e w' ⟨rfl, rfl⟩))
  refine (laid_own w.heap.size (puts []) n (.slice none 0 0) _ hs1 (Nat.le_trans (puts_length []) (by simp)) (puts_sorted _) (fun _ => rfl) HO1.out).mono ?_
  rintro e w2 ⟨v2, rfl, ho, hz, hb⟩
  have HB2 := Lib.hid (HB1.out.trans (hb.mono hs1))
  have HI2 := Lib.hid (HI1.out.below' hb rfl)
  clear hl i0 i1 i2 i3 i4 i5 i6
  obtain ⟨hl, i0, i1, i2, i3, i4, i5, i6⟩ := HI2.out
  have HO2 : Hid (w2.ownsRow w.heap.size 3 1 v2 (puts [n]).length (ivs (puts [n]))) := Lib.hid ho
  have HZ2 : Hid (puts [n] = [] → v2 = .slice none 0 0) := Lib.hid hz
  have hs2 : w.heap.size ≤ w2.heap.size := HB2.out.size
  clear hb ho hz
  go_wp2_with (first | (go_at_call 40; refine (rfields_19 _).mono ?_; rintro e w' ⟨rfl, rfl⟩) | (go_at_call 21; refine (rload_19 _).mono ?_; rintro e w' ⟨rfl, rfl⟩))
  refine (laid_own w.heap.size (puts [n]) m v2 _ hs2 (Nat.le_trans (puts_length [n]) (by simp)) (puts_sorted _) HZ2.out HO2.out).mono ?_
  rintro e w3 ⟨v3, rfl, ho, hz, hb⟩
  have HB3 := Lib.hid (HB2.out.trans (hb.mono hs2))
  have HI3 := Lib.hid (HI2.out.below' hb rfl)
  clear hl i0 i1 i2 i3 i4 i5 i6
  obtain ⟨hl, i0, i1, i2, i3, i4, i5, i6⟩ := HI3.out
  have HO3 : Hid (w3.ownsRow w.heap.size 3 1 v3 (puts [n, m]).length (ivs (puts [n, m]))) := Lib.hid ho
  have HZ3 : Hid (puts [n, m] = [] → v3 = .slice none 0 0) := Lib.hid hz
  have hs3 : w.heap.size ≤ w3.heap.size := HB3.out.size
  clear hb ho hz
  go_wp2_with (first | (go_at_call 40; refine (rfields_19 _).mono ?_; rintro e w' ⟨rfl, rfl⟩) | (go_at_call 21; refine (rload_19 _).mono ?_; rintro e w' ⟨rfl, rfl⟩))
  refine (laid_own w.heap.size (puts [n, m]) 33 v3 _ hs3 (Nat.le_trans (puts_length [n, m]) (by simp)) (puts_sorted _) HZ3.out HO3.out).mono ?_
  rintro e w4 ⟨v4, rfl, ho, hz, hb⟩
  have HB4 := Lib.hid (HB3.out.trans (hb.mono hs3))
  have HI4 := Lib.hid (HI3.out.below' hb rfl)
  clear hl i0 i1 i2 i3 i4 i5 i6
  obtain ⟨hl, i0, i1, i2, i3, i4, i5, i6⟩ := HI4.out
  have HO4 : Hid (w4.ownsRow w.heap.size 3 1 v4 (puts [n, m, 33]).length (ivs (puts [n, m, 33]))) := Lib.hid ho
  have HZ4 : Hid (puts [n, m, 33] = [] → v4 = .slice none 0 0) := Lib.hid hz
  have hs4 : w.heap.size ≤ w4.heap.size := HB4.out.size
  clear hb ho hz
  go_wp2_with (first | (go_at_call 40; refine (rfields_19 _).mono ?_; rintro e w' ⟨rfl, rfl⟩) | (go_at_call 21; refine (rload_19 _).mono ?_; rintro e w' ⟨rfl, rfl⟩))
  go_ret
  exact ⟨_, rfl, HO4.out, HZ4.out, HB4.out⟩
set_option maxRecDepth 100000 in
set_option maxHeartbeats 2000000 in
theorem rout_19 (d n m a c i : Int) (w : World) (hok : ok_19 d n m a c i = true) : Calls Try.prog 15 #[.agg #[.int .i64 19, .int .i64 d, .int .i64 n, .int .i64 m, .int .i64 a, .int .i64 c, .int .i64 i]] w (RowP [d] w) := by
  have HCK := Lib.hid (fun w => (by have := rcheck_19 d n m a c i w; rw [hok] at this; exact this) : ∀ w, Calls Try.prog 10 #[.agg #[.int .i64 19, .int .i64 d, .int .i64 n, .int .i64 m, .int .i64 a, .int .i64 c, .int .i64 i]] w fun e w' => e = .returned (.int .i64 0) ∧ Below w.heap.size w w')
  clear hok
  go_enter Try.func15, Try.ntmps15
  go_wp2_with fail
  refine (HCK.out _).mono ?_
  rintro e w0 ⟨rfl, hb⟩
  have HB0 := Lib.hid (((Below.refl _ _).alloc (Nat.le_refl _) _).trans (hb.mono (by simp)) : Below w.heap.size w w0)
  have HI0 := Lib.hid ((InsC.new w (.int .i64 19) (.int .i64 d) (.int .i64 n) (.int .i64 m) (.int .i64 a) (.int .i64 c) (.int .i64 i)).below' hb rfl)
  obtain ⟨hl, i0, i1, i2, i3, i4, i5, i6⟩ := HI0.out
  have HO0 := Lib.hid (World.ownsRow_nil w0 w.heap.size 3 1)
  have hs0 : w.heap.size ≤ w0.heap.size := HB0.out.size
  clear hb
  go_wp2_with (first | (go_at_call 40; refine (rfields_19 _).mono ?_; rintro e w' ⟨rfl, rfl⟩) | (go_at_call 21; refine (rload_19 _).mono ?_; rintro e w' ⟨rfl, rfl⟩))
  refine (rdest_19 d n m a c i _).mono ?_
  rintro e w1 ⟨rfl, hb⟩
  have HB1 := Lib.hid (HB0.out.trans (hb.mono hs0))
  have HI1 := Lib.hid (HI0.out.below' hb rfl)
  clear hl i0 i1 i2 i3 i4 i5 i6
  obtain ⟨hl, i0, i1, i2, i3, i4, i5, i6⟩ := HI1.out
  have HO1 := Lib.hid (World.ownsRow_nil w1 w.heap.size 3 1)
  have hs1 : w.heap.size ≤ w1.heap.size := HB1.out.size
  clear hb
  go_wp2_with (first | (go_at_call 40; refine (rfields_19 _).mono ?_; rintro e w' ⟨rfl, rfl⟩) | (go_at_call 21; refine (rload_19 _).mono ?_; rintro e w' ⟨rfl, rfl⟩))
  refine (laid_own w.heap.size (puts []) d (.slice none 0 0) _ hs1 (Nat.le_trans (puts_length []) (by simp)) (puts_sorted _) (fun _ => rfl) HO1.out).mono ?_
  rintro e w2 ⟨v2, rfl, ho, hz, hb⟩
  have HB2 := Lib.hid (HB1.out.trans (hb.mono hs1))
  have HI2 := Lib.hid (HI1.out.below' hb rfl)
  clear hl i0 i1 i2 i3 i4 i5 i6
  obtain ⟨hl, i0, i1, i2, i3, i4, i5, i6⟩ := HI2.out
  have HO2 : Hid (w2.ownsRow w.heap.size 3 1 v2 (puts [d]).length (ivs (puts [d]))) := Lib.hid ho
  have HZ2 : Hid (puts [d] = [] → v2 = .slice none 0 0) := Lib.hid hz
  have hs2 : w.heap.size ≤ w2.heap.size := HB2.out.size
  clear hb ho hz
  go_wp2_with (first | (go_at_call 40; refine (rfields_19 _).mono ?_; rintro e w' ⟨rfl, rfl⟩) | (go_at_call 21; refine (rload_19 _).mono ?_; rintro e w' ⟨rfl, rfl⟩))
  go_ret
  exact ⟨_, rfl, HO2.out, HZ2.out, HB2.out⟩
set_option maxRecDepth 100000 in
set_option maxHeartbeats 2000000 in
theorem rin_23 (d n m a c i : Int) (w : World) (hok : ok_23 d n m a c i = true) : Calls Try.prog 13 #[.agg #[.int .i64 23, .int .i64 d, .int .i64 n, .int .i64 m, .int .i64 a, .int .i64 c, .int .i64 i]] w (RowP [d] w) := by
  have HCK := Lib.hid (fun w => (by have := rcheck_23 d n m a c i w; rw [hok] at this; exact this) : ∀ w, Calls Try.prog 10 #[.agg #[.int .i64 23, .int .i64 d, .int .i64 n, .int .i64 m, .int .i64 a, .int .i64 c, .int .i64 i]] w fun e w' => e = .returned (.int .i64 0) ∧ Below w.heap.size w w')
  clear hok
  go_enter Try.func13, Try.ntmps13
  go_wp2_with fail
  refine (HCK.out _).mono ?_
  rintro e w0 ⟨rfl, hb⟩
  have HB0 := Lib.hid (((Below.refl _ _).alloc (Nat.le_refl _) _).trans (hb.mono (by simp)) : Below w.heap.size w w0)
  have HI0 := Lib.hid ((InsC.new w (.int .i64 23) (.int .i64 d) (.int .i64 n) (.int .i64 m) (.int .i64 a) (.int .i64 c) (.int .i64 i)).below' hb rfl)
  obtain ⟨hl, i0, i1, i2, i3, i4, i5, i6⟩ := HI0.out
  have HO0 := Lib.hid (World.ownsRow_nil w0 w.heap.size 3 1)
  have hs0 : w.heap.size ≤ w0.heap.size := HB0.out.size
  clear hb
  go_wp2_with (first | (go_at_call 40; refine (rfields_23 _).mono ?_; rintro e w' ⟨rfl, rfl⟩) | (go_at_call 21; refine (rload_23 _).mono ?_; rintro e w' ⟨rfl, rfl⟩))
  refine (laid_own w.heap.size (puts []) d (.slice none 0 0) _ hs0 (Nat.le_trans (puts_length []) (by simp)) (puts_sorted _) (fun _ => rfl) HO0.out).mono ?_
  rintro e w1 ⟨v1, rfl, ho, hz, hb⟩
  have HB1 := Lib.hid (HB0.out.trans (hb.mono hs0))
  have HI1 := Lib.hid (HI0.out.below' hb rfl)
  clear hl i0 i1 i2 i3 i4 i5 i6
  obtain ⟨hl, i0, i1, i2, i3, i4, i5, i6⟩ := HI1.out
  have HO1 : Hid (w1.ownsRow w.heap.size 3 1 v1 (puts [d]).length (ivs (puts [d]))) := Lib.hid ho
  have HZ1 : Hid (puts [d] = [] → v1 = .slice none 0 0) := Lib.hid hz
  have hs1 : w.heap.size ≤ w1.heap.size := HB1.out.size
  clear hb ho hz
  go_wp2_with (first | (go_at_call 40; refine (rfields_23 _).mono ?_; rintro e w' ⟨rfl, rfl⟩) | (go_at_call 21; refine (rload_23 _).mono ?_; rintro e w' ⟨rfl, rfl⟩))
  go_ret
  exact ⟨_, rfl, HO1.out, HZ1.out, HB1.out⟩
set_option maxRecDepth 100000 in
set_option maxHeartbeats 2000000 in
theorem rout_23 (d n m a c i : Int) (w : World) (hok : ok_23 d n m a c i = true) : Calls Try.prog 15 #[.agg #[.int .i64 23, .int .i64 d, .int .i64 n, .int .i64 m, .int .i64 a, .int .i64 c, .int .i64 i]] w (RowP [] w) := by
  have HCK := Lib.hid (fun w => (by have := rcheck_23 d n m a c i w; rw [hok] at this; exact this) : ∀ w, Calls Try.prog 10 #[.agg #[.int .i64 23, .int .i64 d, .int .i64 n, .int .i64 m, .int .i64 a, .int .i64 c, .int .i64 i]] w fun e w' => e = .returned (.int .i64 0) ∧ Below w.heap.size w w')
  clear hok
  go_enter Try.func15, Try.ntmps15
  go_wp2_with fail
  refine (HCK.out _).mono ?_
  rintro e w0 ⟨rfl, hb⟩
  have HB0 := Lib.hid (((Below.refl _ _).alloc (Nat.le_refl _) _).trans (hb.mono (by simp)) : Below w.heap.size w w0)
  have HI0 := Lib.hid ((InsC.new w (.int .i64 23) (.int .i64 d) (.int .i64 n) (.int .i64 m) (.int .i64 a) (.int .i64 c) (.int .i64 i)).below' hb rfl)
  obtain ⟨hl, i0, i1, i2, i3, i4, i5, i6⟩ := HI0.out
  have HO0 := Lib.hid (World.ownsRow_nil w0 w.heap.size 3 1)
  have hs0 : w.heap.size ≤ w0.heap.size := HB0.out.size
  clear hb
  go_wp2_with (first | (go_at_call 40; refine (rfields_23 _).mono ?_; rintro e w' ⟨rfl, rfl⟩) | (go_at_call 21; refine (rload_23 _).mono ?_; rintro e w' ⟨rfl, rfl⟩))
  go_ret
  exact ⟨_, rfl, HO0.out, (fun _ => rfl), HB0.out⟩
set_option maxRecDepth 100000 in
set_option maxHeartbeats 2000000 in
theorem rin_27 (d n m a c i : Int) (w : World) (hok : ok_27 d n m a c i = true) : Calls Try.prog 13 #[.agg #[.int .i64 27, .int .i64 d, .int .i64 n, .int .i64 m, .int .i64 a, .int .i64 c, .int .i64 i]] w (RowP [n] w) := by
  have HCK := Lib.hid (fun w => (by have := rcheck_27 d n m a c i w; rw [hok] at this; exact this) : ∀ w, Calls Try.prog 10 #[.agg #[.int .i64 27, .int .i64 d, .int .i64 n, .int .i64 m, .int .i64 a, .int .i64 c, .int .i64 i]] w fun e w' => e = .returned (.int .i64 0) ∧ Below w.heap.size w w')
  clear hok
  go_enter Try.func13, Try.ntmps13
  go_wp2_with fail
  refine (HCK.out _).mono ?_
  rintro e w0 ⟨rfl, hb⟩
  have HB0 := Lib.hid (((Below.refl _ _).alloc (Nat.le_refl _) _).trans (hb.mono (by simp)) : Below w.heap.size w w0)
  have HI0 := Lib.hid ((InsC.new w (.int .i64 27) (.int .i64 d) (.int .i64 n) (.int .i64 m) (.int .i64 a) (.int .i64 c) (.int .i64 i)).below' hb rfl)
  obtain ⟨hl, i0, i1, i2, i3, i4, i5, i6⟩ := HI0.out
  have HO0 := Lib.hid (World.ownsRow_nil w0 w.heap.size 3 1)
  have hs0 : w.heap.size ≤ w0.heap.size := HB0.out.size
  clear hb
  go_wp2_with (first | (go_at_call 40; refine (rfields_27 _).mono ?_; rintro e w' ⟨rfl, rfl⟩) | (go_at_call 21; refine (rload_27 _).mono ?_; rintro e w' ⟨rfl, rfl⟩))
  refine (rbase_27 d n m a c i _).mono ?_
  rintro e w1 ⟨rfl, hb⟩
  have HB1 := Lib.hid (HB0.out.trans (hb.mono hs0))
  have HI1 := Lib.hid (HI0.out.below' hb rfl)
  clear hl i0 i1 i2 i3 i4 i5 i6
  obtain ⟨hl, i0, i1, i2, i3, i4, i5, i6⟩ := HI1.out
  have HO1 := Lib.hid (World.ownsRow_nil w1 w.heap.size 3 1)
  have hs1 : w.heap.size ≤ w1.heap.size := HB1.out.size
  clear hb
  go_wp2_with (first | (go_at_call 40; refine (rfields_27 _).mono ?_; rintro e w' ⟨rfl, rfl⟩) | (go_at_call 21; refine (rload_27 _).mono ?_; rintro e w' ⟨rfl, rfl⟩))
  refine (laid_own w.heap.size (puts []) n (.slice none 0 0) _ hs1 (Nat.le_trans (puts_length []) (by simp)) (puts_sorted _) (fun _ => rfl) HO1.out).mono ?_
  rintro e w2 ⟨v2, rfl, ho, hz, hb⟩
  have HB2 := Lib.hid (HB1.out.trans (hb.mono hs1))
  have HI2 := Lib.hid (HI1.out.below' hb rfl)
  clear hl i0 i1 i2 i3 i4 i5 i6
  obtain ⟨hl, i0, i1, i2, i3, i4, i5, i6⟩ := HI2.out
  have HO2 : Hid (w2.ownsRow w.heap.size 3 1 v2 (puts [n]).length (ivs (puts [n]))) := Lib.hid ho
  have HZ2 : Hid (puts [n] = [] → v2 = .slice none 0 0) := Lib.hid hz
  have hs2 : w.heap.size ≤ w2.heap.size := HB2.out.size
  clear hb ho hz
  go_wp2_with (first | (go_at_call 40; refine (rfields_27 _).mono ?_; rintro e w' ⟨rfl, rfl⟩) | (go_at_call 21; refine (rload_27 _).mono ?_; rintro e w' ⟨rfl, rfl⟩))
  go_ret
  exact ⟨_, rfl, HO2.out, HZ2.out, HB2.out⟩
set_option maxRecDepth 100000 in
set_option maxHeartbeats 2000000 in
theorem rout_27 (d n m a c i : Int) (w : World) (hok : ok_27 d n m a c i = true) : Calls Try.prog 15 #[.agg #[.int .i64 27, .int .i64 d, .int .i64 n, .int .i64 m, .int .i64 a, .int .i64 c, .int .i64 i]] w (RowP [] w) := by
  have HCK := Lib.hid (fun w => (by have := rcheck_27 d n m a c i w; rw [hok] at this; exact this) : ∀ w, Calls Try.prog 10 #[.agg #[.int .i64 27, .int .i64 d, .int .i64 n, .int .i64 m, .int .i64 a, .int .i64 c, .int .i64 i]] w fun e w' => e = .returned (.int .i64 0) ∧ Below w.heap.size w w')
  clear hok
  go_enter Try.func15, Try.ntmps15
  go_wp2_with fail
  refine (HCK.out _).mono ?_
  rintro e w0 ⟨rfl, hb⟩
  have HB0 := Lib.hid (((Below.refl _ _).alloc (Nat.le_refl _) _).trans (hb.mono (by simp)) : Below w.heap.size w w0)
  have HI0 := Lib.hid ((InsC.new w (.int .i64 27) (.int .i64 d) (.int .i64 n) (.int .i64 m) (.int .i64 a) (.int .i64 c) (.int .i64 i)).below' hb rfl)
  obtain ⟨hl, i0, i1, i2, i3, i4, i5, i6⟩ := HI0.out
  have HO0 := Lib.hid (World.ownsRow_nil w0 w.heap.size 3 1)
  have hs0 : w.heap.size ≤ w0.heap.size := HB0.out.size
  clear hb
  go_wp2_with (first | (go_at_call 40; refine (rfields_27 _).mono ?_; rintro e w' ⟨rfl, rfl⟩) | (go_at_call 21; refine (rload_27 _).mono ?_; rintro e w' ⟨rfl, rfl⟩))
  go_ret
  exact ⟨_, rfl, HO0.out, (fun _ => rfl), HB0.out⟩
set_option maxRecDepth 100000 in
set_option maxHeartbeats 2000000 in
theorem rin_31 (d n m a c i : Int) (w : World) (hok : ok_31 d n m a c i = true) : Calls Try.prog 13 #[.agg #[.int .i64 31, .int .i64 d, .int .i64 n, .int .i64 m, .int .i64 a, .int .i64 c, .int .i64 i]] w (RowP [(spOr n), m] w) := by
  have HCK := Lib.hid (fun w => (by have := rcheck_31 d n m a c i w; rw [hok] at this; exact this) : ∀ w, Calls Try.prog 10 #[.agg #[.int .i64 31, .int .i64 d, .int .i64 n, .int .i64 m, .int .i64 a, .int .i64 c, .int .i64 i]] w fun e w' => e = .returned (.int .i64 0) ∧ Below w.heap.size w w')
  clear hok
  go_enter Try.func13, Try.ntmps13
  go_wp2_with fail
  refine (HCK.out _).mono ?_
  rintro e w0 ⟨rfl, hb⟩
  have HB0 := Lib.hid (((Below.refl _ _).alloc (Nat.le_refl _) _).trans (hb.mono (by simp)) : Below w.heap.size w w0)
  have HI0 := Lib.hid ((InsC.new w (.int .i64 31) (.int .i64 d) (.int .i64 n) (.int .i64 m) (.int .i64 a) (.int .i64 c) (.int .i64 i)).below' hb rfl)
  obtain ⟨hl, i0, i1, i2, i3, i4, i5, i6⟩ := HI0.out
  have HO0 := Lib.hid (World.ownsRow_nil w0 w.heap.size 3 1)
  have hs0 : w.heap.size ≤ w0.heap.size := HB0.out.size
  clear hb
  go_wp2_with (first | (go_at_call 40; refine (rfields_31 _).mono ?_; rintro e w' ⟨rfl, rfl⟩) | (go_at_call 21; refine (rload_31 _).mono ?_; rintro e w' ⟨rfl, rfl⟩))
  refine (rbase_31 d n m a c i _).mono ?_
  rintro e w1 ⟨rfl, hb⟩
  have HB1 := Lib.hid (HB0.out.trans (hb.mono hs0))
  have HI1 := Lib.hid (HI0.out.below' hb rfl)
  clear hl i0 i1 i2 i3 i4 i5 i6
  obtain ⟨hl, i0, i1, i2, i3, i4, i5, i6⟩ := HI1.out
  have HO1 := Lib.hid (World.ownsRow_nil w1 w.heap.size 3 1)
  have hs1 : w.heap.size ≤ w1.heap.size := HB1.out.size
  clear hb
  go_wp2_with (first | (go_at_call 40; refine (rfields_31 _).mono ?_; rintro e w' ⟨rfl, rfl⟩) | (go_at_call 21; refine (rload_31 _).mono ?_; rintro e w' ⟨rfl, rfl⟩))
  refine (laid_own w.heap.size (puts []) (spOr n) (.slice none 0 0) _ hs1 (Nat.le_trans (puts_length []) (by simp)) (puts_sorted _) (fun _ => rfl) HO1.out).mono ?_
  rintro e w2 ⟨v2, rfl, ho, hz, hb⟩
  have HB2 := Lib.hid (HB1.out.trans (hb.mono hs1))
  have HI2 := Lib.hid (HI1.out.below' hb rfl)
  clear hl i0 i1 i2 i3 i4 i5 i6
  obtain ⟨hl, i0, i1, i2, i3, i4, i5, i6⟩ := HI2.out
  have HO2 : Hid (w2.ownsRow w.heap.size 3 1 v2 (puts [(spOr n)]).length (ivs (puts [(spOr n)]))) := Lib.hid ho
  have HZ2 : Hid (puts [(spOr n)] = [] → v2 = .slice none 0 0) := Lib.hid hz
  have hs2 : w.heap.size ≤ w2.heap.size := HB2.out.size
  clear hb ho hz
  go_wp2_with (first | (go_at_call 40; refine (rfields_31 _).mono ?_; rintro e w' ⟨rfl, rfl⟩) | (go_at_call 21; refine (rload_31 _).mono ?_; rintro e w' ⟨rfl, rfl⟩))
  refine (laid_own w.heap.size (puts [(spOr n)]) m v2 _ hs2 (Nat.le_trans (puts_length [(spOr n)]) (by simp)) (puts_sorted _) HZ2.out HO2.out).mono ?_
  rintro e w3 ⟨v3, rfl, ho, hz, hb⟩
  have HB3 := Lib.hid (HB2.out.trans (hb.mono hs2))
  have HI3 := Lib.hid (HI2.out.below' hb rfl)
  clear hl i0 i1 i2 i3 i4 i5 i6
  obtain ⟨hl, i0, i1, i2, i3, i4, i5, i6⟩ := HI3.out
  have HO3 : Hid (w3.ownsRow w.heap.size 3 1 v3 (puts [(spOr n), m]).length (ivs (puts [(spOr n), m]))) := Lib.hid ho
  have HZ3 : Hid (puts [(spOr n), m] = [] → v3 = .slice none 0 0) := Lib.hid hz
  have hs3 : w.heap.size ≤ w3.heap.size := HB3.out.size
  clear hb ho hz
  go_wp2_with (first | (go_at_call 40; refine (rfields_31 _).mono ?_; rintro e w' ⟨rfl, rfl⟩) | (go_at_call 21; refine (rload_31 _).mono ?_; rintro e w' ⟨rfl, rfl⟩))
  go_ret
  exact ⟨_, rfl, HO3.out, HZ3.out, HB3.out⟩
set_option maxRecDepth 100000 in
set_option maxHeartbeats 2000000 in
theorem rout_31 (d n m a c i : Int) (w : World) (hok : ok_31 d n m a c i = true) : Calls Try.prog 15 #[.agg #[.int .i64 31, .int .i64 d, .int .i64 n, .int .i64 m, .int .i64 a, .int .i64 c, .int .i64 i]] w (RowP [d] w) := by
  have HCK := Lib.hid (fun w => (by have := rcheck_31 d n m a c i w; rw [hok] at this; exact this) : ∀ w, Calls Try.prog 10 #[.agg #[.int .i64 31, .int .i64 d, .int .i64 n, .int .i64 m, .int .i64 a, .int .i64 c, .int .i64 i]] w fun e w' => e = .returned (.int .i64 0) ∧ Below w.heap.size w w')
  clear hok
  go_enter Try.func15, Try.ntmps15
  go_wp2_with fail
  refine (HCK.out _).mono ?_
  rintro e w0 ⟨rfl, hb⟩
  have HB0 := Lib.hid (((Below.refl _ _).alloc (Nat.le_refl _) _).trans (hb.mono (by simp)) : Below w.heap.size w w0)
  have HI0 := Lib.hid ((InsC.new w (.int .i64 31) (.int .i64 d) (.int .i64 n) (.int .i64 m) (.int .i64 a) (.int .i64 c) (.int .i64 i)).below' hb rfl)
  obtain ⟨hl, i0, i1, i2, i3, i4, i5, i6⟩ := HI0.out
  have HO0 := Lib.hid (World.ownsRow_nil w0 w.heap.size 3 1)
  have hs0 : w.heap.size ≤ w0.heap.size := HB0.out.size
  clear hb
  go_wp2_with (first | (go_at_call 40; refine (rfields_31 _).mono ?_; rintro e w' ⟨rfl, rfl⟩) | (go_at_call 21; refine (rload_31 _).mono ?_; rintro e w' ⟨rfl, rfl⟩))
  refine (rdest_31 d n m a c i _).mono ?_
  rintro e w1 ⟨rfl, hb⟩
  have HB1 := Lib.hid (HB0.out.trans (hb.mono hs0))
  have HI1 := Lib.hid (HI0.out.below' hb rfl)
  clear hl i0 i1 i2 i3 i4 i5 i6
  obtain ⟨hl, i0, i1, i2, i3, i4, i5, i6⟩ := HI1.out
  have HO1 := Lib.hid (World.ownsRow_nil w1 w.heap.size 3 1)
  have hs1 : w.heap.size ≤ w1.heap.size := HB1.out.size
  clear hb
  go_wp2_with (first | (go_at_call 40; refine (rfields_31 _).mono ?_; rintro e w' ⟨rfl, rfl⟩) | (go_at_call 21; refine (rload_31 _).mono ?_; rintro e w' ⟨rfl, rfl⟩))
  refine (laid_own w.heap.size (puts []) d (.slice none 0 0) _ hs1 (Nat.le_trans (puts_length []) (by simp)) (puts_sorted _) (fun _ => rfl) HO1.out).mono ?_
  rintro e w2 ⟨v2, rfl, ho, hz, hb⟩
  have HB2 := Lib.hid (HB1.out.trans (hb.mono hs1))
  have HI2 := Lib.hid (HI1.out.below' hb rfl)
  clear hl i0 i1 i2 i3 i4 i5 i6
  obtain ⟨hl, i0, i1, i2, i3, i4, i5, i6⟩ := HI2.out
  have HO2 : Hid (w2.ownsRow w.heap.size 3 1 v2 (puts [d]).length (ivs (puts [d]))) := Lib.hid ho
  have HZ2 : Hid (puts [d] = [] → v2 = .slice none 0 0) := Lib.hid hz
  have hs2 : w.heap.size ≤ w2.heap.size := HB2.out.size
  clear hb ho hz
  go_wp2_with (first | (go_at_call 40; refine (rfields_31 _).mono ?_; rintro e w' ⟨rfl, rfl⟩) | (go_at_call 21; refine (rload_31 _).mono ?_; rintro e w' ⟨rfl, rfl⟩))
  go_ret
  exact ⟨_, rfl, HO2.out, HZ2.out, HB2.out⟩
set_option maxRecDepth 100000 in
set_option maxHeartbeats 2000000 in
theorem rin_35 (d n m a c i : Int) (w : World) (hok : ok_35 d n m a c i = true) : Calls Try.prog 13 #[.agg #[.int .i64 35, .int .i64 d, .int .i64 n, .int .i64 m, .int .i64 a, .int .i64 c, .int .i64 i]] w (RowP [(spOr n)] w) := by
  have HCK := Lib.hid (fun w => (by have := rcheck_35 d n m a c i w; rw [hok] at this; exact this) : ∀ w, Calls Try.prog 10 #[.agg #[.int .i64 35, .int .i64 d, .int .i64 n, .int .i64 m, .int .i64 a, .int .i64 c, .int .i64 i]] w fun e w' => e = .returned (.int .i64 0) ∧ Below w.heap.size w w')
  clear hok
  go_enter Try.func13, Try.ntmps13
  go_wp2_with fail
  refine (HCK.out _).mono ?_
  rintro e w0 ⟨rfl, hb⟩
  have HB0 := Lib.hid (((Below.refl _ _).alloc (Nat.le_refl _) _).trans (hb.mono (by simp)) : Below w.heap.size w w0)
  have HI0 := Lib.hid ((InsC.new w (.int .i64 35) (.int .i64 d) (.int .i64 n) (.int .i64 m) (.int .i64 a) (.int .i64 c) (.int .i64 i)).below' hb rfl)
  obtain ⟨hl, i0, i1, i2, i3, i4, i5, i6⟩ := HI0.out
  have HO0 := Lib.hid (World.ownsRow_nil w0 w.heap.size 3 1)
  have hs0 : w.heap.size ≤ w0.heap.size := HB0.out.size
  clear hb
  go_wp2_with (first | (go_at_call 40; refine (rfields_35 _).mono ?_; rintro e w' ⟨rfl, rfl⟩) | (go_at_call 21; refine (rload_35 _).mono ?_; rintro e w' ⟨rfl, rfl⟩))
  refine (rbase_35 d n m a c i _).mono ?_
  rintro e w1 ⟨rfl, hb⟩
  have HB1 := Lib.hid (HB0.out.trans (hb.mono hs0))
  have HI1 := Lib.hid (HI0.out.below' hb rfl)
  clear hl i0 i1 i2 i3 i4 i5 i6
  obtain ⟨hl, i0, i1, i2, i3, i4, i5, i6⟩ := HI1.out
  have HO1 := Lib.hid (World.ownsRow_nil w1 w.heap.size 3 1)
  have hs1 : w.heap.size ≤ w1.heap.size := HB1.out.size
  clear hb
  go_wp2_with (first | (go_at_call 40; refine (rfields_35 _).mono ?_; rintro e w' ⟨rfl, rfl⟩) | (go_at_call 21; refine (rload_35 _).mono ?_; rintro e w' ⟨rfl, rfl⟩))
  refine (laid_own w.heap.size (puts []) (spOr n) (.slice none 0 0) _ hs1 (Nat.le_trans (puts_length []) (by simp)) (puts_sorted _) (fun _ => rfl) HO1.out).mono ?_
  rintro e w2 ⟨v2, rfl, ho, hz, hb⟩
  have HB2 := Lib.hid (HB1.out.trans (hb.mono hs1))
  have HI2 := Lib.hid (HI1.out.below' hb rfl)
  clear hl i0 i1 i2 i3 i4 i5 i6
  obtain ⟨hl, i0, i1, i2, i3, i4, i5, i6⟩ := HI2.out
  have HO2 : Hid (w2.ownsRow w.heap.size 3 1 v2 (puts [(spOr n)]).length (ivs (puts [(spOr n)]))) := Lib.hid ho
  have HZ2 : Hid (puts [(spOr n)] = [] → v2 = .slice none 0 0) := Lib.hid hz
  have hs2 : w.heap.size ≤ w2.heap.size := HB2.out.size
  clear hb ho hz
  go_wp2_with (first | (go_at_call 40; refine (rfields_35 _).mono ?_; rintro e w' ⟨rfl, rfl⟩) | (go_at_call 21; refine (rload_35 _).mono ?_; rintro e w' ⟨rfl, rfl⟩))
  go_ret
  exact ⟨_, rfl, HO2.out, HZ2.out, HB2.out⟩
set_option maxRecDepth 100000 in
set_option maxHeartbeats 2000000 in
theorem rout_35 (d n m a c i : Int) (w : World) (hok : ok_35 d n m a c i = true) : Calls Try.prog 15 #[.agg #[.int .i64 35, .int .i64 d, .int .i64 n, .int .i64 m, .int .i64 a, .int .i64 c, .int .i64 i]] w (RowP [d] w) := by
  have HCK := Lib.hid (fun w => (by have := rcheck_35 d n m a c i w; rw [hok] at this; exact this) : ∀ w, Calls Try.prog 10 #[.agg #[.int .i64 35, .int .i64 d, .int .i64 n, .int .i64 m, .int .i64 a, .int .i64 c, .int .i64 i]] w fun e w' => e = .returned (.int .i64 0) ∧ Below w.heap.size w w')
  clear hok
  go_enter Try.func15, Try.ntmps15
  go_wp2_with fail
  refine (HCK.out _).mono ?_
  rintro e w0 ⟨rfl, hb⟩
  have HB0 := Lib.hid (((Below.refl _ _).alloc (Nat.le_refl _) _).trans (hb.mono (by simp)) : Below w.heap.size w w0)
  have HI0 := Lib.hid ((InsC.new w (.int .i64 35) (.int .i64 d) (.int .i64 n) (.int .i64 m) (.int .i64 a) (.int .i64 c) (.int .i64 i)).below' hb rfl)
  obtain ⟨hl, i0, i1, i2, i3, i4, i5, i6⟩ := HI0.out
  have HO0 := Lib.hid (World.ownsRow_nil w0 w.heap.size 3 1)
  have hs0 : w.heap.size ≤ w0.heap.size := HB0.out.size
  clear hb
  go_wp2_with (first | (go_at_call 40; refine (rfields_35 _).mono ?_; rintro e w' ⟨rfl, rfl⟩) | (go_at_call 21; refine (rload_35 _).mono ?_; rintro e w' ⟨rfl, rfl⟩))
  refine (rdest_35 d n m a c i _).mono ?_
  rintro e w1 ⟨rfl, hb⟩
  have HB1 := Lib.hid (HB0.out.trans (hb.mono hs0))
  have HI1 := Lib.hid (HI0.out.below' hb rfl)
  clear hl i0 i1 i2 i3 i4 i5 i6
  obtain ⟨hl, i0, i1, i2, i3, i4, i5, i6⟩ := HI1.out
  have HO1 := Lib.hid (World.ownsRow_nil w1 w.heap.size 3 1)
  have hs1 : w.heap.size ≤ w1.heap.size := HB1.out.size
  clear hb
  go_wp2_with (first | (go_at_call 40; refine (rfields_35 _).mono ?_; rintro e w' ⟨rfl, rfl⟩) | (go_at_call 21; refine (rload_35 _).mono ?_; rintro e w' ⟨rfl, rfl⟩))
  refine (laid_own w.heap.size (puts []) d (.slice none 0 0) _ hs1 (Nat.le_trans (puts_length []) (by simp)) (puts_sorted _) (fun _ => rfl) HO1.out).mono ?_
  rintro e w2 ⟨v2, rfl, ho, hz, hb⟩
  have HB2 := Lib.hid (HB1.out.trans (hb.mono hs1))
  have HI2 := Lib.hid (HI1.out.below' hb rfl)
  clear hl i0 i1 i2 i3 i4 i5 i6
  obtain ⟨hl, i0, i1, i2, i3, i4, i5, i6⟩ := HI2.out
  have HO2 : Hid (w2.ownsRow w.heap.size 3 1 v2 (puts [d]).length (ivs (puts [d]))) := Lib.hid ho
  have HZ2 : Hid (puts [d] = [] → v2 = .slice none 0 0) := Lib.hid hz
  have hs2 : w.heap.size ≤ w2.heap.size := HB2.out.size
  clear hb ho hz
  go_wp2_with (first | (go_at_call 40; refine (rfields_35 _).mono ?_; rintro e w' ⟨rfl, rfl⟩) | (go_at_call 21; refine (rload_35 _).mono ?_; rintro e w' ⟨rfl, rfl⟩))
  go_ret
  exact ⟨_, rfl, HO2.out, HZ2.out, HB2.out⟩
set_option maxRecDepth 100000 in
set_option maxHeartbeats 2000000 in
theorem rin_39 (d n m a c i : Int) (w : World) (hok : ok_39 d n m a c i = true) : Calls Try.prog 13 #[.agg #[.int .i64 39, .int .i64 d, .int .i64 n, .int .i64 m, .int .i64 a, .int .i64 c, .int .i64 i]] w (RowP [] w) := by
  have HCK := Lib.hid (fun w => (by have := rcheck_39 d n m a c i w; rw [hok] at this; exact this) : ∀ w, Calls Try.prog 10 #[.agg #[.int .i64 39, .int .i64 d, .int .i64 n, .int .i64 m, .int .i64 a, .int .i64 c, .int .i64 i]] w fun e w' => e = .returned (.int .i64 0) ∧ Below w.heap.size w w')
  clear hok
  go_enter Try.func13, Try.ntmps13
  go_wp2_with fail
  refine (HCK.out _).mono ?_
  rintro e w0 ⟨rfl, hb⟩
  have HB0 := Lib.hid (((Below.refl _ _).alloc (Nat.le_refl _) _).trans (hb.mono (by simp)) : Below w.heap.size w w0)
  have HI0 := Lib.hid ((InsC.new w (.int .i64 39) (.int .i64 d) (.int .i64 n) (.int .i64 m) (.int .i64 a) (.int .i64 c) (.int .i64 i)).below' hb rfl)
  obtain ⟨hl, i0, i1, i2, i3, i4, i5, i6⟩ := HI0.out
  have HO0 := Lib.hid (World.ownsRow_nil w0 w.heap.size 3 1)
  have hs0 : w.heap.size ≤ w0.heap.size := HB0.out.size
  clear hb
  go_wp2_with (first | (go_at_call 40; refine (rfields_39 _).mono ?_; rintro e w' ⟨rfl, rfl⟩) | (go_at_call 21; refine (rload_39 _).mono ?_; rintro e w' ⟨rfl, rfl⟩))
  go_ret
  exact ⟨_, rfl, HO0.out, (fun _ => rfl), HB0.out⟩
set_option maxRecDepth 100000 in
set_option maxHeartbeats 2000000 in
theorem rout_39 (d n m a c i : Int) (w : World) (hok : ok_39 d n m a c i = true) : Calls Try.prog 15 #[.agg #[.int .i64 39, .int .i64 d, .int .i64 n, .int .i64 m, .int .i64 a, .int .i64 c, .int .i64 i]] w (RowP [] w) := by
  have HCK := Lib.hid (fun w => (by have := rcheck_39 d n m a c i w; rw [hok] at this; exact this) : ∀ w, Calls Try.prog 10 #[.agg #[.int .i64 39, .int .i64 d, .int .i64 n, .int .i64 m, .int .i64 a, .int .i64 c, .int .i64 i]] w fun e w' => e = .returned (.int .i64 0) ∧ Below w.heap.size w w')
  clear hok
  go_enter Try.func15, Try.ntmps15
  go_wp2_with fail
  refine (HCK.out _).mono ?_
  rintro e w0 ⟨rfl, hb⟩
  have HB0 := Lib.hid (((Below.refl _ _).alloc (Nat.le_refl _) _).trans (hb.mono (by simp)) : Below w.heap.size w w0)
  have HI0 := Lib.hid ((InsC.new w (.int .i64 39) (.int .i64 d) (.int .i64 n) (.int .i64 m) (.int .i64 a) (.int .i64 c) (.int .i64 i)).below' hb rfl)
  obtain ⟨hl, i0, i1, i2, i3, i4, i5, i6⟩ := HI0.out
  have HO0 := Lib.hid (World.ownsRow_nil w0 w.heap.size 3 1)
  have hs0 : w.heap.size ≤ w0.heap.size := HB0.out.size
  clear hb
  go_wp2_with (first | (go_at_call 40; refine (rfields_39 _).mono ?_; rintro e w' ⟨rfl, rfl⟩) | (go_at_call 21; refine (rload_39 _).mono ?_; rintro e w' ⟨rfl, rfl⟩))
  go_ret
  exact ⟨_, rfl, HO0.out, (fun _ => rfl), HB0.out⟩
end Go.Proofs.Ytejdlhafdnpcmaa
