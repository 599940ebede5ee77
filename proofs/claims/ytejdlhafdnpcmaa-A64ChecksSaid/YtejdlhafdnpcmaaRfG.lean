import Derived.Test.YtejdlhafdnpcmaaRows
import Derived.WalkKit
import Derived.ProofKit
import Derived.OpenShut
import Derived.Outline
import Derived.WalkSmall
import Derived.WalkLawsBesides
import Derived.WalkSpells
import Derived.BigGuardPart
import Derived.RegionTactic
import Derived.Lib.Hide
import Derived.Below
import Derived.Deep.RegionWith
import Derived.Deep.RegionHeld3
import Derived.Test.YtejdlhafdnpcmaaRfL
import Derived.Test.YtejdlhafdnpcmaaRfC
namespace Go.Proofs.Ytejdlhafdnpcmaa
open Go.ChangeShapes Go.WideShapes Go.ChangeAt Go.RowKit
set_option linter.unusedVariables false
set_option maxRecDepth 100000 in
set_option maxHeartbeats 2000000 in
theorem rin_1 (d n m a c i : Int) (w : World) (hok : ok_1 d n m a c i = true) : Calls Try.prog 13 #[.agg #[.int .i64 1, .int .i64 d, .int .i64 n, .int .i64 m, .int .i64 a, .int .i64 c, .int .i64 i]] w (RowP [] w) := by
  have HCK := Lib.hid (fun w => (by have := rcheck_1 d n m a c i w; rw [hok] at this; exact this) : ∀ w, Calls Try.prog 10 #[.agg #[.int .i64 1, .int .i64 d, .int .i64 n, .int .i64 m, .int .i64 a, .int .i64 c, .int .i64 i]] w fun e w' => e = .returned (.int .i64 0) ∧ Below w.heap.size w w')
  clear hok
  go_enter Try.func13, Try.ntmps13
  go_wp2_with fail
  refine (HCK.out _).mono ?_
  rintro e w0 ⟨rfl, hb⟩
  have HB0 := Lib.hid (((Below.refl _ _).alloc (Nat.le_refl _) _).trans (hb.mono (by simp)) : Below w.heap.size w w0)
  have HI0 := Lib.hid ((InsC.new w (.int .i64 1) (.int .i64 d) (.int .i64 n) (.int .i64 m) (.int .i64 a) (.int .i64 c) (.int .i64 i)).below' hb rfl)
  obtain ⟨hl, i0, i1, i2, i3, i4, i5, i6⟩ := HI0.out
  have HO0 := Lib.hid (World.ownsRow_nil w0 w.heap.size 3 1)
  have hs0 : w.heap.size ≤ w0.heap.size := HB0.out.size
  clear hb
  go_wp2_with (first | (go_at_call 40; refine (rfields_1 _).mono ?_; rintro e w' ⟨rfl, rfl⟩) | (go_at_call 21; refine (rload_1 _).mono ?_; rintro e w' ⟨rfl, rfl⟩))
  go_ret
  exact ⟨_, rfl, HO0.out, (fun _ => rfl), HB0.out⟩
set_option maxRecDepth 100000 in
set_option maxHeartbeats 2000000 in
theorem rout_1 (d n m a c i : Int) (w : World) (hok : ok_1 d n m a c i = true) : Calls Try.prog 15 #[.agg #[.int .i64 1, .int .i64 d, .int .i64 n, .int .i64 m, .int .i64 a, .int .i64 c, .int .i64 i]] w (RowP [] w) := by
  have HCK := Lib.hid (fun w => (by have := rcheck_1 d n m a c i w; rw [hok] at this; exact this) : ∀ w, Calls Try.prog 10 #[.agg #[.int .i64 1, .int .i64 d, .int .i64 n, .int .i64 m, .int .i64 a, .int .i64 c, .int .i64 i]] w fun e w' => e = .returned (.int .i64 0) ∧ Below w.heap.size w w')
  clear hok
  go_enter Try.func15, Try.ntmps15
  go_wp2_with fail
  refine (HCK.out _).mono ?_
  rintro e w0 ⟨rfl, hb⟩
  have HB0 := Lib.hid (((Below.refl _ _).alloc (Nat.le_refl _) _).trans (hb.mono (by simp)) : Below w.heap.size w w0)
  have HI0 := Lib.hid ((InsC.new w (.int .i64 1) (.int .i64 d) (.int .i64 n) (.int .i64 m) (.int .i64 a) (.int .i64 c) (.int .i64 i)).below' hb rfl)
  obtain ⟨hl, i0, i1, i2, i3, i4, i5, i6⟩ := HI0.out
  have HO0 := Lib.hid (World.ownsRow_nil w0 w.heap.size 3 1)
  have hs0 : w.heap.size ≤ w0.heap.size := HB0.out.size
  clear hb
  go_wp2_with (first | (go_at_call 40; refine (rfields_1 _).mono ?_; rintro e w' ⟨rfl, rfl⟩) | (go_at_call 21; refine (rload_1 _).mono ?_; rintro e w' ⟨rfl, rfl⟩))
  go_ret
  exact ⟨_, rfl, HO0.out, (fun _ => rfl), HB0.out⟩
set_option maxRecDepth 100000 in
set_option maxHeartbeats 2000000 in
theorem rin_5 (d n m a c i : Int) (w : World) (hok : ok_5 d n m a c i = true) : Calls Try.prog 13 #[.agg #[.int .i64 5, .int .i64 d, .int .i64 n, .int .i64 m, .int .i64 a, .int .i64 c, .int .i64 i]] w (RowP [(spOr n)] w) := by
  have HCK := Lib.hid (fun w => (by have := rcheck_5 d n m a c i w; rw [hok] at this; exact this) : ∀ w, Calls Try.prog 10 #[.agg #[.int .i64 5, .int .i64 d, .int .i64 n, .int .i64 m, .int .i64 a, .int .i64 c, .int .i64 i]] w fun e w' => e = .returned (.int .i64 0) ∧ Below w.heap.size w w')
  clear hok
  go_enter Try.func13, Try.ntmps13
  go_wp2_with fail
  refine (HCK.out _).mono ?_
  rintro e w0 ⟨rfl, hb⟩
  have HB0 := Lib.hid (((Below.refl _ _).alloc (Nat.le_refl _) _).trans (hb.mono (by simp)) : Below w.heap.size w w0)
  have HI0 := Lib.hid ((InsC.new w (.int .i64 5) (.int .i64 d) (.int .i64 n) (.int .i64 m) (.int .i64 a) (.int .i64 c) (.int .i64 i)).below' hb rfl)
  obtain ⟨hl, i0, i1, i2, i3, i4, i5, i6⟩ := HI0.out
  have HO0 := Lib.hid (World.ownsRow_nil w0 w.heap.size 3 1)
  have hs0 : w.heap.size ≤ w0.heap.size := HB0.out.size
  clear hb
  go_wp2_with (first | (go_at_call 40; refine (rfields_5 _).mono ?_; rintro e w' ⟨rfl, rfl⟩) | (go_at_call 21; refine (rload_5 _).mono ?_; rintro e w' ⟨rfl, rfl⟩))
  refine (rbase_5 d n m a c i _).mono ?_
  rintro e w1 ⟨rfl, hb⟩
  have HB1 := Lib.hid (HB0.out.trans (hb.mono hs0))
  have HI1 := Lib.hid (HI0.out.below' hb rfl)
  clear hl i0 i1 i2 i3 i4 i5 i6
  obtain ⟨hl, i0, i1, i2, i3, i4, i5, i6⟩ := HI1.out
  have HO1 := Lib.hid (World.ownsRow_nil w1 w.heap.size 3 1)
  have hs1 : w.heap.size ≤ w1.heap.size := HB1.out.size
  clear hb
  go_wp2_with (first | (go_at_call 40; refine (rfields_5 _).mono ?_; rintro e w' ⟨rfl, rfl⟩) | (go_at_call 21; refine (rload_5 _).mono ?_; rintro e w' ⟨rfl, rfl⟩))
  refine (laid_own w.heap.size (puts []) (spOr n) (.slice none 0 0) _ hs1 (Nat.le_trans (puts_length []) (by simp)) (puts_sorted _) (fun _ => rfl) HO1.out).mono ?_
  rintro e w2 ⟨v2, rfl, ho, hz, hb⟩
  have HB2 := Lib.hid (HB1.out.trans (hb.mono hs1))
  have HI2 := Lib.hid (HI1.out.below' hb rfl)
  clear hl i0 i1 i2 i3 i4 i5 i6
  obtain ⟨hl, i0, i1, i2, i3, i4, i5, i6⟩ := HI2.out
  have HO2 : Hid (w2.ownsRow w.heap.size 3 1 v2 (puts [(spOr n)]).length (ivs (puts [(spOr n)]))) := Lib.hid ho
  have HZ2 : Hid (puts [(spOr n)] = [] → v2 = .slice none 0 0) := Lib.hid hz
  have hs2 : w.heap.size ≤ w2.heap.size := HB2.out.size
  clear hb ho hz
  go_wp2_with (first | (go_at_call 40; refine (rfields_5 _).mono ?_; rintro e w' ⟨rfl, rfl⟩) | (go_at_call 21; refine (rload_5 _).mono ?_; rintro e w' ⟨rfl, rfl⟩))
  go_ret
  exact ⟨_, rfl, HO2.out, HZ2.out, HB2.out⟩
set_option maxRecDepth 100000 in
set_option maxHeartbeats 2000000 in
theorem rout_5 (d n m a c i : Int) (w : World) (hok : ok_5 d n m a c i = true) : Calls Try.prog 15 #[.agg #[.int .i64 5, .int .i64 d, .int .i64 n, .int .i64 m, .int .i64 a, .int .i64 c, .int .i64 i]] w (RowP [(spOr d)] w) := by
  have HCK := Lib.hid (fun w => (by have := rcheck_5 d n m a c i w; rw [hok] at this; exact this) : ∀ w, Calls Try.prog 10 #[.agg #[.int .i64 5, .int .i64 d, .int .i64 n, .int .i64 m, .int .i64 a, .int .i64 c, .int .i64 i]] w fun e w' => e = .returned (.int .i64 0) ∧ Below w.heap.size w w')
  clear hok
  go_enter Try.func15, Try.ntmps15
  go_wp2_with fail
  refine (HCK.out _).mono ?_
  rintro e w0 ⟨rfl, hb⟩
  have HB0 := Lib.hid (((Below.refl _ _).alloc (Nat.le_refl _) _).trans (hb.mono (by simp)) : Below w.heap.size w w0)
  have HI0 := Lib.hid ((InsC.new w (.int .i64 5) (.int .i64 d) (.int .i64 n) (.int .i64 m) (.int .i64 a) (.int .i64 c) (.int .i64 i)).below' hb rfl)
  obtain ⟨hl, i0, i1, i2, i3, i4, i5, i6⟩ := HI0.out
  have HO0 := Lib.hid (World.ownsRow_nil w0 w.heap.size 3 1)
  have hs0 : w.heap.size ≤ w0.heap.size := HB0.out.size
  clear hb
  go_wp2_with (first | (go_at_call 40; refine (rfields_5 _).mono ?_; rintro e w' ⟨rfl, rfl⟩) | (go_at_call 21; refine (rload_5 _).mono ?_; rintro e w' ⟨rfl, rfl⟩))
  refine (rdest_5 d n m a c i _).mono ?_
  rintro e w1 ⟨rfl, hb⟩
  have HB1 := Lib.hid (HB0.out.trans (hb.mono hs0))
  have HI1 := Lib.hid (HI0.out.below' hb rfl)
  clear hl i0 i1 i2 i3 i4 i5 i6
  obtain ⟨hl, i0, i1, i2, i3, i4, i5, i6⟩ := HI1.out
  have HO1 := Lib.hid (World.ownsRow_nil w1 w.heap.size 3 1)
  have hs1 : w.heap.size ≤ w1.heap.size := HB1.out.size
  clear hb
  go_wp2_with (first | (go_at_call 40; refine (rfields_5 _).mono ?_; rintro e w' ⟨rfl, rfl⟩) | (go_at_call 21; refine (rload_5 _).mono ?_; rintro e w' ⟨rfl, rfl⟩))
  refine (laid_own w.heap.size (puts []) (spOr d) (.slice none 0 0) _ hs1 (Nat.le_trans (puts_length []) (by simp)) (puts_sorted _) (fun _ => rfl) HO1.out).mono ?_
  rintro e w2 ⟨v2, rfl, ho, hz, hb⟩
  have HB2 := Lib.hid (HB1.out.trans (hb.mono hs1))
  have HI2 := Lib.hid (HI1.out.below' hb rfl)
  clear hl i0 i1 i2 i3 i4 i5 i6
  obtain ⟨hl, i0, i1, i2, i3, i4, i5, i6⟩ := HI2.out
  have HO2 : Hid (w2.ownsRow w.heap.size 3 1 v2 (puts [(spOr d)]).length (ivs (puts [(spOr d)]))) := Lib.hid ho
  have HZ2 : Hid (puts [(spOr d)] = [] → v2 = .slice none 0 0) := Lib.hid hz
  have hs2 : w.heap.size ≤ w2.heap.size := HB2.out.size
  clear hb ho hz
  go_wp2_with (first | (go_at_call 40; refine (rfields_5 _).mono ?_; rintro e w' ⟨rfl, rfl⟩) | (go_at_call 21; refine (rload_5 _).mono ?_; rintro e w' ⟨rfl, rfl⟩))
  go_ret
  exact ⟨_, rfl, HO2.out, HZ2.out, HB2.out⟩
set_option maxRecDepth 100000 in
set_option maxHeartbeats 2000000 in
theorem rin_9 (d n m a c i : Int) (w : World) (hok : ok_9 d n m a c i = true) : Calls Try.prog 13 #[.agg #[.int .i64 9, .int .i64 d, .int .i64 n, .int .i64 m, .int .i64 a, .int .i64 c, .int .i64 i]] w (RowP [n, m] w) := by
  have HCK := Lib.hid (fun w => (by have := rcheck_9 d n m a c i w; rw [hok] at this; exact this) : ∀ w, Calls Try.prog 10 #[.agg #[.int .i64 9, .int .i64 d, .int .i64 n, .int .i64 m, .int .i64 a, .int .i64 c, .int .i64 i]] w fun e w' => e = .returned (.int .i64 0) ∧ Below w.heap.size w w')
  clear hok
  go_enter Try.func13, Try.ntmps13
  go_wp2_with fail
  refine (HCK.out _).mono ?_
  rintro e w0 ⟨rfl, hb⟩
  have HB0 := Lib.hid (((Below.refl _ _).alloc (Nat.le_refl _) _).trans (hb.mono (by simp)) : Below w.heap.size w w0)
  have HI0 := Lib.hid ((InsC.new w (.int .i64 9) (.int .i64 d) (.int .i64 n) (.int .i64 m) (.int .i64 a) (.int .i64 c) (.int .i64 i)).below' hb rfl)
  obtain ⟨hl, i0, i1, i2, i3, i4, i5, i6⟩ := HI0.out
  have HO0 := Lib.hid (World.ownsRow_nil w0 w.heap.size 3 1)
  have hs0 : w.heap.size ≤ w0.heap.size := HB0.out.size
  clear hb
  go_wp2_with (first | (go_at_call 40; refine (rfields_9 _).mono ?_; rintro e w' ⟨rfl, rfl⟩) | (go_at_call 21; refine (rload_9 _).mono ?_; rintro e w' ⟨rfl, rfl⟩))
  refine (rbase_9 d n m a c i _).mono ?_
  rintro e w1 ⟨rfl, hb⟩
  have HB1 := Lib.hid (HB0.out.trans (hb.mono hs0))
  have HI1 := Lib.hid (HI0.out.below' hb rfl)
  clear hl i0 i1 i2 i3 i4 i5 i6
  obtain ⟨hl, i0, i1, i2, i3, i4, i5, i6⟩ := HI1.out
  have HO1 := Lib.hid (World.ownsRow_nil w1 w.heap.size 3 1)
  have hs1 : w.heap.size ≤ w1.heap.size := HB1.out.size
  clear hb
  go_wp2_with (first | (go_at_call 40; refine (rfields_9 _).mono ?_; rintro e w' ⟨rfl, rfl⟩) | (go_at_call 21; refine (rload_9 _).mono ?_; rintro e w' ⟨rfl, rfl⟩))
  refine (laid_own w.heap.size (puts []) n (.slice none 0 0) _ hs1 (Nat.le_trans (puts_length []) (by simp)) (puts_sorted _) (fun _ => rfl) HO1.out).mono ?_
  rintro e w2 ⟨v2, rfl, ho, hz, hb⟩
  have HB2 := Lib.hid (HB1.out.trans (hb.mono hs1))
  have HI2 := Lib.hid (HI1.out.below' hb rfl)
  clear hl i0 i1 i2 i3 i4 i5 i6
  obtain ⟨hl, i0, i1, i2, i3, i4, i5, i6⟩ := HI2.out
  have HO2 : Hid (w2.ownsRow w.heap.size 3 1 v2 (puts [n]).length (ivs (puts [n]))) := Lib.hid ho
  have HZ2 : Hid (puts [n] = [] → v2 = .slice none 0 0) := Lib.hid hz
  have hs2 : w.heap.size ≤ w2.heap.size := HB2.out.size
  clear hb ho hz
  go_wp2_with (first | (go_at_call 40; refine (rfields_9 _).mono ?_; rintro e w' ⟨rfl, rfl⟩) | (go_at_call 21; refine (rload_9 _).mono ?_; rintro e w' ⟨rfl, rfl⟩))
  refine (laid_own w.heap.size (puts [n]) m v2 _ hs2 (Nat.le_trans (puts_length [n]) (by simp)) (puts_sorted _) HZ2.out HO2.out).mono ?_
  rintro e w3 ⟨v3, rfl, ho, hz, hb⟩
  have HB3 := Lib.hid (HB2.out.trans (hb.mono hs2))
  have HI3 := Lib.hid (HI2.out.below' hb rfl)
  clear hl i0 i1 i2 i3 i4 i5 i6
  obtain ⟨hl, i0, i1, i2, i3, i4, i5, i6⟩ := HI3.out
  have HO3 : Hid (w3.ownsRow w.heap.size 3 1 v3 (puts [n, m]).length (ivs (puts [n, m]))) := Lib.hid ho
  have HZ3 : Hid (puts [n, m] = [] → v3 = .slice none 0 0) := Lib.hid hz
  have hs3 : w.heap.size ≤ w3.heap.size := HB3.out.size
  clear hb ho hz
  go_wp2_with (first | (go_at_call 40; refine (rfields_9 _).mono ?_; rintro e w' ⟨rfl, rfl⟩) | (go_at_call 21; refine (rload_9 _).mono ?_; rintro e w' ⟨rfl, rfl⟩))
  go_ret
  exact ⟨_, rfl, HO3.out, HZ3.out, HB3.out⟩
set_option maxRecDepth 100000 in
set_option maxHeartbeats 2000000 in
theorem rout_9 (d n m a c i : Int) (w : World) (hok : ok_9 d n m a c i = true) : Calls Try.prog 15 #[.agg #[.int .i64 9, .int .i64 d, .int .i64 n, .int .i64 m, .int .i64 a, .int .i64 c, .int .i64 i]] w (RowP [d, 33] w) := by
  have HCK := Lib.hid (fun w => (by have := rcheck_9 d n m a c i w; rw [hok] at this; exact this) : ∀ w, Calls Try.prog 10 #[.agg #[.int .i64 9, .int .i64 d, .int .i64 n, .int .i64 m, .int .i64 a, .int .i64 c, .int .i64 i]] w fun e w' => e = .returned (.int .i64 0) ∧ Below w.heap.size w w')
  clear hok
  go_enter Try.func15, Try.ntmps15
  go_wp2_with fail
  refine (HCK.out _).mono ?_
  rintro e w0 ⟨rfl, hb⟩
  have HB0 := Lib.hid (((Below.refl _ _).alloc (Nat.le_refl _) _).trans (hb.mono (by simp)) : Below w.heap.size w w0)
  have HI0 := Lib.hid ((InsC.new w (.int .i64 9) (.int .i64 d) (.int .i64 n) (.int .i64 m) (.int .i64 a) (.int .i64 c) (.int .i64 i)).below' hb rfl)
  obtain ⟨hl, i0, i1, i2, i3, i4, i5, i6⟩ := HI0.out
  have HO0 := Lib.hid (World.ownsRow_nil w0 w.heap.size 3 1)
  have hs0 : w.heap.size ≤ w0.heap.size := HB0.out.size
  clear hb
  go_wp2_with (first | (go_at_call 40; refine (rfields_9 _).mono ?_; rintro e w' ⟨rfl, rfl⟩) | (go_at_call 21; refine (rload_9 _).mono ?_; rintro e w' ⟨rfl, rfl⟩))
  refine (rdest_9 d n m a c i _).mono ?_
  rintro e w1 ⟨rfl, hb⟩
  have HB1 := Lib.hid (HB0.out.trans (hb.mono hs0))
  have HI1 := Lib.hid (HI0.out.below' hb rfl)
  clear hl i0 i1 i2 i3 i4 i5 i6
  obtain ⟨hl, i0, i1, i2, i3, i4, i5, i6⟩ := HI1.out
  have HO1 := Lib.hid (World.ownsRow_nil w1 w.heap.size 3 1)
  have hs1 : w.heap.size ≤ w1.heap.size := HB1.out.size
  clear hb
  go_wp2_with (first | (go_at_call 40; refine (rfields_9 _).mono ?_; rintro e w' ⟨rfl, rfl⟩) | (go_at_call 21; refine (rload_9 _).mono ?_; rintro e w' ⟨rfl, rfl⟩))
  refine (laid_own w.heap.size (puts []) d (.slice none 0 0) _ hs1 (Nat.le_trans (puts_length []) (by simp)) (puts_sorted _) (fun _ => rfl) HO1.out).mono ?_
  rintro e w2 ⟨v2, rfl, ho, hz, hb⟩
  have HB2 := Lib.hid (HB1.out.trans (hb.mono hs1))
  have HI2 := Lib.hid (HI1.out.below' hb rfl)
  clear hl i0 i1 i2 i3 i4 i5 i6
  obtain ⟨hl, i0, i1, i2, i3, i4, i5, i6⟩ := HI2.out
  have HO2 : Hid (w2.ownsRow w.heap.size 3 1 v2 (puts [d]).length (ivs (puts [d]))) := Lib.hid ho
  have HZ2 : Hid (puts [d] = [] → v2 = .slice none 0 0) := Lib.hid hz
  have hs2 : w.heap.size ≤ w2.heap.size := HB2.out.size
  clear hb ho hz
  go_wp2_with (first | (go_at_call 40; refine (rfields_9 _).mono ?_; rintro e w' ⟨rfl, rfl⟩) | (go_at_call 21; refine (rload_9 _).mono ?_; rintro e w' ⟨rfl, rfl⟩))
  refine (laid_own w.heap.size (puts [d]) 33 v2 _ hs2 (Nat.le_trans (puts_length [d]) (by simp)) (puts_sorted _) HZ2.out HO2.out).mono ?_
  rintro e w3 ⟨v3, rfl, ho, hz, hb⟩
  have HB3 := Lib.hid (HB2.out.trans (hb.mono hs2))
  have HI3 := Lib.hid (HI2.out.below' hb rfl)
  clear hl i0 i1 i2 i3 i4 i5 i6
  obtain ⟨hl, i0, i1, i2, i3, i4, i5, i6⟩ := HI3.out
  have HO3 : Hid (w3.ownsRow w.heap.size 3 1 v3 (puts [d, 33]).length (ivs (puts [d, 33]))) := Lib.hid ho
  have HZ3 : Hid (puts [d, 33] = [] → v3 = .slice none 0 0) := Lib.hid hz
  have hs3 : w.heap.size ≤ w3.heap.size := HB3.out.size
  clear hb ho hz
  go_wp2_with (first | (go_at_call 40; refine (rfields_9 _).mono ?_; rintro e w' ⟨rfl, rfl⟩) | (go_at_call 21; refine (rload_9 _).mono ?_; rintro e w' ⟨rfl, rfl⟩))
  go_ret
  exact ⟨_, rfl, HO3.out, HZ3.out, HB3.out⟩
set_option maxRecDepth 100000 in
set_option maxHeartbeats 2000000 in
theorem rin_13 (d n m a c i : Int) (w : World) (hok : ok_13 d n m a c i = true) : Calls Try.prog 13 #[.agg #[.int .i64 13, .int .i64 d, .int .i64 n, .int .i64 m, .int .i64 a, .int .i64 c, .int .i64 i]] w (RowP [n, m, a] w) := by
  have HCK := Lib.hid (fun w => (by have := rcheck_13 d n m a c i w; rw [hok] at this; exact this) : ∀ w, Calls Try.prog 10 #[.agg #[.int .i64 13, .int .i64 d, .int .i64 n, .int .i64 m, .int .i64 a, .int .i64 c, .int .i64 i]] w fun e w' => e = .returned (.int .i64 0) ∧ Below w.heap.size w w')
  clear hok
  go_enter Try.func13, Try.ntmps13
  go_wp2_with fail
  refine (HCK.out _).mono ?_
  rintro e w0 ⟨rfl, hb⟩
  have HB0 := Lib.hid (((Below.refl _ _).alloc (Nat.le_refl _) _).trans (hb.mono (by simp)) : Below w.heap.size w w0)
  have HI0 := Lib.hid ((InsC.new w (.int .i64 13) (.int .i64 d) (.int .i64 n) (.int .i64 m) (.int .i64 a) (.int .i64 c) (.int .i64 i)).below' hb rfl)
  obtain ⟨hl, i0, i1, i2, i3, i4, i5, i6⟩ := HI0.out
  have HO0 := Lib.hid (World.ownsRow_nil w0 w.heap.size 3 1)
  have hs0 : w.heap.size ≤ w0.heap.size := HB0.out.size
  clear hb
  go_wp2_with (first | (go_at_call 40; refine (rfields_13 _).mono ?_; rintro e w' ⟨rfl, rfl⟩) | (go_at_call 21; refine (rload_13 _).mono ?_; rintro e w' ⟨rfl, rfl⟩))
  refine (rbase_13 d n m a c i _).mono ?_
  rintro e w1 ⟨rfl, hb⟩
  have HB1 := Lib.hid (HB0.out.trans (hb.mono hs0))
  have HI1 := Lib.hid (HI0.out.below' hb rfl)
  clear hl i0 i1 i2 i3 i4 i5 i6
  obtain ⟨hl, i0, i1, i2, i3, i4, i5, i6⟩ := HI1.out
  have HO1 := Lib.hid (World.ownsRow_nil w1 w.heap.size 3 1)
  have hs1 : w.heap.size ≤ w1.heap.size := HB1.out.size
  clear hb
  go_wp2_with (first | (go_at_call 40; refine (rfields_13 _).mono ?_; rintro e w' ⟨rfl, rfl⟩) | (go_at_call 21; refine (rload_13 _).mono ?_; rintro e w' ⟨rfl, rfl⟩))
  refine (laid_own w.heap.size (puts []) n (.slice none 0 0) _ hs1 (Nat.le_trans (puts_length []) (by simp)) (puts_sorted _) (fun _ => rfl) HO1.out).mono ?_
  rintro e w2 ⟨v2, rfl, ho, hz, hb⟩
  have HB2 := Lib.hid (HB1.out.trans (hb.mono hs1))
  have HI2 := Lib.hid (HI1.out.below' hb rfl)
  clear hl i0 i1 i2 i3 i4 i5 i6
  obtain ⟨hl, i0, i1, i2, i3, i4, i5, i6⟩ := HI2.out
  have HO2 : Hid (w2.ownsRow w.heap.size 3 1 v2 (puts [n]).length (ivs (puts [n]))) := Lib.hid ho
  have HZ2 : Hid (puts [n] = [] → v2 = .slice none 0 0) := Lib.hid hz
  have hs2 : w.heap.size ≤ w2.heap.size := HB2.out.size
  clear hb ho hz
  go_wp2_with (first | (go_at_call 40; refine (rfields_13 _).mono ?_; rintro e w' ⟨rfl, rfl⟩) | (go_at_call 21; refine (rload_13 _).mono ?_; rintro e w' ⟨rfl, rfl⟩))
  refine (laid_own w.heap.size (puts [n]) m v2 _ hs2 (Nat.le_trans (puts_length [n]) (by simp)) (puts_sorted _) HZ2.out HO2.out).mono ?_
  rintro e w3 ⟨v3, rfl, ho, hz, hb⟩
  have HB3 := Lib.hid (HB2.out.trans (hb.mono hs2))
  have HI3 := Lib.hid (HI2.out.below' hb rfl)
  clear hl i0 i1 i2 i3 i4 i5 i6
  obtain ⟨hl, i0, i1, i2, i3, i4, i5, i6⟩ := HI3.out
  have HO3 : Hid (w3.ownsRow w.heap.size 3 1 v3 (puts [n, m]).length (ivs (puts [n, m]))) := Lib.hid ho
  have HZ3 : Hid (puts [n, m] = [] → v3 = .slice none 0 0) := Lib.hid hz
  have hs3 : w.heap.size ≤ w3.heap.size := HB3.out.size
  clear hb ho hz
  go_wp2_with (first | (go_at_call 40; refine (rfields_13 _).mono ?_; rintro e w' ⟨rfl, rfl⟩) | (go_at_call 21; refine (rload_13 _).mono ?_; rintro e w' ⟨rfl, rfl⟩))
  refine (laid_own w.heap.size (puts [n, m]) a v3 _ hs3 (Nat.le_trans (puts_length [n, m]) (by simp)) (puts_sorted _) HZ3.out HO3.out).mono ?_
  rintro e w4 ⟨v4, rfl, ho, hz, hb⟩
  have HB4 := Lib.hid (HB3.out.trans (hb.mono hs3))
  have HI4 := Lib.hid (HI3.out.below' hb rfl)
  clear hl i0 i1 i2 i3 i4 i5 i6
  obtain ⟨hl, i0, i1, i2, i3, i4, i5, i6⟩ := HI4.out
  have HO4 : Hid (w4.ownsRow w.heap.size 3 1 v4 (puts [n, m, a]).length (ivs (puts [n, m, a]))) := Lib.hid ho
  have HZ4 : Hid (puts [n, m, a] = [] → v4 = .slice none 0 0) := Lib.hid hz
  have hs4 : w.heap.size ≤ w4.heap.size := HB4.out.size
  clear hb ho hz
  go_wp2_with (first | (go_at_call 40; refine (rfields_13 _).mono ?_; rintro e w' ⟨rfl, rfl⟩) | (go_at_call 21; refine (rload_13 _).mono ?_; rintro e w' ⟨rfl, rfl⟩))
  go_ret
  exact ⟨_, rfl, HO4.out, HZ4.out, HB4.out⟩
set_option maxRecDepth 100000 in
set_option maxHeartbeats 2000000 in
theorem rout_13 (d n m a c i : Int) (w : World) (hok : ok_13 d n m a c i = true) : Calls Try.prog 15 #[.agg #[.int .i64 13, .int .i64 d, .int .i64 n, .int .i64 m, .int .i64 a, .int .i64 c, .int .i64 i]] w (RowP [d] w) := by
  have HCK := Lib.hid (fun w => (by have := rcheck_13 d n m a c i w; rw [hok] at this; exact this) : ∀ w, Calls Try.prog 10 #[.agg #[.int .i64 13, .int .i64 d, .int .i64 n, .int .i64 m, .int .i64 a, .int .i64 c, .int .i64 i]] w fun e w' => e = .returned (.int .i64 0) ∧ Below w.heap.size w w')
  clear hok
  go_enter Try.func15, Try.ntmps15
  go_wp2_with fail
  refine (HCK.out _).mono ?_
  rintro e w0 ⟨rfl, hb⟩
  have HB0 := Lib.hid (((Below.refl _ _).alloc (Nat.le_refl _) _).trans (hb.mono (by simp)) : Below w.heap.size w w0)
  have HI0 := Lib.hid ((InsC.new w (.int .i64 13) (.int .i64 d) (.int .i64 n) (.int .i64 m) (.int .i64 a) (.int .i64 c) (.int .i64 i)).below' hb rfl)
  obtain ⟨hl, i0, i1, i2, i3, i4, i5, i6⟩ := HI0.out
  have HO0 := Lib.hid (World.ownsRow_nil w0 w.heap.size 3 1)
  have hs0 : w.heap.size ≤ w0.heap.size := HB0.out.size
  clear hb
  go_wp2_with (first | (go_at_call 40; refine (rfields_13 _).mono ?_; rintro e w' ⟨rfl, rfl⟩) | (go_at_call 21; refine (rload_13 _).mono ?_; rintro e w' ⟨rfl, rfl⟩))
  refine (rdest_13 d n m a c i _).mono ?_
  rintro e w1 ⟨rfl, hb⟩
  have HB1 := Lib.hid (HB0.out.trans (hb.mono hs0))
  have HI1 := Lib.hid (HI0.out.below' hb rfl)
  clear hl i0 i1 i2 i3 i4 i5 i6
  obtain ⟨hl, i0, i1, i2, i3, i4, i5, i6⟩ := HI1.out
  have HO1 := Lib.hid (World.ownsRow_nil w1 w.heap.size 3 1)
  have hs1 : w.heap.size ≤ w1.heap.size := HB1.out.size
  clear hb
  go_wp2_with (first | (go_at_call 40; refine (rfields_13 _).mono ?_; rintro e w' ⟨rfl, rfl⟩) | (go_at_call 21; refine (rload_13 _).mono ?_; rintro e w' ⟨rfl, rfl⟩))
  refine (laid_own w.heap.size (puts []) d (.slice none 0 0) _ hs1 (Nat.le_trans (puts_length []) (by simp)) (puts_sorted _) (fun _ => rfl) HO1.out).mono ?_
  rintro e w2 ⟨v2, rfl, ho, hz, hb⟩
  have HB2 := Lib.hid (HB1.out.trans (hb.mono hs1))
  have HI2 := Lib.hid (HI1.out.below' hb rfl)
  clear hl i0 i1 i2 i3 i4 i5 i6
  obtain ⟨hl, i0, i1, i2, i3, i4, i5, i6⟩ := HI2.out
  have HO2 : Hid (w2.ownsRow w.heap.size 3 1 v2 (puts [d]).length (ivs (puts [d]))) := Lib.hid ho
  have HZ2 : Hid (puts [d] = [] → v2 = .slice none 0 0) := Lib.hid hz
  have hs2 : w.heap.size ≤ w2.heap.size := HB2.out.size
  clear hb ho hz
  go_wp2_with (first | (go_at_call 40; refine (rfields_13 _).mono ?_; rintro e w' ⟨rfl, rfl⟩) | (go_at_call 21; refine (rload_13 _).mono ?_; rintro e w' ⟨rfl, rfl⟩))
  go_ret
  exact ⟨_, rfl, HO2.out, HZ2.out, HB2.out⟩
set_option maxRecDepth 100000 in
set_option maxHeartbeats 2000000 in
theorem rin_17 (d n m a c i : Int) (w : World) (hok : ok_17 d n m a c i = true) : Calls Try.prog 13 #[.agg #[.int .i64 17, .int .i64 d, .int .i64 n, .int .i64 m, .int .i64 a, .int .i64 c, .int .i64 i]] w (RowP [n, m] w) := by
  have HCK := Lib.hid (fun w => (by have := rcheck_17 d n m a c i w; rw [hok] at this; exact this) : ∀ w, Calls Try.prog 10 #[.agg #[.int .i64 17, .int .i64 d, .int .i64 n, .int .i64 m, .int .i64 a, .int .i64 c, .int .i64 i]] w fun e w' => e = .returned (.int .i64 0) ∧ Below w.heap.size w w')
  clear hok
  go_enter Try.func13, Try.ntmps13
  go_wp2_with fail
  refine (HCK.out _).mono ?_
  rintro e w0 ⟨rfl, hb⟩
  have HB0 := Lib.hid (((Below.refl _ _).alloc (Nat.le_refl _) _).trans (hb.mono (by simp)) : Below w.heap.size w w0)
  have HI0 := Lib.hid ((InsC.new w (.int .i64 17) (.int .i64 d) (.int .i64 n) (.int .i64 m) (.int .i64 a) (.int .i64 c) (.int .i64 i)).below' hb rfl)
  obtain ⟨hl, i0, i1, i2, i3, i4, i5, i6⟩ := HI0.out
  have HO0 := Lib.hid (World.ownsRow_nil w0 w.heap.size 3 1)
  have hs0 : w.heap.size ≤ w0.heap.size := HB0.out.size
  clear hb
  go_wp2_with (first | (go_at_call 40; refine (rfields_17 _).mono ?_; rintro e w' ⟨rfl, rfl⟩) | (go_at_call 21; refine (rload_17 _).mono ?_; rintro e w' ⟨rfl, rfl⟩))
  refine (rbase_17 d n m a c i _).mono ?_
  rintro e w1 ⟨rfl, hb⟩
  have HB1 := Lib.hid (HB0.out.trans (hb.mono hs0))
  have HI1 := Lib.hid (HI0.out.below' hb rfl)
  clear hl i0 i1 i2 i3 i4 i5 i6
  obtain ⟨hl, i0, i1, i2, i3, i4, i5, i6⟩ := HI1.out
  have HO1 := Lib.hid (World.ownsRow_nil w1 w.heap.size 3 1)
  have hs1 : w.heap.size ≤ w1.heap.size := HB1.out.size
  clear hb
  go_wp2_with (first | (go_at_call 40; refine (rfields_17 _).mono ?_; rintro e w' ⟨rfl, rfl⟩) | (go_at_call 21; refine (rload_17 _).mono ?_; rintro e w' ⟨rfl, rfl⟩))
  refine (laid_own w.heap.size (puts []) n (.slice none 0 0) _ hs1 (Nat.le_trans (puts_length []) (by simp)) (puts_sorted _) (fun _ => rfl) HO1.out).mono ?_
  rintro e w2 ⟨v2, rfl, ho, hz, hb⟩
  have HB2 := Lib.hid (HB1.out.trans (hb.mono hs1))
  have HI2 := Lib.hid (HI1.out.below' hb rfl)
  clear hl i0 i1 i2 i3 i4 i5 i6
  obtain ⟨hl, i0, i1, i2, i3, i4, i5, i6⟩ := HI2.out
  have HO2 : Hid (w2.ownsRow w.heap.size 3 1 v2 (puts [n]).length (ivs (puts [n]))) := Lib.hid ho
  have HZ2 : Hid (puts [n] = [] → v2 = .slice none 0 0) := Lib.hid hz
  have hs2 : w.heap.size ≤ w2.heap.size := HB2.out.size
  clear hb ho hz
  go_wp2_with (first | (go_at_call 40; refine (rfields_17 _).mono ?_; rintro e w' ⟨rfl, rfl⟩) | (go_at_call 21; refine (rload_17 _).mono ?_; rintro e w' ⟨rfl, rfl⟩))
  refine (laid_own w.heap.size (puts [n]) m v2 _ hs2 (Nat.le_trans (puts_length [n]) (by simp)) (puts_sorted _) HZ2.out HO2.out).mono ?_
  rintro e w3 ⟨v3, rfl, ho, hz, hb⟩
  have HB3 := Lib.hid (HB2.out.trans (hb.mono hs2))
  have HI3 := Lib.hid (HI2.out.below' hb rfl)
  clear hl i0 i1 i2 i3 i4 i5 i6
  obtain ⟨hl, i0, i1, i2, i3, i4, i5, i6⟩ := HI3.out
  have HO3 : Hid (w3.ownsRow w.heap.size 3 1 v3 (puts [n, m]).length (ivs (puts [n, m]))) := Lib.hid ho
  have HZ3 : Hid (puts [n, m] = [] → v3 = .slice none 0 0) := Lib.hid hz
  have hs3 : w.heap.size ≤ w3.heap.size := HB3.out.size
  clear hb ho hz
  go_wp2_with (first | (go_at_call 40; refine (rfields_17 _).mono ?_; rintro e w' ⟨rfl, rfl⟩) | (go_at_call 21; refine (rload_17 _).mono ?_; rintro e w' ⟨rfl, rfl⟩))
  go_ret
  exact ⟨_, rfl, HO3.out, HZ3.out, HB3.out⟩
set_option maxRecDepth 100000 in
set_option maxHeartbeats 2000000 in
theorem rout_17 (d n m a c i : Int) (w : World) (hok : ok_17 d n m a c i = true) : Calls Try.prog 15 #[.agg #[.int .i64 17, .int .i64 d, .int .i64 n, .int .i64 m, .int .i64 a, .int .i64 c, .int .i64 i]] w (RowP [d] w) := by
  have HCK := Lib.hid (fun w => (by have := rcheck_17 d n m a c i w; rw [hok] at this; exact this) : ∀ w, Calls Try.prog 10 #[.agg #[.int .i64 17, .int .i64 d, .int .i64 n, .int .i64 m, .int .i64 a, .int .i64 c, .int .i64 i]] w fun e w' => e = .returned (.int .i64 0) ∧ Below w.heap.size w w')
  clear hok
  go_enter Try.func15, Try.ntmps15
  go_wp2_with fail
  refine (HCK.out _).mono ?_
  rintro e w0 ⟨rfl, hb⟩
  have HB0 := Lib.hid (((Below.refl _ _).alloc (Nat.le_refl _) _).trans (hb.mono (by simp)) : Below w.heap.size w w0)
  have HI0 := Lib.hid ((InsC.new w (.int .i64 17) (.int .i64 d) (.int .i64 n) (.int .i64 m) (.int .i64 a) (.int .i64 c) (.int .i64 i)).below' hb rfl)
  obtain ⟨hl, i0, i1, i2, i3, i4, i5, i6⟩ := HI0.out
  have HO0 := Lib.hid (World.ownsRow_nil w0 w.heap.size 3 1)
  have hs0 : w.heap.size ≤ w0.heap.size := HB0.out.size
  clear hb
  go_wp2_with (first | (go_at_call 40; refine (rfields_17 _).mono ?_; rintro e w' ⟨rfl, rfl⟩) | (go_at_call 21; refine (rload_17 _).mono ?_; rintro e w' ⟨rfl, rfl⟩))
  refine (rdest_17 d n m a c i _).mono ?_
  rintro e w1 ⟨rfl, hb⟩
  have HB1 := Lib.hid (HB0.out.trans (hb.mono hs0))
  have HI1 := Lib.hid (HI0.out.below' hb rfl)
  clear hl i0 i1 i2 i3 i4 i5 i6
  obtain ⟨hl, i0, i1, i2, i3, i4, i5, i6⟩ := HI1.out
  have HO1 := Lib.hid (World.ownsRow_nil w1 w.heap.size 3 1)
  have hs1 : w.heap.size ≤ w1.heap.size := HB1.out.size
  clear hb
  go_wp2_with (first | (go_at_call 40; refine (rfields_17 _).mono ?_; rintro e w' ⟨rfl, rfl⟩) | (go_at_call 21; refine (rload_17 _).mono ?_; rintro e w' ⟨rfl, rfl⟩))
  refine (laid_own w.heap.size (puts []) d (.slice none 0 0) _ hs1 (Nat.le_trans (puts_length []) (by simp)) (puts_sorted _) (fun _ => rfl) HO1.out).mono ?_
  rintro e w2 ⟨v2, rfl, ho, hz, hb⟩
  have HB2 := Lib.hid (HB1.out.trans (hb.mono hs1))
  have HI2 := Lib.hid (HI1.out.below' hb rfl)
  clear hl i0 i1 i2 i3 i4 i5 i6
  obtain ⟨hl, i0, i1, i2, i3, i4, i5, i6⟩ := HI2.out
  have HO2 : Hid (w2.ownsRow w.heap.size 3 1 v2 (puts [d]).length (ivs (puts [d]))) := Lib.hid ho
  have HZ2 : Hid (puts [d] = [] → v2 = .slice none 0 0) := Lib.hid hz
  have hs2 : w.heap.size ≤ w2.heap.size := HB2.out.size
  clear hb ho hz
  go_wp2_with (first | (go_at_call 40; refine (rfields_17 _).mono ?_; rintro e w' ⟨rfl, rfl⟩) | (go_at_call 21; refine (rload_17 _).mono ?_; rintro e w' ⟨rfl, rfl⟩))
  go_ret
  exact ⟨_, rfl, HO2.out, HZ2.out, HB2.out⟩
set_option maxRecDepth 100000 in
set_option maxHeartbeats 2000000 in
theorem rin_21 (d n m a c i : Int) (w : World) (hok : ok_21 d n m a c i = true) : Calls Try.prog 13 #[.agg #[.int .i64 21, .int .i64 d, .int .i64 n, .int .i64 m, .int .i64 a, .int .i64 c, .int .i64 i]] w (RowP [33] w) := by
  have HCK := Lib.hid (fun w => (by have := rcheck_21 d n m a c i w; rw [hok] at this; exact this) : ∀ w, Calls Try.prog 10 #[.agg #[.int .i64 21, .int .i64 d, .int .i64 n, .int .i64 m, .int .i64 a, .int .i64 c, .int .i64 i]] w fun e w' => e = .returned (.int .i64 0) ∧ Below w.heap.size w w')
  clear hok
  go_enter Try.func13, Try.ntmps13
  go_wp2_with fail
  refine (HCK.out _).mono ?_
  rintro e w0 ⟨rfl, hb⟩
  have HB0 := Lib.hid (((Below.refl _ _).alloc (Nat.le_refl _) _).trans (hb.mono (by simp)) : Below w.heap.size w w0)
  have HI0 := Lib.hid ((InsC.new w (.int .i64 21) (.int .i64 d) (.int .i64 n) (.int .i64 m) (.int .i64 a) (.int .i64 c) (.int .i64 i)).below' hb rfl)
  obtain ⟨hl, i0, i1, i2, i3, i4, i5, i6⟩ := HI0.out
  have HO0 := Lib.hid (World.ownsRow_nil w0 w.heap.size 3 1)
  have hs0 : w.heap.size ≤ w0.heap.size := HB0.out.size
  clear hb
  go_wp2_with (first | (go_at_call 40; refine (rfields_21 _).mono ?_; rintro e w' ⟨rfl, rfl⟩) | (go_at_call 21; refine (rload_21 _).mono ?_; rintro e w' ⟨rfl, rfl⟩))
  refine (laid_own w.heap.size (puts []) 33 (.slice none 0 0) _ hs0 (Nat.le_trans (puts_length []) (by simp)) (puts_sorted _) (fun _ => rfl) HO0.out).mono ?_
  rintro e w1 ⟨v1, rfl, ho, hz, hb⟩
  have HB1 := Lib.hid (HB0.out.trans (hb.mono hs0))
  have HI1 := Lib.hid (HI0.out.below' hb rfl)
  clear hl i0 i1 i2 i3 i4 i5 i6
  obtain ⟨hl, i0, i1, i2, i3, i4, i5, i6⟩ := HI1.out
  have HO1 : Hid (w1.ownsRow w.heap.size 3 1 v1 (puts [33]).length (ivs (puts [33]))) := Lib.hid ho
  have HZ1 : Hid (puts [33] = [] → v1 = .slice none 0 0) := Lib.hid hz
  have hs1 : w.heap.size ≤ w1.heap.size := HB1.out.size
  clear hb ho hz
  go_wp2_with (first | (go_at_call 40; refine (rfields_21 _).mono ?_; rintro e w' ⟨rfl, rfl⟩) | (go_at_call 21; refine (rload_21 _).mono ?_; rintro e w' ⟨rfl, rfl⟩))
  go_ret
  exact ⟨_, rfl, HO1.out, HZ1.out, HB1.out⟩
set_option maxRecDepth 100000 in
set_option maxHeartbeats 2000000 in
theorem rout_21 (d n m a c i : Int) (w : World) (hok : ok_21 d n m a c i = true) : Calls Try.prog 15 #[.agg #[.int .i64 21, .int .i64 d, .int .i64 n, .int .i64 m, .int .i64 a, .int .i64 c, .int .i64 i]] w (RowP [] w) := by
  have HCK := Lib.hid (fun w => (by have := rcheck_21 d n m a c i w; rw [hok] at this; exact this) : ∀ w, Calls Try.prog 10 #[.agg #[.int .i64 21, .int .i64 d, .int .i64 n, .int .i64 m, .int .i64 a, .int .i64 c, .int .i64 i]] w fun e w' => e = .returned (.int .i64 0) ∧ Below w.heap.size w w')
  clear hok
  go_enter Try.func15, Try.ntmps15
  go_wp2_with fail
  refine (HCK.out _).mono ?_
  rintro e w0 ⟨rfl, hb⟩
  have HB0 := Lib.hid (((Below.refl _ _).alloc (Nat.le_refl _) _).trans (hb.mono (by simp)) : Below w.heap.size w w0)
  have HI0 := Lib.hid ((InsC.new w (.int .i64 21) (.int .i64 d) (.int .i64 n) (.int .i64 m) (.int .i64 a) (.int .i64 c) (.int .i64 i)).below' hb rfl)
  obtain ⟨hl, i0, i1, i2, i3, i4, i5, i6⟩ := HI0.out
  have HO0 := Lib.hid (World.ownsRow_nil w0 w.heap.size 3 1)
  have hs0 : w.heap.size ≤ w0.heap.size := HB0.out.size
  clear hb
  go_wp2_with (first | (go_at_call 40; refine (rfields_21 _).mono ?_; rintro e w' ⟨rfl, rfl⟩) | (go_at_call 21; refine (rload_21 _).mono ?_; rintro e w' ⟨rfl, rfl⟩))
  go_ret
  exact ⟨_, rfl, HO0.out, (fun _ => rfl), HB0.out⟩
set_option maxRecDepth 100000 in
set_option maxHeartbeats 2000000 in
theorem rin_25 (d n m a c i : Int) (w : World) (hok : ok_25 d n m a c i = true) : Calls Try.prog 13 #[.agg #[.int .i64 25, .int .i64 d, .int .i64 n, .int .i64 m, .int .i64 a, .int .i64 c, .int .i64 i]] w (RowP [n] w) := by
  have HCK := Lib.hid (fun w => (by have := rcheck_25 d n m a c i w; rw [hok] at this; exact this) : ∀ w, Calls Try.prog 10 #[.agg #[.int .i64 25, .int .i64 d, .int .i64 n, .int .i64 m, .int .i64 a, .int .i64 c, .int .i64 i]] w fun e w' => e = .returned (.int .i64 0) ∧ Below w.heap.size w w')
  clear hok
  go_enter Try.func13, Try.ntmps13
  go_wp2_with fail
  refine (HCK.out _).mono ?_
  rintro e w0 ⟨rfl, hb⟩
  have HB0 := Lib.hid (((Below.refl _ _).alloc (Nat.le_refl _) _).trans (hb.mono (by simp)) : Below w.heap.size w w0)
  have HI0 := Lib.hid ((InsC.new w (.int .i64 25) (.int .i64 d) (.int .i64 n) (.int .i64 m) (.int .i64 a) (.int .i64 c) (.int .i64 i)).below' hb rfl)
  obtain ⟨hl, i0, i1, i2, i3, i4, i5, i6⟩ := HI0.out
  have HO0 := Lib.hid (World.ownsRow_nil w0 w.heap.size 3 1)
  have hs0 : w.heap.size ≤ w0.heap.size := HB0.out.size
  clear hb
  go_wp2_with (first | (go_at_call 40; refine (rfields_25 _).mono ?_; rintro e w' ⟨rfl, rfl⟩) | (go_at_call 21; refine (rload_25 _).mono ?_; rintro e w' ⟨rfl, rfl⟩))
  refine (rbase_25 d n m a c i _).mono ?_
  rintro e w1 ⟨rfl, hb⟩
  have HB1 := Lib.hid (HB0.out.trans (hb.mono hs0))
  have HI1 := Lib.hid (HI0.out.below' hb rfl)
  clear hl i0 i1 i2 i3 i4 i5 i6
  obtain ⟨hl, i0, i1, i2, i3, i4, i5, i6⟩ := HI1.out
  have HO1 := Lib.hid (World.ownsRow_nil w1 w.heap.size 3 1)
  have hs1 : w.heap.size ≤ w1.heap.size := HB1.out.size
  clear hb
  go_wp2_with (first | (go_at_call 40; refine (rfields_25 _).mono ?_; rintro e w' ⟨rfl, rfl⟩) | (go_at_call 21; refine (rload_25 _).mono ?_; rintro e w' ⟨rfl, rfl⟩))
  refine (laid_own w.heap.size (puts []) n (.slice none 0 0) _ hs1 (Nat.le_trans (puts_length []) (by simp)) (puts_sorted _) (fun _ => rfl) HO1.out).mono ?_
  rintro e w2 ⟨v2, rfl, ho, hz, hb⟩
  have HB2 := Lib.hid (HB1.out.trans (hb.mono hs1))
  have HI2 := Lib.hid (HI1.out.below' hb rfl)
  clear hl i0 i1 i2 i3 i4 i5 i6
  obtain ⟨hl, i0, i1, i2, i3, i4, i5, i6⟩ := HI2.out
  have HO2 : Hid (w2.ownsRow w.heap.size 3 1 v2 (puts [n]).length (ivs (puts [n]))) := Lib.hid ho
  have HZ2 : Hid (puts [n] = [] → v2 = .slice none 0 0) := Lib.hid hz
  have hs2 : w.heap.size ≤ w2.heap.size := HB2.out.size
  clear hb ho hz
  go_wp2_with (first | (go_at_call 40; refine (rfields_25 _).mono ?_; rintro e w' ⟨rfl, rfl⟩) | (go_at_call 21; refine (rload_25 _).mono ?_; rintro e w' ⟨rfl, rfl⟩))
  go_ret
  exact ⟨_, rfl, HO2.out, HZ2.out, HB2.out⟩
set_option maxRecDepth 100000 in
set_option maxHeartbeats 2000000 in
theorem rout_25 (d n m a c i : Int) (w : World) (hok : ok_25 d n m a c i = true) : Calls Try.prog 15 #[.agg #[.int .i64 25, .int .i64 d, .int .i64 n, .int .i64 m, .int .i64 a, .int .i64 c, .int .i64 i]] w (RowP [] w) := by
  have HCK := Lib.hid (fun w => (by have := rcheck_25 d n m a c i w; rw [hok] at this; exact this) : ∀ w, Calls Try.prog 10 #[.agg #[.int .i64 25, .int .i64 d, .int .i64 n, .int .i64 m, .int .i64 a, .int .i64 c, .int .i64 i]] w fun e w' => e = .returned (.int .i64 0) ∧ Below w.heap.size w w')
  clear hok
  go_enter Try.func15, Try.ntmps15
  go_wp2_with fail
  refine (HCK.out _).mono ?_
  rintro e w0 ⟨rfl, hb⟩
  have HB0 := Lib.hid (((Below.refl _ _).alloc (Nat.le_refl _) _).trans (hb.mono (by simp)) : Below w.heap.size w w0)
  have HI0 := Lib.hid ((InsC.new w (.int .i64 25) (.int .i64 d) (.int .i64 n) (.int .i64 m) (.int .i64 a) (.int .i64 c) (.int .i64 i)).below' hb rfl)
  obtain ⟨hl, i0, i1, i2, i3, i4, i5, i6⟩ := HI0.out
  have HO0 := Lib.hid (World.ownsRow_nil w0 w.heap.size 3 1)
  have hs0 : w.heap.size ≤ w0.heap.size := HB0.out.size
  clear hb
  go_wp2_with (first | (go_at_call 40; refine (rfields_25 _).mono ?_; rintro e w' ⟨rfl, rfl⟩) | (go_at_call 21; refine (rload_25 _).mono ?_; rintro e w' ⟨rfl, rfl⟩))
  go_ret
  exact ⟨_, rfl, HO0.out, (fun _ => rfl), HB0.out⟩
set_option maxRecDepth 100000 in
set_option maxHeartbeats 2000000 in
theorem rin_29 (d n m a c i : Int) (w : World) (hok : ok_29 d n m a c i = true) : Calls Try.prog 13 #[.agg #[.int .i64 29, .int .i64 d, .int .i64 n, .int .i64 m, .int .i64 a, .int .i64 c, .int .i64 i]] w (RowP [(spOr n), d] w) := by
  have HCK := Lib.hid (fun w => (by have := rcheck_29 d n m a c i w; rw [hok] at this; exact this) : ∀ w, Calls Try.prog 10 #[.agg #[.int .i64 29, .int .i64 d, .int .i64 n, .int .i64 m, .int .i64 a, .int .i64 c, .int .i64 i]] w fun e w' => e = .returned (.int .i64 0) ∧ Below w.heap.size w w')
  clear hok
  go_enter Try.func13, Try.ntmps13
  go_wp2_with fail
  refine (HCK.out _).mono ?_
  rintro e w0 ⟨rfl, hb⟩
  have HB0 := Lib.hid (((Below.refl _ _).alloc (Nat.le_refl _) _).trans (hb.mono (by simp)) : Below w.heap.size w w0)
  have HI0 := Lib.hid ((InsC.new w (.int .i64 29) (.int .i64 d) (.int .i64 n) (.int .i64 m) (.int .i64 a) (.int .i64 c) (.int .i64 i)).below' hb rfl)
  obtain ⟨hl, i0, i1, i2, i3, i4, i5, i6⟩ := HI0.out
  have HO0 := Lib.hid (World.ownsRow_nil w0 w.heap.size 3 1)
  have hs0 : w.heap.size ≤ w0.heap.size := HB0.out.size
  clear hb
  go_wp2_with (first | (go_at_call 40; refine (rfields_29 _).mono ?_; rintro e w' ⟨rfl, rfl⟩) | (go_at_call 21; refine (rload_29 _).mono ?_; rintro e w' ⟨rfl, rfl⟩))
  refine (rbase_29 d n m a c i _).mono ?_
  rintro e w1 ⟨rfl, hb⟩
  have HB1 := Lib.hid (HB0.out.trans (hb.mono hs0))
  have HI1 := Lib.hid (HI0.out.below' hb rfl)
  clear hl i0 i1 i2 i3 i4 i5 i6
  obtain ⟨hl, i0, i1, i2, i3, i4, i5, i6⟩ := HI1.out
  have HO1 := Lib.hid (World.ownsRow_nil w1 w.heap.size 3 1)
  have hs1 : w.heap.size ≤ w1.heap.size := HB1.out.size
  clear hb
  go_wp2_with (first | (go_at_call 40; refine (rfields_29 _).mono ?_; rintro e w' ⟨rfl, rfl⟩) | (go_at_call 21; refine (rload_29 _).mono ?_; rintro e w' ⟨rfl, rfl⟩))
  refine (laid_own w.heap.size (puts []) (spOr n) (.slice none 0 0) _ hs1 (Nat.le_trans (puts_length []) (by simp)) (puts_sorted _) (fun _ => rfl) HO1.out).mono ?_
  rintro e w2 ⟨v2, rfl, ho, hz, hb⟩
  have HB2 := Lib.hid (HB1.out.trans (hb.mono hs1))
  have HI2 := Lib.hid (HI1.out.below' hb rfl)
  clear hl i0 i1 i2 i3 i4 i5 i6
  obtain ⟨hl, i0, i1, i2, i3, i4, i5, i6⟩ := HI2.out
  have HO2 : Hid (w2.ownsRow w.heap.size 3 1 v2 (puts [(spOr n)]).length (ivs (puts [(spOr n)]))) := Lib.hid ho
  have HZ2 : Hid (puts [(spOr n)] = [] → v2 = .slice none 0 0) := Lib.hid hz
  have hs2 : w.heap.size ≤ w2.heap.size := HB2.out.size
  clear hb ho hz
  go_wp2_with (first | (go_at_call 40; refine (rfields_29 _).mono ?_; rintro e w' ⟨rfl, rfl⟩) | (go_at_call 21; refine (rload_29 _).mono ?_; rintro e w' ⟨rfl, rfl⟩))
  refine (laid_own w.heap.size (puts [(spOr n)]) d v2 _ hs2 (Nat.le_trans (puts_length [(spOr n)]) (by simp)) (puts_sorted _) HZ2.out HO2.out).mono ?_
  rintro e w3 ⟨v3, rfl, ho, hz, hb⟩
  have HB3 := Lib.hid (HB2.out.trans (hb.mono hs2))
  have HI3 := Lib.hid (HI2.out.below' hb rfl)
  clear hl i0 i1 i2 i3 i4 i5 i6
  obtain ⟨hl, i0, i1, i2, i3, i4, i5, i6⟩ := HI3.out
  have HO3 : Hid (w3.ownsRow w.heap.size 3 1 v3 (puts [(spOr n), d]).length (ivs (puts [(spOr n), d]))) := Lib.hid ho
  have HZ3 : Hid (puts [(spOr n), d] = [] → v3 = .slice none 0 0) := Lib.hid hz
  have hs3 : w.heap.size ≤ w3.heap.size := HB3.out.size
  clear hb ho hz
  go_wp2_with (first | (go_at_call 40; refine (rfields_29 _).mono ?_; rintro e w' ⟨rfl, rfl⟩) | (go_at_call 21; refine (rload_29 _).mono ?_; rintro e w' ⟨rfl, rfl⟩))
  go_ret
  exact ⟨_, rfl, HO3.out, HZ3.out, HB3.out⟩
set_option maxRecDepth 100000 in
set_option maxHeartbeats 2000000 in
theorem rout_29 (d n m a c i : Int) (w : World) (hok : ok_29 d n m a c i = true) : Calls Try.prog 15 #[.agg #[.int .i64 29, .int .i64 d, .int .i64 n, .int .i64 m, .int .i64 a, .int .i64 c, .int .i64 i]] w (RowP [] w) := by
  have HCK := Lib.hid (fun w => (by have := rcheck_29 d n m a c i w; rw [hok] at this; exact this) : ∀ w, Calls Try.prog 10 #[.agg #[.int .i64 29, .int .i64 d, .int .i64 n, .int .i64 m, .int .i64 a, .int .i64 c, .int .i64 i]] w fun e w' => e = .returned (.int .i64 0) ∧ Below w.heap.size w w')
  clear hok
  go_enter Try.func15, Try.ntmps15
  go_wp2_with fail
  refine (HCK.out _).mono ?_
  rintro e w0 ⟨rfl, hb⟩
  have HB0 := Lib.hid (((Below.refl _ _).alloc (Nat.le_refl _) _).trans (hb.mono (by simp)) : Below w.heap.size w w0)
  have HI0 := Lib.hid ((InsC.new w (.int .i64 29) (.int .i64 d) (.int .i64 n) (.int .i64 m) (.int .i64 a) (.int .i64 c) (.int .i64 i)).below' hb rfl)
  obtain ⟨hl, i0, i1, i2, i3, i4, i5, i6⟩ := HI0.out
  have HO0 := Lib.hid (World.ownsRow_nil w0 w.heap.size 3 1)
  have hs0 : w.heap.size ≤ w0.heap.size := HB0.out.size
  clear hb
  go_wp2_with (first | (go_at_call 40; refine (rfields_29 _).mono ?_; rintro e w' ⟨rfl, rfl⟩) | (go_at_call 21; refine (rload_29 _).mono ?_; rintro e w' ⟨rfl, rfl⟩))
  go_ret
  exact ⟨_, rfl, HO0.out, (fun _ => rfl), HB0.out⟩
set_option maxRecDepth 100000 in
set_option maxHeartbeats 2000000 in
theorem rin_33 (d n m a c i : Int) (w : World) (hok : ok_33 d n m a c i = true) : Calls Try.prog 13 #[.agg #[.int .i64 33, .int .i64 d, .int .i64 n, .int .i64 m, .int .i64 a, .int .i64 c, .int .i64 i]] w (RowP [(spOr n)] w) := by
  have HCK := Lib.hid (fun w => (by have := rcheck_33 d n m a c i w; rw [hok] at this; exact this) : ∀ w, Calls Try.prog 10 #[.agg #[.int .i64 33, .int .i64 d, .int .i64 n, .int .i64 m, .int .i64 a, .int .i64 c, .int .i64 i]] w fun e w' => e = .returned (.int .i64 0) ∧ Below w.heap.size w w')
  clear hok
  go_enter Try.func13, Try.ntmps13
  go_wp2_with fail
  refine (HCK.out _).mono ?_
  rintro e w0 ⟨rfl, hb⟩
  have HB0 := Lib.hid (((Below.refl _ _).alloc (Nat.le_refl _) _).trans (hb.mono (by simp)) : Below w.heap.size w w0)
  have HI0 := Lib.hid ((InsC.new w (.int .i64 33) (.int .i64 d) (.int .i64 n) (.int .i64 m) (.int .i64 a) (.int .i64 c) (.int .i64 i)).below' hb rfl)
  obtain ⟨hl, i0, i1, i2, i3, i4, i5, i6⟩ := HI0.out
  have HO0 := Lib.hid (World.ownsRow_nil w0 w.heap.size 3 1)
  have hs0 : w.heap.size ≤ w0.heap.size := HB0.out.size
  clear hb
  go_wp2_with (first | (go_at_call 40; refine (rfields_33 _).mono ?_; rintro e w' ⟨rfl, rfl⟩) | (go_at_call 21; refine (rload_33 _).mono ?_; rintro e w' ⟨rfl, rfl⟩))
  refine (rbase_33 d n m a c i _).mono ?_
  rintro e w1 ⟨rfl, hb⟩
  have HB1 := Lib.hid (HB0.out.trans (hb.mono hs0))
  have HI1 := Lib.hid (HI0.out.below' hb rfl)
  clear hl i0 i1 i2 i3 i4 i5 i6
  obtain ⟨hl, i0, i1, i2, i3, i4, i5, i6⟩ := HI1.out
  have HO1 := Lib.hid (World.ownsRow_nil w1 w.heap.size 3 1)
  have hs1 : w.heap.size ≤ w1.heap.size := HB1.out.size
  clear hb
  go_wp2_with (first | (go_at_call 40; refine (rfields_33 _).mono ?_; rintro e w' ⟨rfl, rfl⟩) | (go_at_call 21; refine (rload_33 _).mono ?_; rintro e w' ⟨rfl, rfl⟩))
  refine (laid_own w.heap.size (puts []) (spOr n) (.slice none 0 0) _ hs1 (Nat.le_trans (puts_length []) (by simp)) (puts_sorted _) (fun _ => rfl) HO1.out).mono ?_
  rintro e w2 ⟨v2, rfl, ho, hz, hb⟩
  have HB2 := Lib.hid (HB1.out.trans (hb.mono hs1))
  have HI2 := Lib.hid (HI1.out.below' hb rfl)
  clear hl i0 i1 i2 i3 i4 i5 i6
  obtain ⟨hl, i0, i1, i2, i3, i4, i5, i6⟩ := HI2.out
  have HO2 : Hid (w2.ownsRow w.heap.size 3 1 v2 (puts [(spOr n)]).length (ivs (puts [(spOr n)]))) := Lib.hid ho
  have HZ2 : Hid (puts [(spOr n)] = [] → v2 = .slice none 0 0) := Lib.hid hz
  have hs2 : w.heap.size ≤ w2.heap.size := HB2.out.size
  clear hb ho hz
  go_wp2_with (first | (go_at_call 40; refine (rfields_33 _).mono ?_; rintro e w' ⟨rfl, rfl⟩) | (go_at_call 21; refine (rload_33 _).mono ?_; rintro e w' ⟨rfl, rfl⟩))
  go_ret
  exact ⟨_, rfl, HO2.out, HZ2.out, HB2.out⟩
set_option maxRecDepth 100000 in
set_option maxHeartbeats 2000000 in
theorem rout_33 (d n m a c i : Int) (w : World) (hok : ok_33 d n m a c i = true) : Calls Try.prog 15 #[.agg #[.int .i64 33, .int .i64 d, .int .i64 n, .int .i64 m, .int .i64 a, .int .i64 c, .int .i64 i]] w (RowP [d] w) := by
  have HCK := Lib.hid (fun w => (by have := rcheck_33 d n m a c i w; rw [hok] at this; exact this) : ∀ w, Calls Try.prog 10 #[.agg #[.int .i64 33, .int .i64 d, .int .i64 n, .int .i64 m, .int .i64 a, .int .i64 c, .int .i64 i]] w fun e w' => e = .returned (.int .i64 0) ∧ Below w.heap.size w w')
  clear hok
  go_enter Try.func15, Try.ntmps15
  go_wp2_with fail
  refine (HCK.out _).mono ?_
  rintro e w0 ⟨rfl, hb⟩
  have HB0 := Lib.hid (((Below.refl _ _).alloc (Nat.le_refl _) _).trans (hb.mono (by simp)) : Below w.heap.size w w0)
  have HI0 := Lib.hid ((InsC.new w (.int .i64 33) (.int .i64 d) (.int .i64 n) (.int .i64 m) (.int .i64 a) (.int .i64 c) (.int .i64 i)).below' hb rfl)
  obtain ⟨hl, i0, i1, i2, i3, i4, i5, i6⟩ := HI0.out
  have HO0 := Lib.hid (World.ownsRow_nil w0 w.heap.size 3 1)
  have hs0 : w.heap.size ≤ w0.heap.size := HB0.out.size
  clear hb
  go_wp2_with (first | (go_at_call 40; refine (rfields_33 _).mono ?_; rintro e w' ⟨rfl, rfl⟩) | (go_at_call 21; refine (rload_33 _).mono ?_; rintro e w' ⟨rfl, rfl⟩))
  refine (rdest_33 d n m a c i _).mono ?_
  rintro e w1 ⟨rfl, hb⟩
  have HB1 := Lib.hid (HB0.out.trans (hb.mono hs0))
  have HI1 := Lib.hid (HI0.out.below' hb rfl)
  clear hl i0 i1 i2 i3 i4 i5 i6
  obtain ⟨hl, i0, i1, i2, i3, i4, i5, i6⟩ := HI1.out
  have HO1 := Lib.hid (World.ownsRow_nil w1 w.heap.size 3 1)
  have hs1 : w.heap.size ≤ w1.heap.size := HB1.out.size
  clear hb
  go_wp2_with (first | (go_at_call 40; refine (rfields_33 _).mono ?_; rintro e w' ⟨rfl, rfl⟩) | (go_at_call 21; refine (rload_33 _).mono ?_; rintro e w' ⟨rfl, rfl⟩))
  refine (laid_own w.heap.size (puts []) d (.slice none 0 0) _ hs1 (Nat.le_trans (puts_length []) (by simp)) (puts_sorted _) (fun _ => rfl) HO1.out).mono ?_
  rintro e w2 ⟨v2, rfl, ho, hz, hb⟩
  have HB2 := Lib.hid (HB1.out.trans (hb.mono hs1))
  have HI2 := Lib.hid (HI1.out.below' hb rfl)
  clear hl i0 i1 i2 i3 i4 i5 i6
  obtain ⟨hl, i0, i1, i2, i3, i4, i5, i6⟩ := HI2.out
  have HO2 : Hid (w2.ownsRow w.heap.size 3 1 v2 (puts [d]).length (ivs (puts [d]))) := Lib.hid ho
  have HZ2 : Hid (puts [d] = [] → v2 = .slice none 0 0) := Lib.hid hz
  have hs2 : w.heap.size ≤ w2.heap.size := HB2.out.size
  clear hb ho hz
  go_wp2_with (first | (go_at_call 40; refine (rfields_33 _).mono ?_; rintro e w' ⟨rfl, rfl⟩) | (go_at_call 21; refine (rload_33 _).mono ?_; rintro e w' ⟨rfl, rfl⟩))
  go_ret
  exact ⟨_, rfl, HO2.out, HZ2.out, HB2.out⟩
set_option maxRecDepth 100000 in
set_option maxHeartbeats 2000000 in
theorem rin_37 (d n m a c i : Int) (w : World) (hok : ok_37 d n m a c i = true) : Calls Try.prog 13 #[.agg #[.int .i64 37, .int .i64 d, .int .i64 n, .int .i64 m, .int .i64 a, .int .i64 c, .int .i64 i]] w (RowP [] w) := by
  have HCK := Lib.hid (fun w => (by have := rcheck_37 d n m a c i w; rw [hok] at this; exact this) : ∀ w, Calls Try.prog 10 #[.agg #[.int .i64 37, .int .i64 d, .int .i64 n, .int .i64 m, .int .i64 a, .int .i64 c, .int .i64 i]] w fun e w' => e = .returned (.int .i64 0) ∧ Below w.heap.size w w')
  clear hok
  go_enter Try.func13, Try.ntmps13
  go_wp2_with fail
  refine (HCK.out _).mono ?_
  rintro e w0 ⟨rfl, hb⟩
  have HB0 := Lib.hid (((Below.refl _ _).alloc (Nat.le_refl _) _).trans (hb.mono (by simp)) : Below w.heap.size w w0)
  have HI0 := Lib.hid ((InsC.new w (.int .i64 37) (.int .i64 d) (.int .i64 n) (.int .i64 m) (.int .i64 a) (.int .i64 c) (.int .i64 i)).below' hb rfl)
  obtain ⟨hl, i0, i1, i2, i3, i4, i5, i6⟩ := HI0.out
  have HO0 := Lib.hid (World.ownsRow_nil w0 w.heap.size 3 1)
  have hs0 : w.heap.size ≤ w0.heap.size := HB0.out.size
  clear hb
  go_wp2_with (first | (go_at_call 40; refine (rfields_37 _).mono ?_; rintro e w' ⟨rfl, rfl⟩) | (go_at_call 21; refine (rload_37 _).mono ?_; rintro e w' ⟨rfl, rfl⟩))
  go_ret
  exact ⟨_, rfl, HO0.out, (fun _ => rfl), HB0.out⟩
set_option maxRecDepth 100000 in
set_option maxHeartbeats 2000000 in
theorem rout_37 (d n m a c i : Int) (w : World) (hok : ok_37 d n m a c i = true) : Calls Try.prog 15 #[.agg #[.int .i64 37, .int .i64 d, .int .i64 n, .int .i64 m, .int .i64 a, .int .i64 c, .int .i64 i]] w (RowP [] w) := by
  have HCK := Lib.hid (fun w => (by have := rcheck_37 d n m a c i w; rw [hok] at this; exact this) : ∀ w, Calls Try.prog 10 #[.agg #[.int .i64 37, .int .i64 d, .int .i64 n, .int .i64 m, .int .i64 a, .int .i64 c, .int .i64 i]] w fun e w' => e = .returned (.int .i64 0) ∧ Below w.heap.size w w')
  clear hok
  go_enter Try.func15, Try.ntmps15
  go_wp2_with fail
  refine (HCK.out _).mono ?_
  rintro e w0 ⟨rfl, hb⟩
  have HB0 := Lib.hid (((Below.refl _ _).alloc (Nat.le_refl _) _).trans (hb.mono (by simp)) : Below w.heap.size w w0)
  have HI0 := Lib.hid ((InsC.new w (.int .i64 37) (.int .i64 d) (.int .i64 n) (.int .i64 m) (.int .i64 a) (.int .i64 c) (.int .i64 i)).below' hb rfl)
  obtain ⟨hl, i0, i1, i2, i3, i4, i5, i6⟩ := HI0.out
  have HO0 := Lib.hid (World.ownsRow_nil w0 w.heap.size 3 1)
  have hs0 : w.heap.size ≤ w0.heap.size := HB0.out.size
  clear hb
  go_wp2_with (first | (go_at_call 40; refine (rfields_37 _).mono ?_; rintro e w' ⟨rfl, rfl⟩) | (go_at_call 21; refine (rload_37 _).mono ?_; rintro e w' ⟨rfl, rfl⟩))
  go_ret
  exact ⟨_, rfl, HO0.out, (fun _ => rfl), HB0.out⟩
set_option maxRecDepth 100000 in
set_option maxHeartbeats 2000000 in
theorem rin_41 (d n m a c i : Int) (w : World) (hok : ok_41 d n m a c i = true) : Calls Try.prog 13 #[.agg #[.int .i64 41, .int .i64 d, .int .i64 n, .int .i64 m, .int .i64 a, .int .i64 c, .int .i64 i]] w (RowP [n] w) := by
  have HCK := Lib.hid (fun w => (by have := rcheck_41 d n m a c i w; rw [hok] at this; exact this) : ∀ w, Calls Try.prog 10 #[.agg #[.int .i64 41, .int .i64 d, .int .i64 n, .int .i64 m, .int .i64 a, .int .i64 c, .int .i64 i]] w fun e w' => e = .returned (.int .i64 0) ∧ Below w.heap.size w w')
  clear hok
  go_enter Try.func13, Try.ntmps13
  go_wp2_with fail
  refine (HCK.out _).mono ?_
  rintro e w0 ⟨rfl, hb⟩
  have HB0 := Lib.hid (((Below.refl _ _).alloc (Nat.le_refl _) _).trans (hb.mono (by simp)) : Below w.heap.size w w0)
  have HI0 := Lib.hid ((InsC.new w (.int .i64 41) (.int .i64 d) (.int .i64 n) (.int .i64 m) (.int .i64 a) (.int .i64 c) (.int .i64 i)).below' hb rfl)
  obtain ⟨hl, i0, i1, i2, i3, i4, i5, i6⟩ := HI0.out
  have HO0 := Lib.hid (World.ownsRow_nil w0 w.heap.size 3 1)
  have hs0 : w.heap.size ≤ w0.heap.size := HB0.out.size
  clear hb
  go_wp2_with (first | (go_at_call 40; refine (rfields_41 _).mono ?_; rintro e w' ⟨rfl, rfl⟩) | (go_at_call 21; refine (rload_41 _).mono ?_; rintro e w' ⟨rfl, rfl⟩))
  refine (rbase_41 d n m a c i _).mono ?_
  rintro e w1 ⟨rfl, hb⟩
  have HB1 := Lib.hid (HB0.out.trans (hb.mono hs0))
  have HI1 := Lib.hid (HI0.out.below' hb rfl)
  clear hl i0 i1 i2 i3 i4 i5 i6
  obtain ⟨hl, i0, i1, i2, i3, i4, i5, i6⟩ := HI1.out
  have HO1 := Lib.hid (World.ownsRow_nil w1 w.heap.size 3 1)
  have hs1 : w.heap.size ≤ w1.heap.size := HB1.out.size
  clear hb
  go_wp2_with (first | (go_at_call 40; refine (rfields_41 _).mono ?_; rintro e w' ⟨rfl, rfl⟩) | (go_at_call 21; refine (rload_41 _).mono ?_; rintro e w' ⟨rfl, rfl⟩))
  refine (laid_own w.heap.size (puts []) n (.slice none 0 0) _ hs1 (Nat.le_trans (puts_length []) (by simp)) (puts_sorted _) (fun _ => rfl) HO1.out).mono ?_
  rintro e w2 ⟨v2, rfl, ho, hz, hb⟩
  have HB2 := Lib.hid (HB1.out.trans (hb.mono hs1))
  have HI2 := Lib.hid (HI1.out.below' hb rfl)
  clear hl i0 i1 i2 i3 i4 i5 i6
  obtain ⟨hl, i0, i1, i2, i3, i4, i5, i6⟩ := HI2.out
  have HO2 : Hid (w2.ownsRow w.heap.size 3 1 v2 (puts [n]).length (ivs (puts [n]))) := Lib.hid ho
  have HZ2 : Hid (puts [n] = [] → v2 = .slice none 0 0) := Lib.hid hz
  have hs2 : w.heap.size ≤ w2.heap.size := HB2.out.size
  clear hb ho hz
  go_wp2_with (first | (go_at_call 40; refine (rfields_41 _).mono ?_; rintro e w' ⟨rfl, rfl⟩) | (go_at_call 21; refine (rload_41 _).mono ?_; rintro e w' ⟨rfl, rfl⟩))
  go_ret
  exact ⟨_, rfl, HO2.out, HZ2.out, HB2.out⟩
set_option maxRecDepth 100000 in
set_option maxHeartbeats 2000000 in
theorem rout_41 (d n m a c i : Int) (w : World) (hok : ok_41 d n m a c i = true) : Calls Try.prog 15 #[.agg #[.int .i64 41, .int .i64 d, .int .i64 n, .int .i64 m, .int .i64 a, .int .i64 c, .int .i64 i]] w (RowP [] w) := by
  have HCK := Lib.hid (fun w => (by have := rcheck_41 d n m a c i w; rw [hok] at this; exact this) : ∀ w, Calls Try.prog 10 #[.agg #[.int .i64 41, .int .i64 d, .int .i64 n, .int .i64 m, .int .i64 a, .int .i64 c, .int .i64 i]] w fun e w' => e = .returned (.int .i64 0) ∧ Below w.heap.size w w')
  clear hok
  go_enter Try.func15, Try.ntmps15
  go_wp2_with fail
  refine (HCK.out _).mono ?_
  rintro e w0 ⟨rfl, hb⟩
  have HB0 := Lib.hid (((Below.refl _ _).alloc (Nat.le_refl _) _).trans (hb.mono (by simp)) : Below w.heap.size w w0)
  have HI0 := Lib.hid ((InsC.new w (.int .i64 41) (.int .i64 d) (.int .i64 n) (.int .i64 m) (.int .i64 a) (.int .i64 c) (.int .i64 i)).below' hb rfl)
  obtain ⟨hl, i0, i1, i2, i3, i4, i5, i6⟩ := HI0.out
  have HO0 := Lib.hid (World.ownsRow_nil w0 w.heap.size 3 1)
  have hs0 : w.heap.size ≤ w0.heap.size := HB0.out.size
  clear hb
  go_wp2_with (first | (go_at_call 40; refine (rfields_41 _).mono ?_; rintro e w' ⟨rfl, rfl⟩) | (go_at_call 21; refine (rload_41 _).mono ?_; rintro e w' ⟨rfl, rfl⟩))
  go_ret
  exact ⟨_, rfl, HO0.out, (fun _ => rfl), HB0.out⟩
end Go.Proofs.Ytejdlhafdnpcmaa
