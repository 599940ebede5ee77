import Derived.Test.YtnmgafaebggeiaaOb
import Derived.ChangeKeysEq
import Derived.WalkKit
import Derived.ProofKit
import Derived.OpenShut
import Derived.Deep.QuietTactic
import Derived.BigQuiet
import Derived.Outline
import Derived.WalkSmall
import Derived.WalkLawsBesides
import Derived.WalkSpells
import Derived.BigGuardPart
import Derived.RegionTactic
import Derived.Deep.RegionHeld3
import Derived.Lib.Hide
import Derived.Below
import Derived.Deep.RegionWith
import Derived.Deep.RegionLaw
namespace Go.Proofs.Ytnmgafaebggeiaa
open Go.ChangeShapes Go.WideShapes Go.ChangeAt Go.RowKit
set_option linter.unusedVariables false
attribute [local go_sem ↓] eql24 neq24 eql25 neq25
def cmpV (a0 a1 a2 a3 b0 b1 b2 b3 : Int) : Int := if bfB a0 a1 a2 a3 b0 b1 b2 b3 then -1 else if bfB b0 b1 b2 b3 a0 a1 a2 a3 then 1 else 0
set_option maxRecDepth 100000 in
set_option maxHeartbeats 2000000 in
theorem compare_c (a0 a1 a2 a3 b0 b1 b2 b3 : Int) (w : World) :
    Calls Try.prog 14 #[.agg #[.int .i64 a0, .int .i64 a1, .int .i64 a2, .int .i64 a3], .agg #[.int .i64 b0, .int .i64 b1, .int .i64 b2, .int .i64 b3]] w fun e w' => e = .returned (.int .i64 (cmpV a0 a1 a2 a3 b0 b1 b2 b3)) ∧ Below w.heap.size w w' := by
  have H1 := fun w => Lib.hid (before_c a0 a1 a2 a3 b0 b1 b2 b3 w)
  have H2 := fun w => Lib.hid (before_c b0 b1 b2 b3 a0 a1 a2 a3 w)
  obtain ⟨p, hp⟩ : ∃ p, bfB a0 a1 a2 a3 b0 b1 b2 b3 = p := ⟨_, rfl⟩
  obtain ⟨q, hq⟩ : ∃ q, bfB b0 b1 b2 b3 a0 a1 a2 a3 = q := ⟨_, rfl⟩
  have HV : Hid (cmpV a0 a1 a2 a3 b0 b1 b2 b3 = if p then -1 else if q then 1 else 0) := Lib.hid (by unfold cmpV; rw [hp, hq])
  rw [hp] at H1
  rw [hq] at H2
  clear hp hq
  go_enter Try.func14, Try.ntmps14
  go_wp2_with fail
  have HT : Hid (Two w.heap.size a0 a1 a2 a3 b0 b1 b2 b3 ((w.alloc (.cells #[.int .i64 a0, .int .i64 a1, .int .i64 a2, .int .i64 a3] 24)).alloc (.cells #[.int .i64 b0, .int .i64 b1, .int .i64 b2, .int .i64 b3] 24))) := Lib.hid (by unfold Two; simp [go_sem])
  have HBB : Hid (Below w.heap.size w ((w.alloc (.cells #[.int .i64 a0, .int .i64 a1, .int .i64 a2, .int .i64 a3] 24)).alloc (.cells #[.int .i64 b0, .int .i64 b1, .int .i64 b2, .int .i64 b3] 24))) := Lib.hid (((Below.refl _ _).alloc (Nat.le_refl _) _).alloc (by simp) _)
  have hl : w.heap.size + 1 < ((w.alloc (.cells #[.int .i64 a0, .int .i64 a1, .int .i64 a2, .int .i64 a3] 24)).alloc (.cells #[.int .i64 b0, .int .i64 b1, .int .i64 b2, .int .i64 b3] 24)).heap.size := by simp
  generalize ((w.alloc (.cells #[.int .i64 a0, .int .i64 a1, .int .i64 a2, .int .i64 a3] 24)).alloc (.cells #[.int .i64 b0, .int .i64 b1, .int .i64 b2, .int .i64 b3] 24)) = w1 at HT HBB hl ⊢
  refine (H1 _).out.mono ?_
  rintro e w2 ⟨rfl, hb⟩
  have HT2 := Lib.hid (HT.out.below hb hl)
  have HB2 := Lib.hid (HBB.out.trans (hb.mono HBB.out.size))
  clear hb
  cases p
  · obtain ⟨t0, t1, t2, t3, t4, t5, t6, t7⟩ := HT2.out
    go_wp2_with fail
    refine (H2 _).out.mono ?_
    rintro e w3 ⟨rfl, hb⟩
    have HB3 := Lib.hid (HB2.out.trans (hb.mono HB2.out.size))
    clear hb t0 t1 t2 t3 t4 t5 t6 t7
    cases q
    · go_wp2
      go_ret
      exact ⟨by rw [HV.out]; rfl, HB3.out⟩
    · go_wp2
      go_ret
      exact ⟨by rw [HV.out]; rfl, HB3.out⟩
  · go_wp2
    go_ret
    exact ⟨by rw [HV.out]; rfl, HB2.out⟩
set_option maxRecDepth 100000 in
set_option maxHeartbeats 4000000 in
theorem rbefore_c (a0 a1 a2 a3 b0 b1 b2 b3 : Int) (w : World) :
    Calls Try.prog 13 #[.agg #[.int .i64 a0, .int .i64 a1, .int .i64 a2, .int .i64 a3], .agg #[.int .i64 b0, .int .i64 b1, .int .i64 b2, .int .i64 b3]] w fun e w' => e = .returned (.bool (bfB a0 a1 a2 a3 b0 b1 b2 b3)) ∧ Below w.heap.size w w' := by
  cases q0 : decide (b0 < a0)
  case true =>
    have HB : Hid (bfB a0 a1 a2 a3 b0 b1 b2 b3 = false) := Lib.hid (by have h := of_decide_eq_true q0; unfold bfB leB; rw [decide_eq_false (by omega)]; rfl)
    go_enter Try.func13, Try.ntmps13
    go_wp2
    refine wp_loop_rounds 5 ?_
    rw [rounds_succ]
    go_wp2
    go_quiet (fail)
    go_wp2
    go_ret
    exact ⟨by rw [HB.out]; rfl, by (repeat (refine below_drewN ?_ _)); exact (((Below.refl w.heap.size w).alloc (Nat.le_refl _) _).alloc (by simp) _)⟩
  case false =>
    cases q1 : decide (b1 < a1)
    case true =>
      have HB : Hid (bfB a0 a1 a2 a3 b0 b1 b2 b3 = false) := Lib.hid (by have h := of_decide_eq_true q1; unfold bfB leB; rw [decide_eq_false (by omega)]; rfl)
      go_enter Try.func13, Try.ntmps13
      go_wp2
      refine wp_loop_rounds 5 ?_
      rw [rounds_succ]
      go_wp2
      go_quiet (fail)
      go_wp2
      rw [rounds_succ]
      go_wp2
      go_quiet (fail)
      go_wp2
      go_ret
      exact ⟨by rw [HB.out]; rfl, by (repeat (refine below_drewN ?_ _)); exact (((Below.refl w.heap.size w).alloc (Nat.le_refl _) _).alloc (by simp) _)⟩
    case false =>
      cases q2 : decide (b2 < a2)
      case true =>
        have HB : Hid (bfB a0 a1 a2 a3 b0 b1 b2 b3 = false) := Lib.hid (by have h := of_decide_eq_true q2; unfold bfB leB; rw [decide_eq_false (by omega)]; rfl)
        go_enter Try.func13, Try.ntmps13
        go_wp2
        refine wp_loop_rounds 5 ?_
        rw [rounds_succ]
        go_wp2
        go_quiet (fail)
        go_wp2
        rw [rounds_succ]
        go_wp2
        go_quiet (fail)
        go_wp2
        rw [rounds_succ]
        go_wp2
        go_quiet (fail)
        go_wp2
        go_ret
        exact ⟨by rw [HB.out]; rfl, by (repeat (refine below_drewN ?_ _)); exact (((Below.refl w.heap.size w).alloc (Nat.le_refl _) _).alloc (by simp) _)⟩
      case false =>
        cases q3 : decide (b3 < a3)
        case true =>
          have HB : Hid (bfB a0 a1 a2 a3 b0 b1 b2 b3 = false) := Lib.hid (by have h := of_decide_eq_true q3; unfold bfB leB; rw [decide_eq_false (by omega)]; rfl)
          go_enter Try.func13, Try.ntmps13
          go_wp2
          refine wp_loop_rounds 5 ?_
          rw [rounds_succ]
          go_wp2
          go_quiet (fail)
          go_wp2
          rw [rounds_succ]
          go_wp2
          go_quiet (fail)
          go_wp2
          rw [rounds_succ]
          go_wp2
          go_quiet (fail)
          go_wp2
          rw [rounds_succ]
          go_wp2
          go_quiet (fail)
          go_wp2
          go_ret
          exact ⟨by rw [HB.out]; rfl, by (repeat (refine below_drewN ?_ _)); exact (((Below.refl w.heap.size w).alloc (Nat.le_refl _) _).alloc (by simp) _)⟩
        case false =>
          have HB : Hid (bfB a0 a1 a2 a3 b0 b1 b2 b3 = !eqB a0 a1 a2 a3 b0 b1 b2 b3) := Lib.hid (by have h0 := of_decide_eq_false q0; have h1 := of_decide_eq_false q1; have h2 := of_decide_eq_false q2; have h3 := of_decide_eq_false q3; unfold bfB leB; rw [decide_eq_true (by omega)]; rfl)
          obtain ⟨eb, heb⟩ : ∃ eb, eqB a0 a1 a2 a3 b0 b1 b2 b3 = eb := ⟨_, rfl⟩
          rw [heb] at HB
          go_enter Try.func13, Try.ntmps13
          go_wp2
          refine wp_loop_rounds 5 ?_
          rw [rounds_succ]
          go_wp2
          go_quiet (fail)
          go_wp2
          rw [rounds_succ]
          go_wp2
          go_quiet (fail)
          go_wp2
          rw [rounds_succ]
          go_wp2
          go_quiet (fail)
          go_wp2
          rw [rounds_succ]
          go_wp2
          go_quiet (fail)
          go_wp2
          rw [rounds_succ]
          go_wp2
          go_ret
          exact ⟨by rw [HB.out]; rfl, by (repeat (refine below_drewN ?_ _)); exact (((Below.refl w.heap.size w).alloc (Nat.le_refl _) _).alloc (by simp) _)⟩
set_option maxRecDepth 100000 in
set_option maxHeartbeats 2000000 in
theorem rcompare_c (a0 a1 a2 a3 b0 b1 b2 b3 : Int) (w : World) :
    Calls Try.prog 15 #[.agg #[.int .i64 a0, .int .i64 a1, .int .i64 a2, .int .i64 a3], .agg #[.int .i64 b0, .int .i64 b1, .int .i64 b2, .int .i64 b3]] w fun e w' => e = .returned (.int .i64 (cmpV a0 a1 a2 a3 b0 b1 b2 b3)) ∧ Below w.heap.size w w' := by
  have H1 := fun w => Lib.hid (rbefore_c a0 a1 a2 a3 b0 b1 b2 b3 w)
  have H2 := fun w => Lib.hid (rbefore_c b0 b1 b2 b3 a0 a1 a2 a3 w)
  obtain ⟨p, hp⟩ : ∃ p, bfB a0 a1 a2 a3 b0 b1 b2 b3 = p := ⟨_, rfl⟩
  obtain ⟨q, hq⟩ : ∃ q, bfB b0 b1 b2 b3 a0 a1 a2 a3 = q := ⟨_, rfl⟩
  have HV : Hid (cmpV a0 a1 a2 a3 b0 b1 b2 b3 = if p then -1 else if q then 1 else 0) := Lib.hid (by unfold cmpV; rw [hp, hq])
  rw [hp] at H1
  rw [hq] at H2
  clear hp hq
  go_enter Try.func15, Try.ntmps15
  go_wp2_with fail
  have HT : Hid (Two w.heap.size a0 a1 a2 a3 b0 b1 b2 b3 ((w.alloc (.cells #[.int .i64 a0, .int .i64 a1, .int .i64 a2, .int .i64 a3] 25)).alloc (.cells #[.int .i64 b0, .int .i64 b1, .int .i64 b2, .int .i64 b3] 25))) := Lib.hid (by unfold Two; simp [go_sem])
  have HBB : Hid (Below w.heap.size w ((w.alloc (.cells #[.int .i64 a0, .int .i64 a1, .int .i64 a2, .int .i64 a3] 25)).alloc (.cells #[.int .i64 b0, .int .i64 b1, .int .i64 b2, .int .i64 b3] 25))) := Lib.hid (((Below.refl _ _).alloc (Nat.le_refl _) _).alloc (by simp) _)
  have hl : w.heap.size + 1 < ((w.alloc (.cells #[.int .i64 a0, .int .i64 a1, .int .i64 a2, .int .i64 a3] 25)).alloc (.cells #[.int .i64 b0, .int .i64 b1, .int .i64 b2, .int .i64 b3] 25)).heap.size := by simp
  generalize ((w.alloc (.cells #[.int .i64 a0, .int .i64 a1, .int .i64 a2, .int .i64 a3] 25)).alloc (.cells #[.int .i64 b0, .int .i64 b1, .int .i64 b2, .int .i64 b3] 25)) = w1 at HT HBB hl ⊢
  refine (H1 _).out.mono ?_
  rintro e w2 ⟨rfl, hb⟩
  have HT2 := Lib.hid (HT.out.below hb hl)
  have HB2 := Lib.hid (HBB.out.trans (hb.mono HBB.out.size))
  clear hb
  cases p
  · obtain ⟨t0, t1, t2, t3, t4, t5, t6, t7⟩ := HT2.out
    go_wp2_with fail
    refine (H2 _).out.mono ?_
    rintro e w3 ⟨rfl, hb⟩
    have HB3 := Lib.hid (HB2.out.trans (hb.mono HB2.out.size))
    clear hb t0 t1 t2 t3 t4 t5 t6 t7
    cases q
    · go_wp2
      go_ret
      exact ⟨by rw [HV.out]; rfl, HB3.out⟩
    · go_wp2
      go_ret
      exact ⟨by rw [HV.out]; rfl, HB3.out⟩
  · go_wp2
    go_ret
    exact ⟨by rw [HV.out]; rfl, HB2.out⟩
end Go.Proofs.Ytnmgafaebggeiaa
