import Derived.Test.YtpiafgmncfibmaaE3
import Derived.Test.YtpiafgmncfibmaaRows
import Derived.WalkKit
import Derived.ProofKit
import Derived.OpenShut
import Derived.Deep.QuietTactic
import Derived.BigQuiet
import Derived.Outline
import Derived.WalkSmall
import Derived.WalkLawsBesides
import Derived.WalkSpells
import Derived.BigGuardPart
import Derived.RegionTactic
import Derived.Deep.RegionHeld3
import Derived.Lib.Hide
import Derived.Deep.MidRow
import Derived.Below
import Derived.Deep.RegionWith
import Derived.Deep.OwnRows
import Derived.Deep.AppendLies
namespace Go.Proofs.Ytpiafgmncfibmaa
open Go.ChangeShapes Go.WideShapes Go.ChangeAt Go.RowKit
set_option linter.unusedVariables false

theorem fixT {p : Prop} (h : True ↔ p) : true = true ↔ p := by simpa using h
set_option maxRecDepth 100000 in
set_option maxHeartbeats 2000000 in
theorem sm_c (a0 : Option Addr) (n0 c0 : Nat) (F0 : Nat → Int) (a1 : Option Addr) (n1 c1 : Nat) (F1 : Nat → Int) (a2 : Option Addr) (n2 c2 : Nat) (F2 : Nat → Int) (a0' : Option Addr) (n0' c0' : Nat) (F0' : Nat → Int) (a1' : Option Addr) (n1' c1' : Nat) (F1' : Nat → Int) (a2' : Option Addr) (n2' c2' : Nat) (F2' : Nat → Int) (r s r' s' : Int) (w : World) (bq0 : n0 ≤ Big) (bq1 : n1 ≤ Big) (bq2 : n2 ≤ Big) (bp0 : n0' ≤ Big) (bp1 : n1' ≤ Big) (bp2 : n2' ≤ Big) (hq0 : Row1 w a0 n0 (fun i => .int .i64 (F0 i))) (hq1 : Row1 w a1 n1 (fun i => .int .i64 (F1 i))) (hq2 : Row1 w a2 n2 (fun i => .int .u8 (F2 i))) (hp0 : Row1 w a0' n0' (fun i => .int .i64 (F0' i))) (hp1 : Row1 w a1' n1' (fun i => .int .i64 (F1' i))) (hp2 : Row1 w a2' n2' (fun i => .int .u8 (F2' i))) (b : Bool) (hb : b = true ↔ meqv r r' s s' n0 n0' F0 F0' n1 n1' F1 F1' n2 n2' F2 F2') :
    Calls Try.prog 59 #[.agg #[.slice a0 n0 c0, .int .i64 r, .slice a1 n1 c1, .int .i64 s, .slice a2 n2 c2], .agg #[.slice a0' n0' c0', .int .i64 r', .slice a1' n1' c1', .int .i64 s', .slice a2' n2' c2']] w fun e w' => e = .returned (.bool b) ∧ Below w.heap.size w w' := by
  have Rhq0 := Lib.hid hq0
  have Rhq1 := Lib.hid hq1
  have Rhq2 := Lib.hid hq2
  have Rhp0 := Lib.hid hp0
  have Rhp1 := Lib.hid hp1
  have Rhp2 := Lib.hid hp2
  clear hq0 hq1 hq2 hp0 hp1 hp2
  have HB := Lib.hid hb
  clear hb
  have HX := Lib.hid (box2_cells w (.slice a0 n0 c0) (.int .i64 r) (.slice a1 n1 c1) (.int .i64 s) (.slice a2 n2 c2) (.slice a0' n0' c0') (.int .i64 r') (.slice a1' n1' c1') (.int .i64 s') (.slice a2' n2' c2'))
  obtain ⟨W, hW⟩ : ∃ W, W = (w.alloc (.cells #[.slice a0 n0 c0, .int .i64 r, .slice a1 n1 c1, .int .i64 s, .slice a2 n2 c2] 50)).alloc (.cells #[.slice a0' n0' c0', .int .i64 r', .slice a1' n1' c1', .int .i64 s', .slice a2' n2' c2'] 50) := ⟨_, rfl⟩
  have hsz : W.heap.size = w.heap.size + 1 + 1 := by rw [hW]; simp
  have HA : Hid (Below w.heap.size w W) := Lib.hid (by rw [hW]; exact ((Below.refl _ _).alloc (Nat.le_refl _) _).alloc (by simp) _)
  rw [← hW, ← hsz] at HX
  have HSz := Lib.hid hsz
  have HW := Lib.hid hW
  clear hW hsz
  by_cases q1 : r = r'
  case neg =>
    obtain rfl : b = false := bool_false_of_ne fun h => q1 (HB.out.1 h).1
    have d : (r == r') = false := by simpa using q1
    clear q1
    go_enter Try.func59, Try.ntmps59
    go_wp2
    go_ret
    exact ⟨rfl, by first | exact HA.out | (rw [← HW.out]; exact HA.out)⟩
  subst q1
  by_cases q2 : s = s'
  case neg =>
    obtain rfl : b = false := bool_false_of_ne fun h => q2 (HB.out.1 h).2.1
    have d : (s == s') = false := by simpa using q2
    clear q2
    go_enter Try.func59, Try.ntmps59
    go_wp2
    go_ret
    exact ⟨rfl, by first | exact HA.out | (rw [← HW.out]; exact HA.out)⟩
  subst q2
  obtain ⟨b0, h0⟩ := some_b (ieqv n0 n0' F0 F0')
  obtain ⟨b1, h1⟩ := some_b (ieqv n1 n1' F1 F1')
  obtain ⟨b2, h2⟩ := some_b (ieqv n2 n2' F2 F2')
  have H0 := Lib.hid h0
  have H1 := Lib.hid h1
  have H2 := Lib.hid h2
  have HB2 : Hid (b = true ↔ b0 = true ∧ b1 = true ∧ b2 = true) := Lib.hid (by rw [HB.out, h0, h1, h2]; unfold meqv; simp)
  clear h0 h1 h2 HB
  have E0 : Hid (Below W.heap.size W W) := Lib.hid (Below.refl _ _)
  cases b0 with
  | false =>
    obtain rfl : b = false := bool_false_of_ne fun h => absurd (HB2.out.1 h).1 (by decide)
    go_enter Try.func59, Try.ntmps59
    go_wp2_with fail
    rw [← HW.out]
    refine (eq85_c _ _ _ _ _ _ F0 F0' _ bq0 bp0 (Row1.kept Rhq0.out (Kept.of HA.out)) (Row1.kept Rhp0.out (Kept.of HA.out)) false H0.out).mono ?_
    rintro e w1 ⟨rfl, hb⟩
    have HQ := Lib.hid (HA.out.trans (hb.mono HA.out.size))
    clear hb
    go_wp2
    go_ret
    exact ⟨rfl, HQ.out⟩
  | true =>
  cases b1 with
  | false =>
    obtain rfl : b = false := bool_false_of_ne fun h => absurd (HB2.out.1 h).2.1 (by decide)
    go_enter Try.func59, Try.ntmps59
    go_wp2_with fail
    rw [← HW.out]
    refine (eq85_c _ _ _ _ _ _ F0 F0' _ bq0 bp0 (Row1.kept Rhq0.out (Kept.of HA.out)) (Row1.kept Rhp0.out (Kept.of HA.out)) true (fixT H0.out)).mono ?_
    rintro e w1 ⟨rfl, hb⟩
    obtain ⟨⟨_, _, x2, _, _⟩, _, _, y2, _, _⟩ := HX.out w1 hb
    have HQ := Lib.hid (HA.out.trans (hb.mono HA.out.size))
    clear hb
    go_wp2_with fail
    clear x2 y2
    refine (eq85_c _ _ _ _ _ _ F1 F1' _ bq1 bp1 (Row1.kept Rhq1.out (Kept.of HQ.out)) (Row1.kept Rhp1.out (Kept.of HQ.out)) false H1.out).mono ?_
    rintro e w2 ⟨rfl, hb⟩
    have HQ2 := Lib.hid (HQ.out.trans (hb.mono HQ.out.size))
    clear hb
    go_wp2
    go_ret
    exact ⟨rfl, HQ2.out⟩
  | true =>
    obtain rfl : b = b2 := by cases b2 <;> cases b <;> first | rfl | exact absurd (HB2.out.1 rfl).2.2 (by decide) | exact absurd (HB2.out.2 ⟨rfl, rfl, rfl⟩) (by decide)
    go_enter Try.func59, Try.ntmps59
    go_wp2_with fail
    rw [← HW.out]
    refine (eq85_c _ _ _ _ _ _ F0 F0' _ bq0 bp0 (Row1.kept Rhq0.out (Kept.of HA.out)) (Row1.kept Rhp0.out (Kept.of HA.out)) true (fixT H0.out)).mono ?_
    rintro e w1 ⟨rfl, hb⟩
    obtain ⟨⟨_, _, x2, _, _⟩, _, _, y2, _, _⟩ := HX.out w1 hb
    have HQ := Lib.hid (HA.out.trans (hb.mono HA.out.size))
    have HQa := Lib.hid hb
    clear hb
    go_wp2_with fail
    clear x2 y2
    refine (eq85_c _ _ _ _ _ _ F1 F1' _ bq1 bp1 (Row1.kept Rhq1.out (Kept.of HQ.out)) (Row1.kept Rhp1.out (Kept.of HQ.out)) true (fixT H1.out)).mono ?_
    rintro e w2 ⟨rfl, hb⟩
    obtain ⟨⟨_, _, _, _, x4⟩, _, _, _, _, y4⟩ := HX.out w2 (HQa.out.trans (hb.mono HQa.out.size))
    have HQ2 := Lib.hid (HQ.out.trans (hb.mono HQ.out.size))
    clear hb
    go_wp2_with fail
    clear x4 y4
    refine (eq86_c _ _ _ _ _ _ F2 F2' _ bq2 bp2 (Row1.kept Rhq2.out (Kept.of HQ2.out)) (Row1.kept Rhp2.out (Kept.of HQ2.out)) b H2.out).mono ?_
    rintro e w3 ⟨rfl, hb⟩
    have HQ3 := Lib.hid (HQ2.out.trans (hb.mono HQ2.out.size))
    clear hb
    go_wp2
    go_ret
    exact ⟨rfl, HQ3.out⟩
end Go.Proofs.Ytpiafgmncfibmaa
