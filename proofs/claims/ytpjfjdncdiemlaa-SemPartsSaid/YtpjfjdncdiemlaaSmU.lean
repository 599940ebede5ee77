import Derived.Test.YtpjfjdncdiemlaaRows
import Derived.WalkKit
import Derived.ProofKit
import Derived.OpenShut
import Derived.Deep.QuietTactic
import Derived.BigQuiet
import Derived.Outline
import Derived.WalkSmall
import Derived.WalkLawsBesides
import Derived.WalkSpells
import Derived.BigGuardPart
import Derived.RegionTactic
import Derived.Deep.RegionHeld3
import Derived.Lib.Hide
import Derived.Deep.MidRow
import Derived.Below
import Derived.Deep.RegionWith
import Derived.Test.YtpjfjdncdiemlaaSmC
import Derived.Test.YtpjfjdncdiemlaaSmN
import Derived.Deep.OwnRows
import Derived.Deep.AppendLies
import Derived.Laws.BitsAllLaws
import Derived.Laws.BitsLemmas
namespace Go.Proofs.Ytpjfjdncdiemlaa
open Go.ChangeShapes Go.WideShapes Go.ChangeAt Go.RowKit
set_option linter.unusedVariables false



/-- The effect of an instruction at 0 that goes on. -/
def efo (r : Rg) : Array Value := efA r (IntKind.u64.wrap (0 + 4)) 0 0 false
set_option maxRecDepth 100000 in
theorem field_efo (r : Rg) (w : World) : (Instr.field 38 (.agg (efo r)) 0).run Try.prog w = .ok (.agg r.arr) w := by kernel_rfl
theorem do0_add (r r' : Rg) (h : Hid (r' = r.set 4 (IntKind.u64.wrap (r.get 1 + r.get 2)))) (w : World) : Calls Try.prog 20 #[.agg #[.int .i64 7, .int .i64 4, .int .i64 1, .int .i64 2, .int .i64 0, .int .i64 0, .int .i64 0], .int .u64 0, .agg r.arr] w fun e w' => e = .returned (.agg (efo r')) ∧ Below w.heap.size w w' := by
  rw [h.out]
  exact do_add 0 r w
theorem do0_sub (r r' : Rg) (h : Hid (r' = r.set 4 (IntKind.u64.wrap (r.get 4 - r.get 2)))) (w : World) : Calls Try.prog 20 #[.agg #[.int .i64 8, .int .i64 4, .int .i64 4, .int .i64 2, .int .i64 0, .int .i64 0, .int .i64 0], .int .u64 0, .agg r.arr] w fun e w' => e = .returned (.agg (efo r')) ∧ Below w.heap.size w w' := by
  rw [h.out]
  exact do_sub 0 r w
theorem do0_eor1 (r r' : Rg) (h : Hid (r' = r.set 4 (bits .xor .u64 (r.get 1) (r.get 2)))) (w : World) : Calls Try.prog 20 #[.agg #[.int .i64 12, .int .i64 4, .int .i64 1, .int .i64 2, .int .i64 0, .int .i64 0, .int .i64 0], .int .u64 0, .agg r.arr] w fun e w' => e = .returned (.agg (efo r')) ∧ Below w.heap.size w w' := by
  rw [h.out]
  exact do_eor1 0 r w
theorem do0_eor2 (r r' : Rg) (h : Hid (r' = r.set 4 (bits .xor .u64 (r.get 4) (r.get 2)))) (w : World) : Calls Try.prog 20 #[.agg #[.int .i64 12, .int .i64 4, .int .i64 4, .int .i64 2, .int .i64 0, .int .i64 0, .int .i64 0], .int .u64 0, .agg r.arr] w fun e w' => e = .returned (.agg (efo r')) ∧ Below w.heap.size w w' := by
  rw [h.out]
  exact do_eor2 0 r w
theorem do0_madd (r r' : Rg) (h : Hid (r' = r.set 4 (IntKind.u64.wrap (r.get 3 + IntKind.u64.wrap (r.get 1 * r.get 2))))) (w : World) : Calls Try.prog 20 #[.agg #[.int .i64 13, .int .i64 4, .int .i64 1, .int .i64 2, .int .i64 3, .int .i64 0, .int .i64 0], .int .u64 0, .agg r.arr] w fun e w' => e = .returned (.agg (efo r')) ∧ Below w.heap.size w w' := by
  rw [h.out]
  exact do_madd 0 r w
theorem do0_msub (r r' : Rg) (h : Hid (r' = r.set 4 (IntKind.u64.wrap (r.get 4 - IntKind.u64.wrap (r.get 1 * r.get 2))))) (w : World) : Calls Try.prog 20 #[.agg #[.int .i64 14, .int .i64 4, .int .i64 1, .int .i64 2, .int .i64 4, .int .i64 0, .int .i64 0], .int .u64 0, .agg r.arr] w fun e w' => e = .returned (.agg (efo r')) ∧ Below w.heap.size w w' := by
  rw [h.out]
  exact do_msub 0 r w
attribute [local go_sem ↓] ld76 ld25 ld38
attribute [local go_sem] rowAt_drew rowAt_drewN field_efo
/-- Registers 1 to 3. -/
def r3 (a b c : Int) : Rg := ⟨fun i => if i = 1 then a else if i = 2 then b else if i = 3 then c else 0, 0, false, false, false, false⟩
set_option maxRecDepth 100000 in
set_option maxHeartbeats 8000000 in
theorem undoes_c (a b c : Int) (RA RB RC RD RE RF : Rg) (hRA : Hid (RA = (r3 a b c).set 4 (IntKind.u64.wrap ((r3 a b c).get 1 + (r3 a b c).get 2)))) (hRB : Hid (RB = RA.set 4 (IntKind.u64.wrap (RA.get 4 - RA.get 2)))) (hRC : Hid (RC = (r3 a b c).set 4 (bits .xor .u64 ((r3 a b c).get 1) ((r3 a b c).get 2)))) (hRD : Hid (RD = RC.set 4 (bits .xor .u64 (RC.get 4) (RC.get 2)))) (hRE : Hid (RE = (r3 a b c).set 4 (IntKind.u64.wrap ((r3 a b c).get 3 + IntKind.u64.wrap ((r3 a b c).get 1 * (r3 a b c).get 2))))) (hRF : Hid (RF = RE.set 4 (IntKind.u64.wrap (RE.get 4 - IntKind.u64.wrap (RE.get 1 * RE.get 2))))) (h4 : Hid (RB.x 4 = a ∧ RD.x 4 = a ∧ RF.x 4 = c)) (w : World) :
    Calls Try.prog 7 #[.int .u64 a, .int .u64 b, .int .u64 c] w fun e w' => e = .returned (.bool true) ∧ Below w.heap.size w w' := by
  go_enter Try.func7, Try.ntmps7
  go_wp2_with (first | (go_at_call 10; refine (known6_c _).mono ?_; rintro e w1 ⟨rfl, hb1⟩; have HB := Lib.hid (hb1.alloc hb1.size (.cells (r3 a b c).arr 25)); have H7 := Lib.hid (rowAt_new w1 (r3 a b c).arr 25); have hp7 : w.heap.size ≤ w1.heap.size := hb1.size; clear hb1) | (refine wpl_load rfl 25 _ rfl w1.heap.size 0 rfl (r3 a b c).arr (reg_all H7.out) ?_))
  refine (do0_add (r3 a b c) RA hRA _).mono ?_
  rintro e w2 ⟨rfl, hb⟩
  have H7 := Lib.hid (rowAt_below H7.out hb rfl)
  have HB := Lib.hid (HB.out.trans (hb.mono HB.out.size))
  have LH7_0 := rowAt_lt H7.out
  have LB_0 := HB.out.size
  clear hb
  have HZ := Lib.hid (rowAt_new w2 z36 25)
  have H7 := Lib.hid (rowAt_past H7.out (.cells z36 25))
  have HB := Lib.hid (HB.out.alloc HB.out.size (.cells z36 25))
  go_wp2_with (first | (refine wpl_store rfl 25 _ _ rfl w2.heap.size RA.arr z36 rfl rfl HZ.out (by rw [Rg.size]; exact info25) (by rw [Rg.size]; rfl) (Rg.one _) ?_; intro w3 hrow hg; have H8 := Lib.hid hrow; have H7 := Lib.hid (rowAt_grown H7.out hg (by omega)); have HB := Lib.hid (grown_below HB.out hg (by omega)); clear hrow hg) | (refine wpl_load rfl 25 _ rfl w2.heap.size 0 rfl RA.arr (reg_all H8.out) ?_))
  refine (do0_sub RA RB hRB _).mono ?_
  rintro e w4 ⟨rfl, hb⟩
  have H7 := Lib.hid (rowAt_below H7.out hb rfl)
  have H8 := Lib.hid (rowAt_below H8.out hb rfl)
  have HB := Lib.hid (HB.out.trans (hb.mono HB.out.size))
  have LH7_1 := rowAt_lt H7.out
  have LH8_1 := rowAt_lt H8.out
  have LB_1 := HB.out.size
  clear hb
  go_wp2_with (first | (refine wpl_store rfl 25 _ _ rfl w2.heap.size RB.arr RA.arr rfl rfl H8.out (by rw [Rg.size]; exact info25) (by rw [Rg.size, Rg.size]) (Rg.one _) ?_; intro w5 hrow hg; have H7 := Lib.hid (rowAt_grown H7.out hg (by omega)); have H8 := Lib.hid hrow; have HB := Lib.hid (grown_below HB.out hg (by omega)); clear hrow hg) | (refine wpl_load rfl 25 _ rfl w1.heap.size 0 rfl (r3 a b c).arr (reg_all H7.out) ?_))
  refine (do0_eor1 (r3 a b c) RC hRC _).mono ?_
  rintro e w6 ⟨rfl, hb⟩
  have H7 := Lib.hid (rowAt_below H7.out hb rfl)
  have H8 := Lib.hid (rowAt_below H8.out hb rfl)
  have HB := Lib.hid (HB.out.trans (hb.mono HB.out.size))
  have LH7_2 := rowAt_lt H7.out
  have LH8_2 := rowAt_lt H8.out
  have LB_2 := HB.out.size
  clear hb
  have HZ := Lib.hid (rowAt_new w6 z36 25)
  have H7 := Lib.hid (rowAt_past H7.out (.cells z36 25))
  have H8 := Lib.hid (rowAt_past H8.out (.cells z36 25))
  have HB := Lib.hid (HB.out.alloc HB.out.size (.cells z36 25))
  go_wp2_with (first | (refine wpl_store rfl 25 _ _ rfl w6.heap.size RC.arr z36 rfl rfl HZ.out (by rw [Rg.size]; exact info25) (by rw [Rg.size]; rfl) (Rg.one _) ?_; intro w7 hrow hg; have H9 := Lib.hid hrow; have H7 := Lib.hid (rowAt_grown H7.out hg (by omega)); have H8 := Lib.hid (rowAt_grown H8.out hg (by omega)); have HB := Lib.hid (grown_below HB.out hg (by omega)); clear hrow hg) | (refine wpl_load rfl 25 _ rfl w6.heap.size 0 rfl RC.arr (reg_all H9.out) ?_))
  refine (do0_eor2 RC RD hRD _).mono ?_
  rintro e w8 ⟨rfl, hb⟩
  have H7 := Lib.hid (rowAt_below H7.out hb rfl)
  have H8 := Lib.hid (rowAt_below H8.out hb rfl)
  have H9 := Lib.hid (rowAt_below H9.out hb rfl)
  have HB := Lib.hid (HB.out.trans (hb.mono HB.out.size))
  have LH7_3 := rowAt_lt H7.out
  have LH8_3 := rowAt_lt H8.out
  have LH9_3 := rowAt_lt H9.out
  have LB_3 := HB.out.size
  clear hb
  go_wp2_with (first | (refine wpl_store rfl 25 _ _ rfl w6.heap.size RD.arr RC.arr rfl rfl H9.out (by rw [Rg.size]; exact info25) (by rw [Rg.size, Rg.size]) (Rg.one _) ?_; intro w9 hrow hg; have H7 := Lib.hid (rowAt_grown H7.out hg (by omega)); have H8 := Lib.hid (rowAt_grown H8.out hg (by omega)); have H9 := Lib.hid hrow; have HB := Lib.hid (grown_below HB.out hg (by omega)); clear hrow hg) | (refine wpl_load rfl 25 _ rfl w1.heap.size 0 rfl (r3 a b c).arr (reg_all H7.out) ?_))
  refine (do0_madd (r3 a b c) RE hRE _).mono ?_
  rintro e w10 ⟨rfl, hb⟩
  have H7 := Lib.hid (rowAt_below H7.out hb rfl)
  have H8 := Lib.hid (rowAt_below H8.out hb rfl)
  have H9 := Lib.hid (rowAt_below H9.out hb rfl)
  have HB := Lib.hid (HB.out.trans (hb.mono HB.out.size))
  have LH7_4 := rowAt_lt H7.out
  have LH8_4 := rowAt_lt H8.out
  have LH9_4 := rowAt_lt H9.out
  have LB_4 := HB.out.size
  clear hb
  have HZ := Lib.hid (rowAt_new w10 z36 25)
  have H7 := Lib.hid (rowAt_past H7.out (.cells z36 25))
  have H8 := Lib.hid (rowAt_past H8.out (.cells z36 25))
  have H9 := Lib.hid (rowAt_past H9.out (.cells z36 25))
  have HB := Lib.hid (HB.out.alloc HB.out.size (.cells z36 25))
  go_wp2_with (first | (refine wpl_store rfl 25 _ _ rfl w10.heap.size RE.arr z36 rfl rfl HZ.out (by rw [Rg.size]; exact info25) (by rw [Rg.size]; rfl) (Rg.one _) ?_; intro w11 hrow hg; have H10 := Lib.hid hrow; have H7 := Lib.hid (rowAt_grown H7.out hg (by omega)); have H8 := Lib.hid (rowAt_grown H8.out hg (by omega)); have H9 := Lib.hid (rowAt_grown H9.out hg (by omega)); have HB := Lib.hid (grown_below HB.out hg (by omega)); clear hrow hg) | (refine wpl_load rfl 25 _ rfl w10.heap.size 0 rfl RE.arr (reg_all H10.out) ?_))
  refine (do0_msub RE RF hRF _).mono ?_
  rintro e w12 ⟨rfl, hb⟩
  have H7 := Lib.hid (rowAt_below H7.out hb rfl)
  have H8 := Lib.hid (rowAt_below H8.out hb rfl)
  have H9 := Lib.hid (rowAt_below H9.out hb rfl)
  have H10 := Lib.hid (rowAt_below H10.out hb rfl)
  have HB := Lib.hid (HB.out.trans (hb.mono HB.out.size))
  have LH7_5 := rowAt_lt H7.out
  have LH8_5 := rowAt_lt H8.out
  have LH9_5 := rowAt_lt H9.out
  have LH10_5 := rowAt_lt H10.out
  have LB_5 := HB.out.size
  clear hb
  go_wp2_with (first | (refine wpl_store rfl 25 _ _ rfl w10.heap.size RF.arr RE.arr rfl rfl H10.out (by rw [Rg.size]; exact info25) (by rw [Rg.size, Rg.size]) (Rg.one _) ?_; intro w13 hrow hg; have H7 := Lib.hid (rowAt_grown H7.out hg (by omega)); have H8 := Lib.hid (rowAt_grown H8.out hg (by omega)); have H9 := Lib.hid (rowAt_grown H9.out hg (by omega)); have H10 := Lib.hid hrow; have HB := Lib.hid (grown_below HB.out hg (by omega)); have e8 := (rowAt_cell H8.out 4).trans (RB.at 4 (by decide)); have e9 := (rowAt_cell H9.out 4).trans (RD.at 4 (by decide)); have e10 := (rowAt_cell H10.out 4).trans (RF.at 4 (by decide)); rw [h4.out.1] at e8; rw [h4.out.2.1] at e9; rw [h4.out.2.2] at e10; clear hrow hg))
  go_ret
  exact ⟨rfl, HB.out⟩
end Go.Proofs.Ytpjfjdncdiemlaa
