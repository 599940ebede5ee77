import Derived.Test.YtpjfjdncdiemlaaRows
import Derived.WalkKit
import Derived.ProofKit
import Derived.OpenShut
import Derived.Deep.QuietTactic
import Derived.BigQuiet
import Derived.Outline
import Derived.WalkSmall
import Derived.WalkLawsBesides
import Derived.WalkSpells
import Derived.BigGuardPart
import Derived.RegionTactic
import Derived.Deep.RegionHeld3
import Derived.Lib.Hide
import Derived.Deep.MidRow
import Derived.Below
import Derived.Deep.RegionWith
import Derived.Deep.OwnRows
import Derived.Deep.AppendLies
import Derived.Laws.BitsAllLaws
import Derived.Laws.BitsLemmas
import Derived.Test.YtpjfjdncdiemlaaSfJ
namespace Go.Proofs.Ytpjfjdncdiemlaa
open Go.ChangeShapes Go.WideShapes Go.ChangeAt Go.RowKit
set_option linter.unusedVariables false
theorem do_subsi (pc : Int) (r : Rg) (w : World) (x1 : 0 ≤ r.get 0) (x2 : r.get 0 < 18446744073709551616) :
    Calls Try.prog 20 #[.agg #[.int .i64 6, .int .i64 31, .int .i64 0, .int .i64 0, .int .i64 0, .int .i64 0, .int .i64 5], .int .u64 pc, .agg r.arr] w fun e w' => e = .returned (.agg (efA (r.less (r.get 0) 5 31) (IntKind.u64.wrap (pc + 4)) 0 0 false)) ∧ Below w.heap.size w w' :=
  do_op58 6 31 0 0 0 0 5 pc 5 r (r.less (r.get 0) 5 31) w (ck0 (Fr.check_6 31 0 0 0 0 5) (by decide)) doing_6 (fun w => subtract_c 6 31 0 0 0 0 5 pc 5 r w rfl (by decide) (by decide) x1 x2) (fun w => number_c 6 31 0 0 0 0 5 pc r w (by decide) (by decide))
theorem do_csinc (pc : Int) (r : Rg) (w : World) (b : Bool) (hb : r.hold 1 = b) :
    Calls Try.prog 20 #[.agg #[.int .i64 19, .int .i64 0, .int .i64 31, .int .i64 31, .int .i64 0, .int .i64 1, .int .i64 0], .int .u64 pc, .agg r.arr] w fun e w' => e = .returned (.agg (efA (r.set 0 (if b then r.get 31 else IntKind.u64.wrap (r.get 31 + 1))) (IntKind.u64.wrap (pc + 4)) 0 0 false)) ∧ Below w.heap.size w w' :=
  do_rs90 19 0 31 31 0 1 0 pc 0 _ r w (ck0 (Fr.check_19 0 31 31 0 1 0) (by decide)) doing_19 (fun w => target_c 19 0 31 31 0 1 0 pc r w rfl) (fun w => choose_c 0 31 31 0 1 0 pc r w b hb)



def rK : Rg := ⟨fun i => if i = 0 then 5 else 0, 0, false, false, false, false⟩
def rK1 : Rg := ⟨fun i => if i = 0 then 5 else 0, 0, false, true, false, false⟩
theorem rK_get : rK.get 0 = 5 := by decide
theorem rK1_arr : rK.arr.setIfInBounds 33 (.bool true) = rK1.arr := by rfl
theorem rK1_hold : rK1.hold 1 = false := by decide
def eK1 : Array Value := efA (rK.less (rK.get 0) 5 31) (IntKind.u64.wrap (100 + 4)) 0 0 false
def eK2 : Array Value := efA (rK1.set 0 (if false = true then rK1.get 31 else IntKind.u64.wrap (rK1.get 31 + 1))) (IntKind.u64.wrap (100 + 4)) 0 0 false
theorem eK1_33 : eK1[33]? = some (.bool true) := by kernel_rfl
theorem eK1_34 : eK1[34]? = some (.bool true) := by kernel_rfl
theorem eK1_36 : eK1[36]? = some (.int .u64 104) := by kernel_rfl
theorem eK2_0 : eK2[0]? = some (.int .u64 1) := by kernel_rfl
theorem eK1_size : eK1.size = 40 := efA_size _ _ _ _ _
theorem eK2_size : eK2.size = 40 := efA_size _ _ _ _ _
theorem eK1_one : eK1.all (·.oneCell') = true := efA_one _ _ _ _ _
theorem eK2_one : eK2.all (·.oneCell') = true := efA_one _ _ _ _ _
attribute [local go_sem ↓] ld76 ld25 ld38
attribute [local go_sem] rowAt_drew rowAt_drewN
set_option maxRecDepth 100000 in
set_option maxHeartbeats 4000000 in
theorem known6_c (w : World) : Calls Try.prog 10 #[] w fun e w' => e = .returned (.bool true) ∧ Below w.heap.size w w' := by
  have HR0 : Hid (rowAt (w.alloc (.cells rK.arr 25)) w.heap.size = some rK.arr) := Lib.hid (rowAt_new _ _ _)
  have HB0 : Hid (Below w.heap.size w (w.alloc (.cells rK.arr 25))) := Lib.hid ((Below.refl _ _).alloc (Nat.le_refl _) _)
  go_enter Try.func10, Try.ntmps10
  go_wp2_with (first | (refine wpl_load rfl 25 _ rfl w.heap.size 0 rfl rK.arr (reg_all HR0.out) ?_))
  refine (do_subsi 100 rK _ (by decide) (by decide)).mono ?_
  rintro e w2 ⟨he, hb2⟩
  obtain rfl : e = .returned (.agg eK1) := he
  have HR2 := Lib.hid (rowAt_past (rowAt_below HR0.out hb2 rfl) (.cells z40 38))
  have HZ2 := Lib.hid (rowAt_new w2 z40 38)
  have HB2 := Lib.hid ((HB0.out.trans (hb2.mono HB0.out.size)).alloc (HB0.out.trans (hb2.mono HB0.out.size)).size (.cells z40 38))
  have hlt : w.heap.size < w2.heap.size := rowAt_lt (rowAt_below HR0.out hb2 rfl)
  clear hb2 HR0 HB0
  go_wp2_with (first | (refine wpl_store rfl 38 _ _ rfl w2.heap.size eK1 z40 rfl rfl HZ2.out (by rw [eK1_size]; exact info38) (by rw [eK1_size]; rfl) eK1_one ?_; intro w3 hrow3 hg3; have HE3 := Lib.hid hrow3; have HR3 := Lib.hid (rowAt_grown HR2.out hg3 (by omega)); have HB3 := Lib.hid (grown_below HB2.out hg3 (by omega)); clear hrow3 hg3; have c33 := (rowAt_cell HR3.out 33).trans rK.at33; have f33 := rowAt_frz HR3.out 33))
  obtain ⟨g2, hg2⟩ : ∃ g2, g2 = w2.heap.size := ⟨_, rfl⟩
  have HG2 := Lib.hid hg2
  rw [← hg2] at hlt HE3
  rw [← hg2]
  clear hg2 HR2 HZ2 HB2
  have HR4 : Hid (rowAt (w3.setCell ⟨w.heap.size, 33, none⟩ (.bool true)) w.heap.size = some rK1.arr) := Lib.hid (by rw [← rK1_arr]; exact rowAt_set HR3.out _ _)
  have HE4 : Hid (rowAt (w3.setCell ⟨w.heap.size, 33, none⟩ (.bool true)) g2 = some eK1) := Lib.hid (rowAt_set_far HE3.out (by omega) _ _)
  have HB4 : Hid (Below w.heap.size w (w3.setCell ⟨w.heap.size, 33, none⟩ (.bool true))) := Lib.hid (HB3.out.setCell (p := ⟨w.heap.size, _, none⟩) (Nat.le_refl _) _)
  clear c33 f33 HE3 HR3 HB3
  generalize w3.setCell ⟨w.heap.size, 33, none⟩ (.bool true) = w4 at *
  have hl : (ldAt 25 (.pointer (some ⟨w.heap.size, 0, none⟩))).run Try.prog w4 = .ok (.agg rK1.arr) w4 := reg_all HR4.out
  rw [hl]
  simp only [Result.andThen_ok]
  clear hl
  go_wp2_with fail
  refine (do_csinc 100 rK1 _ false rK1_hold).mono ?_
  rintro e w5 ⟨he, hb5⟩
  obtain rfl : e = .returned (.agg eK2) := he
  have HE5 := Lib.hid (rowAt_past (rowAt_below HE4.out hb5 rfl) (.cells z40 38))
  have HZ5 := Lib.hid (rowAt_new w5 z40 38)
  have HB5 := Lib.hid ((HB4.out.trans (hb5.mono HB4.out.size)).alloc (HB4.out.trans (hb5.mono HB4.out.size)).size (.cells z40 38))
  have hlt5 : g2 < w5.heap.size := rowAt_lt (rowAt_below HE4.out hb5 rfl)
  clear hb5 HR4 HE4 HB4
  go_wp2_with (first | (refine wpl_store rfl 38 _ _ rfl w5.heap.size eK2 z40 rfl rfl HZ5.out (by rw [eK2_size]; exact info38) (by rw [eK2_size]; rfl) eK2_one ?_; intro w6 hrow6 hg6; have HE6 := Lib.hid (rowAt_grown HE5.out hg6 (by omega)); have HB6 := Lib.hid (grown_below HB5.out hg6 (by omega)); have c33 := (rowAt_cell HE6.out 33).trans eK1_33; have c34 := (rowAt_cell HE6.out 34).trans eK1_34; have c36 := (rowAt_cell HE6.out 36).trans eK1_36; have c0 := (rowAt_cell hrow6 0).trans eK2_0; clear hrow6 hg6))
  go_ret
  exact ⟨rfl, HB6.out⟩
end Go.Proofs.Ytpjfjdncdiemlaa
