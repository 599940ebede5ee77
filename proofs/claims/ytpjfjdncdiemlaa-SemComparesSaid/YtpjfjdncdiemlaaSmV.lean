import Derived.Test.YtpjfjdncdiemlaaRows
import Derived.WalkKit
import Derived.ProofKit
import Derived.OpenShut
import Derived.Deep.QuietTactic
import Derived.BigQuiet
import Derived.Outline
import Derived.WalkSmall
import Derived.WalkLawsBesides
import Derived.WalkSpells
import Derived.BigGuardPart
import Derived.RegionTactic
import Derived.Deep.RegionHeld3
import Derived.Lib.Hide
import Derived.Deep.MidRow
import Derived.Below
import Derived.Deep.RegionWith
import Derived.Test.YtpjfjdncdiemlaaSmC
import Derived.Test.YtpjfjdncdiemlaaSmU
import Derived.Test.YtpjfjdncdiemlaaSmQ
import Derived.Test.YtpjfjdncdiemlaaSmW
import Derived.Deep.OwnRows
import Derived.Deep.AppendLies
import Derived.Laws.BitsAllLaws
import Derived.Laws.BitsLemmas
namespace Go.Proofs.Ytpjfjdncdiemlaa
open Go.ChangeShapes Go.WideShapes Go.ChangeAt Go.RowKit
set_option linter.unusedVariables false



theorem xs_all {w : World} {b : Nat} {r : Rg} (h : rowAt w b = some r.arr) : (Instr.loadAt 23 (.pointer (some ⟨b, 0, none⟩))).run Try.prog w = .ok (.agg r.xs) w := by
  rw [load_row Try.underlying23 rfl info23, h]
  simp only []
  rw [if_pos (by rw [r.size]; omega), Nat.zero_add, r.xs_arr]
theorem less_xs (r : Rg) (x v : Int) : (r.less x v 31).xs = r.xs := by rw [less31]; rfl
theorem do0_subs (r r' : Rg) (h : Hid (r' = r.less (r.get 1) (r.get 2) 31)) (x1 : 0 ≤ r.get 1) (x2 : r.get 1 < 18446744073709551616) (y1 : 0 ≤ r.get 2) (y2 : r.get 2 < 18446744073709551616) (w : World) : Calls Try.prog 20 #[.agg #[.int .i64 9, .int .i64 31, .int .i64 1, .int .i64 2, .int .i64 0, .int .i64 0, .int .i64 0], .int .u64 0, .agg r.arr] w fun e w' => e = .returned (.agg (efo r')) ∧ Below w.heap.size w w' := by
  rw [h.out]
  exact do_subs 0 r w x1 x2 y1 y2
attribute [local go_sem ↓] ld76 ld25 ld38
attribute [local go_sem] rowAt_drew rowAt_drewN field_efo
attribute [local go_sem ↓] eql23
set_option maxRecDepth 100000 in
set_option maxHeartbeats 8000000 in
theorem compares_c (a b : Int) (RS : Rg) (HRS : Hid (RS = (r2 a b).less ((r2 a b).get 1) ((r2 a b).get 2) 31)) (x1 : 0 ≤ (r2 a b).get 1) (x2 : (r2 a b).get 1 < 18446744073709551616) (y1 : 0 ≤ (r2 a b).get 2) (y2 : (r2 a b).get 2 < 18446744073709551616) (a1 : 0 ≤ a) (a2 : a < 18446744073709551616) (b1 : 0 ≤ b) (b2 : b < 18446744073709551616) (HWANT : Hid (∀ j, j < 16 → (wantA a b RS.v)[j]? = some (.bool (RS.hv j)))) (HXS : Hid (RS.xs = (r2 a b).xs)) (w : World) :
    Calls Try.prog 5 #[.int .u64 a, .int .u64 b] w fun e w' => e = .returned (.bool true) ∧ Below w.heap.size w w' := by
  go_enter Try.func5, Try.ntmps5
  go_wp2_with (first | (go_at_call 10; refine (known6_c _).mono ?_; rintro e w1 ⟨rfl, hb1⟩; have HB := Lib.hid (hb1.alloc hb1.size (.cells (r2 a b).arr 25)); have H5 := Lib.hid (rowAt_new w1 (r2 a b).arr 25); have hp5 : w.heap.size ≤ w1.heap.size := hb1.size; clear hb1) | (refine wpl_load rfl 25 _ rfl w1.heap.size 0 rfl (r2 a b).arr (reg_all H5.out) ?_))
  refine (do0_subs (r2 a b) RS HRS x1 x2 y1 y2 _).mono ?_
  rintro e w2 ⟨rfl, hb⟩
  have H5 := Lib.hid (rowAt_below H5.out hb rfl)
  have HB := Lib.hid (HB.out.trans (hb.mono HB.out.size))
  have L5 := rowAt_lt H5.out
  have LB := HB.out.size
  clear hb
  have HZ := Lib.hid (rowAt_new w2 z36 25)
  have H5 := Lib.hid (rowAt_past H5.out (.cells z36 25))
  have HB := Lib.hid (HB.out.alloc HB.out.size (.cells z36 25))
  go_wp2_with (first | (refine wpl_store rfl 25 _ _ rfl w2.heap.size RS.arr z36 rfl rfl HZ.out (by rw [Rg.size]; exact info25) (by rw [Rg.size]; rfl) (Rg.one _) ?_; intro w3 hrow hg; have H6 := Lib.hid hrow; have H5 := Lib.hid (rowAt_grown H5.out hg (by omega)); have HB := Lib.hid (grown_below HB.out hg (by omega)); have e35 := (rowAt_cell H6.out 35).trans RS.at35; clear hrow hg))
  have HWA := Lib.hid (rowAt_new w3 (wantA a b RS.v) 4)
  have H6 := Lib.hid (rowAt_past H6.out (.cells (wantA a b RS.v) 4))
  have H5 := Lib.hid (rowAt_past H5.out (.cells (wantA a b RS.v) 4))
  have HB := Lib.hid (HB.out.alloc HB.out.size (.cells (wantA a b RS.v) 4))
  go_loopw [10] (fun i wr => ∃ j : Nat, i = .int .i64 j ∧ j ≤ 16 ∧ Hid (rowAt wr w2.heap.size = some RS.arr) ∧ Hid (rowAt wr w3.heap.size = some (wantA a b RS.v)) ∧ Hid (rowAt wr w1.heap.size = some (r2 a b).arr) ∧ Hid (Below w.heap.size w wr)) (fun i _ => 16 - (intOf i).toNat)
  case atStart => exact ⟨0, rfl, by omega, H6, HWA, H5, HB⟩
  case round =>
    obtain ⟨j, rfl, hj, H6r, HWr, H5r, HBr⟩ := hrel
    clear H6 HWA H5 HB e35 HZ
    by_cases hlt : j < 16
    · obtain ⟨bj, hbj⟩ : ∃ bj, RS.hv j = bj := ⟨_, rfl⟩
      have hw := HWANT.out j hlt
      rw [hbj] at hw
      have hhold : RS.hold (j : Int) = bj := by unfold Rg.hold; rw [if_pos (by omega), ← hbj]; simp
      have hc0 : wr.cell? ⟨w3.heap.size, j, none⟩ = some (.bool bj) := (rowAt_cell HWr.out j).trans hw
      have hl6 : ∀ w', rowAt w' w2.heap.size = some RS.arr → (ldAt 25 (.pointer (some ⟨w2.heap.size, 0, none⟩))).run Try.prog w' = .ok (.agg RS.arr) w' := fun w' h => reg_all h
      have hr0 := H6r.out
      have g1 : (0 : Int) ≤ j := by omega
      have g2 : (j : Int) < 16 := by omega
      clear hw hbj
      go_wp2
      go_region_held3 (fun w' => rowAt w' w2.heap.size = some RS.arr ∧ w'.cell? ⟨w3.heap.size, j, none⟩ = some (.bool bj)) (first | exact ⟨hra, hca⟩ | exact ⟨hr0, hc0⟩) (first | (go_at_call 15; refine (hold15 RS j _).mono ?_; rintro e wa ⟨rfl, hba⟩; have hra : rowAt wa w2.heap.size = some RS.arr := rowAt_below hr0 hba rfl; have HWa := Lib.hid (rowAt_below HWr.out hba rfl); have H5a := Lib.hid (rowAt_below H5r.out hba rfl); have HBa := Lib.hid (below_step HBr.out hba rfl rfl rfl rfl); have hca : wa.cell? ⟨w3.heap.size, j, none⟩ = some (.bool bj) := (rowAt_cell HWa.out j).trans (by rw [HWANT.out j hlt]; congr 2; unfold Rg.hold at hhold; rw [if_pos (by omega)] at hhold; simpa using hhold); clear hba; rw [hhold]))
      all_goals
        go_wp2
        go_roundw
        case rel => exact ⟨j + 1, by go_num, by omega, Lib.hid hra, HWa, H5a, HBa⟩
        case measure => simp [intOf]; omega
    · obtain rfl : j = 16 := by omega
      have hno1 := RS.hold_no 16 (by omega)
      have hno2 := RS.hold_no (-1) (by omega)
      have HN1 := Lib.hid hno1
      have HN2 := Lib.hid hno2
      clear hno1 hno2
      have hl6 : ∀ w', rowAt w' w2.heap.size = some RS.arr → (ldAt 25 (.pointer (some ⟨w2.heap.size, 0, none⟩))).run Try.prog w' = .ok (.agg RS.arr) w' := fun w' h => reg_all h
      have hr0 := H6r.out
      go_wp2_with (first | (refine wpl_load rfl 23 _ rfl w2.heap.size 0 rfl (r2 a b).xs (by rw [← HXS.out]; exact xs_all H6r.out) ?_) | (refine wpl_load rfl 23 _ rfl w1.heap.size 0 rfl (r2 a b).xs (xs_all H5r.out) ?_))
      refine (hold15 RS 16 _).mono ?_
      rintro e wa ⟨rfl, hba⟩
      rw [HN1.out]
      have hra : rowAt wa w2.heap.size = some RS.arr := rowAt_below hr0 hba rfl
      have HBa := Lib.hid (HBr.out.trans (hba.mono HBr.out.size))
      clear hba hr0
      go_wp2_with fail
      refine (hold15 RS (-1) _).mono ?_
      rintro e wb ⟨rfl, hbb⟩
      rw [HN2.out]
      have HBb := Lib.hid (HBa.out.trans (hbb.mono HBa.out.size))
      clear hbb hra
      go_wp2
      go_ret
      exact ⟨rfl, HBb.out⟩
end Go.Proofs.Ytpjfjdncdiemlaa
