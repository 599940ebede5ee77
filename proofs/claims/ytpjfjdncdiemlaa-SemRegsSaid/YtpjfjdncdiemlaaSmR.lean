import Derived.Test.YtpjfjdncdiemlaaRows
import Derived.WalkKit
import Derived.ProofKit
import Derived.OpenShut
import Derived.Deep.QuietTactic
import Derived.BigQuiet
import Derived.Outline
import Derived.WalkSmall
import Derived.WalkLawsBesides
import Derived.WalkSpells
import Derived.BigGuardPart
import Derived.RegionTactic
import Derived.Deep.RegionHeld3
import Derived.Lib.Hide
import Derived.Deep.MidRow
import Derived.Below
import Derived.Deep.RegionWith
import Derived.Test.YtpjfjdncdiemlaaSmC
import Derived.Test.YtpjfjdncdiemlaaSmQ
import Derived.Deep.OwnRows
import Derived.Deep.AppendLies
import Derived.Laws.BitsAllLaws
import Derived.Laws.BitsLemmas
namespace Go.Proofs.Ytpjfjdncdiemlaa
open Go.ChangeShapes Go.WideShapes Go.ChangeAt Go.RowKit
set_option linter.unusedVariables false



attribute [local go_sem ↓] ld76 ld25 ld38 eql25
attribute [local go_sem] rowAt_drew rowAt_drewN
set_option maxRecDepth 100000 in
set_option maxHeartbeats 8000000 in
theorem regs_c (r : Rg) (n v c : Int) (w : World) (h1 : -9223372036854775808 ≤ c) (h2 : c ≤ 9223372036854775807) :
    Calls Try.prog 3 #[.agg r.arr, .int .i64 n, .int .u64 v, .int .i64 c] w fun e w' => e = .returned (.bool true) ∧ Below w.heap.size w w' := by
  have HR0 : Hid (rowAt (w.alloc (.cells r.arr 25)) w.heap.size = some r.arr) := Lib.hid (rowAt_new _ _ _)
  have HB0 : Hid (Below w.heap.size w (w.alloc (.cells r.arr 25))) := Lib.hid ((Below.refl _ _).alloc (Nat.le_refl _) _)
  go_enter Try.func3, Try.ntmps3
  go_wp2_with (go_at_call 10; refine (known6_c _).mono ?_; rintro e w1 ⟨rfl, hb⟩; have hR := rowAt_below HR0.out hb rfl; have HBB := Lib.hid (HB0.out.trans (hb.mono HB0.out.size)); clear hb HR0 HB0)
  have hl1 : ∀ w', rowAt w' w.heap.size = some r.arr → (ldAt 25 (.pointer (some ⟨w.heap.size, 0, none⟩))).run Try.prog w' = .ok (.agg r.arr) w' := fun w' h => reg_all h
  go_region_held3 (fun w' => rowAt w' w.heap.size = some r.arr) (assumption) (first | (go_at_call 11; refine (get11 r n _).mono ?_; rintro e w' ⟨rfl, hb0⟩; have hR2 : rowAt w' w.heap.size = some r.arr := rowAt_below (by assumption) hb0 rfl; have HBX := Lib.hid (below_step HBB.out hb0 rfl rfl rfl rfl); replace HBB := HBX; clear HBX hb0) | (go_at_call 12; refine (get12 r n _).mono ?_; rintro e w' ⟨rfl, hb1⟩; have hR3 : rowAt w' w.heap.size = some r.arr := rowAt_below (by assumption) hb1 rfl; have HBX := Lib.hid (below_step HBB.out hb1 rfl rfl rfl rfl); replace HBB := HBX; clear HBX hb1) | (go_at_call 13; refine (set13 r n v _).mono ?_; rintro e w' ⟨rfl, hb2⟩; have hR4 : rowAt w' w.heap.size = some r.arr := rowAt_below (by assumption) hb2 rfl; have HBX := Lib.hid (below_step HBB.out hb2 rfl rfl rfl rfl); replace HBB := HBX; clear HBX hb2) | (go_at_call 14; refine (set14 r n v _).mono ?_; rintro e w' ⟨rfl, hb3⟩; have hR5 : rowAt w' w.heap.size = some r.arr := rowAt_below (by assumption) hb3 rfl; have HBX := Lib.hid (below_step HBB.out hb3 rfl rfl rfl rfl); replace HBB := HBX; clear HBX hb3) | (go_at_call 15; refine (hold15 r c _).mono ?_; rintro e w' ⟨rfl, hb4⟩; have hR6 : rowAt w' w.heap.size = some r.arr := rowAt_below (by assumption) hb4 rfl; have HBX := Lib.hid (below_step HBB.out hb4 rfl rfl rfl rfl); replace HBB := HBX; clear HBX hb4) | (go_at_call 16; refine (hold16 r c _ h1 h2).mono ?_; rintro e w' ⟨rfl, hb5⟩; have hR7 : rowAt w' w.heap.size = some r.arr := rowAt_below (by assumption) hb5 rfl; have HBX := Lib.hid (below_step HBB.out hb5 rfl rfl rfl rfl); replace HBB := HBX; clear HBX hb5))
  all_goals
    go_wp2
    go_ret
    exact ⟨by simp, HBB.out⟩
end Go.Proofs.Ytpjfjdncdiemlaa
