import Derived.Test.YtpjfjdncdiemlaaRows
import Derived.WalkKit
import Derived.ProofKit
import Derived.OpenShut
import Derived.Deep.QuietTactic
import Derived.BigQuiet
import Derived.Outline
import Derived.WalkSmall
import Derived.WalkLawsBesides
import Derived.WalkSpells
import Derived.BigGuardPart
import Derived.RegionTactic
import Derived.Deep.RegionHeld3
import Derived.Lib.Hide
import Derived.Deep.MidRow
import Derived.Below
import Derived.Deep.RegionWith
import Derived.Test.YtpjfjdncdiemlaaSmC
import Derived.Test.YtpjfjdncdiemlaaSmL
import Derived.Deep.OwnRows
import Derived.Deep.AppendLies
import Derived.Laws.BitsAllLaws
import Derived.Laws.BitsLemmas
namespace Go.Proofs.Ytpjfjdncdiemlaa
open Go.ChangeShapes Go.WideShapes Go.ChangeAt Go.RowKit
set_option linter.unusedVariables false


theorem do_subsi (pc : Int) (r : Rg) (w : World) (x1 : 0 ≤ r.get 0) (x2 : r.get 0 < 18446744073709551616) :
    Calls Try.prog 20 #[.agg #[.int .i64 6, .int .i64 31, .int .i64 0, .int .i64 0, .int .i64 0, .int .i64 0, .int .i64 5], .int .u64 pc, .agg r.arr] w fun e w' => e = .returned (.agg (efA (r.less (r.get 0) 5 31) (IntKind.u64.wrap (pc + 4)) 0 0 false)) ∧ Below w.heap.size w w' :=
  do_op58 6 31 0 0 0 0 5 pc 5 r (r.less (r.get 0) 5 31) w check_subsi doing_6 (fun w => subtract_c 6 31 0 0 0 0 5 pc 5 r w rfl (by decide) (by decide) x1 x2) (fun w => number_c 6 31 0 0 0 0 5 pc r w (by decide) (by decide))
theorem do_subs (pc : Int) (r : Rg) (w : World) (x1 : 0 ≤ r.get 1) (x2 : r.get 1 < 18446744073709551616) (y1 : 0 ≤ r.get 2) (y2 : r.get 2 < 18446744073709551616) :
    Calls Try.prog 20 #[.agg #[.int .i64 9, .int .i64 31, .int .i64 1, .int .i64 2, .int .i64 0, .int .i64 0, .int .i64 0], .int .u64 pc, .agg r.arr] w fun e w' => e = .returned (.agg (efA (r.less (r.get 1) (r.get 2) 31) (IntKind.u64.wrap (pc + 4)) 0 0 false)) ∧ Below w.heap.size w w' :=
  do_op59 9 31 1 2 0 0 0 pc (r.get 2) r (r.less (r.get 1) (r.get 2) 31) w check_subs doing_9 (fun w => subtract_c 9 31 1 2 0 0 0 pc (r.get 2) r w rfl y1 y2 x1 x2) (fun w => second_c 9 31 1 2 0 0 0 pc r w)
theorem do_csinc (pc : Int) (r : Rg) (w : World) (b : Bool) (hb : r.hold 1 = b) :
    Calls Try.prog 20 #[.agg #[.int .i64 19, .int .i64 0, .int .i64 31, .int .i64 31, .int .i64 0, .int .i64 1, .int .i64 0], .int .u64 pc, .agg r.arr] w fun e w' => e = .returned (.agg (efA (r.set 0 (if b then r.get 31 else IntKind.u64.wrap (r.get 31 + 1))) (IntKind.u64.wrap (pc + 4)) 0 0 false)) ∧ Below w.heap.size w w' :=
  do_res90 19 0 31 31 0 1 0 pc _ r w check_csinc doing_19 (fun w => target_c 19 0 31 31 0 1 0 pc r w rfl) (fun w => choose_c 0 31 31 0 1 0 pc r w b hb)
theorem do_add (pc : Int) (r : Rg) (w : World) :
    Calls Try.prog 20 #[.agg #[.int .i64 7, .int .i64 4, .int .i64 1, .int .i64 2, .int .i64 0, .int .i64 0, .int .i64 0], .int .u64 pc, .agg r.arr] w fun e w' => e = .returned (.agg (efA (r.set 4 (IntKind.u64.wrap (r.get 1 + r.get 2))) (IntKind.u64.wrap (pc + 4)) 0 0 false)) ∧ Below w.heap.size w w' :=
  do_res81 7 4 1 2 0 0 0 pc _ r w check_add doing_7 (fun w => target_c 7 4 1 2 0 0 0 pc r w rfl) (fun w => add_c 7 4 1 2 0 0 0 pc r w rfl)
theorem do_sub (pc : Int) (r : Rg) (w : World) :
    Calls Try.prog 20 #[.agg #[.int .i64 8, .int .i64 4, .int .i64 4, .int .i64 2, .int .i64 0, .int .i64 0, .int .i64 0], .int .u64 pc, .agg r.arr] w fun e w' => e = .returned (.agg (efA (r.set 4 (IntKind.u64.wrap (r.get 4 - r.get 2))) (IntKind.u64.wrap (pc + 4)) 0 0 false)) ∧ Below w.heap.size w w' :=
  do_res82 8 4 4 2 0 0 0 pc _ r w check_sub doing_8 (fun w => target_c 8 4 4 2 0 0 0 pc r w rfl) (fun w => sub_c 8 4 4 2 0 0 0 pc r w rfl)
theorem do_eor1 (pc : Int) (r : Rg) (w : World) :
    Calls Try.prog 20 #[.agg #[.int .i64 12, .int .i64 4, .int .i64 1, .int .i64 2, .int .i64 0, .int .i64 0, .int .i64 0], .int .u64 pc, .agg r.arr] w fun e w' => e = .returned (.agg (efA (r.set 4 (bits .xor .u64 (r.get 1) (r.get 2))) (IntKind.u64.wrap (pc + 4)) 0 0 false)) ∧ Below w.heap.size w w' :=
  do_res85 12 4 1 2 0 0 0 pc _ r w check_eor1 doing_12 (fun w => target_c 12 4 1 2 0 0 0 pc r w rfl) (fun w => xor_c 12 4 1 2 0 0 0 pc r w rfl)
theorem do_eor2 (pc : Int) (r : Rg) (w : World) :
    Calls Try.prog 20 #[.agg #[.int .i64 12, .int .i64 4, .int .i64 4, .int .i64 2, .int .i64 0, .int .i64 0, .int .i64 0], .int .u64 pc, .agg r.arr] w fun e w' => e = .returned (.agg (efA (r.set 4 (bits .xor .u64 (r.get 4) (r.get 2))) (IntKind.u64.wrap (pc + 4)) 0 0 false)) ∧ Below w.heap.size w w' :=
  do_res85 12 4 4 2 0 0 0 pc _ r w check_eor2 doing_12 (fun w => target_c 12 4 4 2 0 0 0 pc r w rfl) (fun w => xor_c 12 4 4 2 0 0 0 pc r w rfl)
theorem do_madd (pc : Int) (r : Rg) (w : World) :
    Calls Try.prog 20 #[.agg #[.int .i64 13, .int .i64 4, .int .i64 1, .int .i64 2, .int .i64 3, .int .i64 0, .int .i64 0], .int .u64 pc, .agg r.arr] w fun e w' => e = .returned (.agg (efA (r.set 4 (IntKind.u64.wrap (r.get 3 + IntKind.u64.wrap (r.get 1 * r.get 2)))) (IntKind.u64.wrap (pc + 4)) 0 0 false)) ∧ Below w.heap.size w w' :=
  do_res86 13 4 1 2 3 0 0 pc _ r w check_madd doing_13 (fun w => target_c 13 4 1 2 3 0 0 pc r w rfl) (fun w => madd_c 13 4 1 2 3 0 0 pc r w rfl)
theorem do_msub (pc : Int) (r : Rg) (w : World) :
    Calls Try.prog 20 #[.agg #[.int .i64 14, .int .i64 4, .int .i64 1, .int .i64 2, .int .i64 4, .int .i64 0, .int .i64 0], .int .u64 pc, .agg r.arr] w fun e w' => e = .returned (.agg (efA (r.set 4 (IntKind.u64.wrap (r.get 4 - IntKind.u64.wrap (r.get 1 * r.get 2)))) (IntKind.u64.wrap (pc + 4)) 0 0 false)) ∧ Below w.heap.size w w' :=
  do_res87 14 4 1 2 4 0 0 pc _ r w check_msub doing_14 (fun w => target_c 14 4 1 2 4 0 0 pc r w rfl) (fun w => msub_c 14 4 1 2 4 0 0 pc r w rfl)
end Go.Proofs.Ytpjfjdncdiemlaa
