import Derived.Test.YthgpolddbadfmaaRows
import Derived.WalkKit
import Derived.ProofKit
import Derived.OpenShut
import Derived.Outline
import Derived.WalkSmall
import Derived.WalkLawsBesides
import Derived.WalkSpells
import Derived.BigGuardPart
import Derived.RegionTactic
import Derived.Lib.Hide
import Derived.Below
import Derived.Deep.RegionWith
import Derived.Deep.RegionHeld3
import Derived.Test.YthgpolddbadfmaaIs
import Derived.Test.YthgpolddbadfmaaCkP
import Derived.Test.YthgpolddbadfmaaCkQ
import Derived.Test.YthgpolddbadfmaaCkR
import Derived.Test.YthgpolddbadfmaaCkS
namespace Go.Proofs.Ythgpolddbadfmaa
open Go.ChangeShapes Go.WideShapes Go.ChangeAt Go.RowKit
set_option linter.unusedVariables false
theorem check_gen (op d n m a c i F : Int) (b5 b7 b8 b9 : Bool) (w : World) (h34 : ∀ w, Calls Try.prog 27 #[.int .i64 op] w fun e w' => e = .returned (.bool true) ∧ w' = w) (h36 : ∀ w, Calls Try.prog 29 #[.int .i64 op] w fun e w' => e = .returned (.int .i64 F) ∧ w' = w) (h35 : ∀ w, Calls Try.prog 28 #[.agg #[.int .i64 op, .int .i64 d, .int .i64 n, .int .i64 m, .int .i64 a, .int .i64 c, .int .i64 i], .int .i64 F] w fun e w' => e = .returned (.bool b5) ∧ Below w.heap.size w w') (h37 : ∀ w, Calls Try.prog 30 #[.agg #[.int .i64 op, .int .i64 d, .int .i64 n, .int .i64 m, .int .i64 a, .int .i64 c, .int .i64 i]] w fun e w' => e = .returned (.bool b7) ∧ Below w.heap.size w w') (h38 : ∀ w, Calls Try.prog 31 #[.agg #[.int .i64 op, .int .i64 d, .int .i64 n, .int .i64 m, .int .i64 a, .int .i64 c, .int .i64 i]] w fun e w' => e = .returned (.bool b8) ∧ Below w.heap.size w w') (h39 : ∀ w, Calls Try.prog 32 #[.agg #[.int .i64 op, .int .i64 d, .int .i64 n, .int .i64 m, .int .i64 a, .int .i64 c, .int .i64 i]] w fun e w' => e = .returned (.bool b9) ∧ Below w.heap.size w w') :
    Calls Try.prog 16 #[.agg #[.int .i64 op, .int .i64 d, .int .i64 n, .int .i64 m, .int .i64 a, .int .i64 c, .int .i64 i]] w fun e w' => e = .returned (.int .i64 (er (b5 && b7 && b8 && b9))) ∧ Below w.heap.size w w' := by
  cases b5
  · exact check_f35 op d n m a c i F w h34 h36 h35
  · cases b7
    · exact check_f37 op d n m a c i F w h34 h36 h35 h37
    · cases b8
      · exact check_f38 op d n m a c i F w h34 h36 h35 h37 h38
      · cases b9
        · exact check_f39 op d n m a c i F w h34 h36 h35 h37 h38 h39
        · exact check_t op d n m a c i F w h34 h36 h35 h37 h38 h39
end Go.Proofs.Ythgpolddbadfmaa
