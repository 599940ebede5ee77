import Derived.Test.YtpjfjdncdiemlaaSfP
import Derived.Test.YtpjfjdncdiemlaaSxN
import Derived.WalkKit
import Derived.ProofKit
import Derived.OpenShut
import Derived.Deep.QuietTactic
import Derived.BigQuiet
import Derived.Outline
import Derived.WalkSmall
import Derived.WalkLawsBesides
import Derived.WalkSpells
import Derived.BigGuardPart
import Derived.RegionTactic
import Derived.Deep.RegionHeld3
import Derived.Lib.Hide
import Derived.Deep.MidRow
import Derived.Below
import Derived.Deep.RegionWith
namespace Go.Proofs.Ytpjfjdncdiemlaa
open Go.ChangeShapes Go.WideShapes Go.ChangeAt Go.RowKit
open Fr (puts mem_puts puts_length)
set_option linter.unusedVariables false
attribute [local go_sem ↓] ld76 ld25 ld38 st25
attribute [local go_sem] rowAt_drew rowAt_drewN
set_option maxRecDepth 100000 in
set_option maxHeartbeats 4000000 in
theorem frames_n (o d n m a c i pc : Int) (r q : Rg) (w : World) (hck : ∀ w, Calls Try.prog 17 #[.agg #[.int .i64 o, .int .i64 d, .int .i64 n, .int .i64 m, .int .i64 a, .int .i64 c, .int .i64 i]] w fun e w' => e = .returned (.int .i64 1) ∧ Below w.heap.size w w') :
    Calls Try.prog 4 #[.agg #[.int .i64 o, .int .i64 d, .int .i64 n, .int .i64 m, .int .i64 a, .int .i64 c, .int .i64 i], .int .u64 pc, .agg r.arr, .agg q.arr] w fun e w' => e = .returned (.bool true) ∧ Below w.heap.size w w' := by
  have HCK := Lib.hid hck
  clear hck
  have I0 : Hid (InsAt (((w.alloc (.cells #[.int .i64 o, .int .i64 d, .int .i64 n, .int .i64 m, .int .i64 a, .int .i64 c, .int .i64 i] 32)).alloc (.cells r.arr 25)).alloc (.cells q.arr 25)) w.heap.size (.int .i64 o) (.int .i64 d) (.int .i64 n) (.int .i64 m) (.int .i64 a) (.int .i64 c) (.int .i64 i)) := Lib.hid (((InsAt.new _ _ _ _ _ _ _ _).past _).past _)
  have B0 : Hid (Below w.heap.size w (((w.alloc (.cells #[.int .i64 o, .int .i64 d, .int .i64 n, .int .i64 m, .int .i64 a, .int .i64 c, .int .i64 i] 32)).alloc (.cells r.arr 25)).alloc (.cells q.arr 25))) := Lib.hid ((((Below.refl _ _).alloc (Nat.le_refl _) _).alloc (by simp) _).alloc (by simp; omega) _)
  go_enter Try.func4, Try.ntmps4
  go_wp2_with fail
  refine (known6_c _).mono ?_
  rintro e w1 ⟨rfl, hb⟩
  have I1 := Lib.hid (I0.out.below' hb rfl)
  have B1 := Lib.hid (below_step B0.out hb rfl rfl rfl rfl)
  clear hb I0 B0
  obtain ⟨hl, i0, i1, i2, i3, i4, i5, i6⟩ := I1.out
  go_wp2_with fail
  refine (HCK.out _).mono ?_
  rintro e w2 ⟨rfl, hb⟩
  have B2 := Lib.hid (B1.out.trans (hb.mono B1.out.size))
  clear hb
  go_wp2
  go_ret
  exact ⟨rfl, B2.out⟩
theorem frames_c (o d n m a c i pc : Int) (r q : Rg) (w : World) (hr : r.within) (hq : q.within) :
    Calls Try.prog 4 #[.agg #[.int .i64 o, .int .i64 d, .int .i64 n, .int .i64 m, .int .i64 a, .int .i64 c, .int .i64 i], .int .u64 pc, .agg r.arr, .agg q.arr] w fun e w' => e = .returned (.bool true) ∧ Below w.heap.size w w' := by
  rcases any_ins o d n m a c i with h | ⟨I, T, h⟩
  · exact frames_n o d n m a c i pc r q w h
  · exact frames_y o d n m a c i pc r q I T w hr hq h
end Go.Proofs.Ytpjfjdncdiemlaa
