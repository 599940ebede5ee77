import Derived.Laws.BitsLemmas
import Derived.IntWalk
import Derived.Laws.BitsAllLaws
import Derived.Deep.DrawnRows
import Derived.Deep.RegionLaw
import Derived.Test.YtgdlcnngplfjnaaDoorVa
import Derived.Test.YtgdlcnngplfjnaaDoorRows
import Derived.WalkKit
import Derived.ProofKit
import Derived.OpenShut
import Derived.Deep.QuietTactic
import Derived.BigQuiet
import Derived.Outline
import Derived.WalkSmall
import Derived.WalkLawsBesides
import Derived.WalkSpells
import Derived.BigGuardPart
import Derived.RegionTactic
import Derived.Deep.RegionHeld3
import Derived.Lib.Hide
import Derived.Deep.MidRow
import Derived.Below
import Derived.Deep.RegionWith
import Derived.Deep.OwnRows
import Derived.Deep.AppendLies
import Derived.Deep.RegionLaw
namespace Go.Proofs.YtgdlcnngplfjnaaDoor
open Go.ChangeShapes Go.WideShapes Go.ChangeAt Go.RowKit
set_option linter.unusedVariables false

theorem wrap8 (n : Int) : IntKind.i8.wrap n = (n + 128) % 256 - 128 := by
  simp [IntKind.wrap, IntKind.bits, IntKind.signed]
  split <;> omega
theorem wrap16 (n : Int) : IntKind.i16.wrap n = (n + 32768) % 65536 - 32768 := by
  simp [IntKind.wrap, IntKind.bits, IntKind.signed]
  split <;> omega
theorem w64x {x : Int} (h : -9223372036854775808 ≤ x) (h2 : x ≤ 9223372036854775807) : wrap64 x = x := by
  unfold wrap64
  omega
theorem or16 {x y : Nat} (hx : x < 256) (hy : y < 256) : bits .or .u16 (x : Int) ((y : Int) * 256) = ((x + 256 * y : Nat) : Int) := by
  have e : x ||| y * 256 = x + 256 * y := by
    have := Nat.two_pow_add_eq_or_of_lt (i := 8) (b := x) (by omega) y
    rw [Nat.or_comm, Nat.mul_comm y, show (256 : Nat) = 2 ^ 8 from rfl, ← this, Nat.add_comm]
  rw [show (y : Int) * 256 = ((y * 256 : Nat) : Int) by omega]
  show IntKind.u16.wrap ((BitVec.ofInt 16 (x : Int) ||| BitVec.ofInt 16 ((y * 256 : Nat) : Int)).toNat : Int) = _
  rw [BitVec.toNat_or, BitVec.ofInt_natCast, BitVec.ofInt_natCast, BitVec.toNat_ofNat, BitVec.toNat_ofNat, Nat.mod_eq_of_lt (by omega), Nat.mod_eq_of_lt (by omega), e, IntKind.wrap_u16]
  omega
theorem value_s (w : World) (b o n c x : Nat) (hc : w.cell? ⟨b, o, none⟩ = some (.int .u8 x)) (hn : 1 ≤ n) (hx : x < 256) : Calls Tryd.prog 28 #[.slice (some ⟨b, o, none⟩) n c, .int .i32 115] w fun e w' => e = .returned (.int .i64 (IntKind.i8.wrap x)) ∧ w' = w := by
  have g : (0 : Int) < n := by omega
  go_enter Tryd.func28, Tryd.ntmps28
  go_wp2
  go_ret
  refine ⟨?_, rfl⟩
  show Ending.returned (.int .i64 (wrap64 (IntKind.i8.wrap x))) = _
  rw [w64x (by rw [wrap8]; omega) (by rw [wrap8]; omega)]
theorem value_u (w : World) (b o n c x : Nat) (hc : w.cell? ⟨b, o, none⟩ = some (.int .u8 x)) (hn : 1 ≤ n) (hx : x < 256) : Calls Tryd.prog 28 #[.slice (some ⟨b, o, none⟩) n c, .int .i32 117] w fun e w' => e = .returned (.int .i64 x) ∧ w' = w := by
  have g : (0 : Int) < n := by omega
  go_enter Tryd.func28, Tryd.ntmps28
  go_wp2
  go_ret
  refine ⟨?_, rfl⟩
  rfl
theorem value_o (w : World) (b o n c x y : Nat) (hc : w.cell? ⟨b, o, none⟩ = some (.int .u8 x)) (hd : w.cell? ⟨b, o + 1, none⟩ = some (.int .u8 y)) (hn : 2 ≤ n) (hx : x < 256) (hy : y < 256) : Calls Tryd.prog 28 #[.slice (some ⟨b, o, none⟩) n c, .int .i32 111] w fun e w' => e = .returned (.int .i64 (IntKind.i16.wrap (x + 256 * y : Nat))) ∧ Below w.heap.size w w' := by
  have g : (0 : Int) < n := by omega
  have g1 : (1 : Int) < n := by omega
  go_enter Tryd.func28, Tryd.ntmps28
  go_wp2
  go_region
  all_goals
    go_wp2
    go_ret
    refine ⟨?_, (Below.refl _ _).drew⟩
    show Ending.returned (.int .i64 (wrap64 (IntKind.i16.wrap (bits BinOp.or IntKind.u16 (x : Int) ((y : Int) * 256))))) = _
    rw [w64x (by rw [wrap16]; omega) (by rw [wrap16]; omega), or16 hx hy]
end Go.Proofs.YtgdlcnngplfjnaaDoor
