import Derived.Test.YtpiafgmncfibmaaRb
import Derived.Test.YtpiafgmncfibmaaCc
import Derived.Test.YtpiafgmncfibmaaRows
import Derived.WalkKit
import Derived.ProofKit
import Derived.OpenShut
import Derived.Deep.QuietTactic
import Derived.BigQuiet
import Derived.Outline
import Derived.WalkSmall
import Derived.WalkLawsBesides
import Derived.WalkSpells
import Derived.BigGuardPart
import Derived.RegionTactic
import Derived.Deep.RegionHeld3
import Derived.Lib.Hide
import Derived.Deep.MidRow
import Derived.Below
import Derived.Deep.RegionWith
import Derived.Deep.OwnRows
import Derived.Deep.AppendLies
namespace Go.Proofs.Ytpiafgmncfibmaa
open Go.ChangeShapes Go.WideShapes Go.ChangeAt Go.RowKit
set_option linter.unusedVariables false

/-- The string of bytes. -/
def strB (xs : List Int) : ByteArray := xs.foldl (fun r n => r.push (UInt8.ofNat n.toNat)) ByteArray.empty
theorem conv_LB {B : Nat} {w : World} {g n cap : Nat} {xs : List Int} (h : LB B w g n cap xs) : (convert 29 9 (.slice (some ⟨g, 0, none⟩) n cap)).run Try.prog w = .ok (.string (strB xs)) w := by
  rw [run_convert_bytes_string w 29 9 5 (some ⟨g, 0, none⟩) n cap Try.underlying29 Try.underlying5 Try.underlying9]
  have hl := run_loadCells_list (P := Try.prog) w ⟨g, 0, none⟩ (xs.map (Value.int .u8)) (fun j v hj => by
    rw [List.getElem?_map] at hj
    cases hx : xs[j]? with
    | none => rw [hx] at hj; cases hj
    | some x =>
      rw [hx] at hj
      injection hj with hj
      rw [← hj, Addr.add_lit]
      have := h.cell hx
      rwa [Nat.zero_add])
  rw [List.length_map, h.1] at hl
  exact run_bytesToString w _ _ _ _ hl
theorem conv_nil (w : World) : (convert 29 9 (.slice none 0 0)).run Try.prog w = .ok (.string ByteArray.empty) w := by
  rw [run_convert_bytes_string w 29 9 5 none 0 0 Try.underlying29 Try.underlying5 Try.underlying9]; rfl
theorem keepC {V w4 w5 : World} {R : World → Prop} {A B C D E : Prop} (h : Hid (∀ w', Below V.heap.size V w' → R w')) (hS : A ∧ B ∧ C ∧ D ∧ E ∧ Hid (Below V.heap.size V w4)) (hb : Below w4.heap.size w4 w5) : R w5 :=
  h.out _ (hS.2.2.2.2.2.out.trans (hb.mono hS.2.2.2.2.2.out.size))
theorem keepH {V w4 : World} {A B C D E : Prop} (hS : A ∧ B ∧ C ∧ D ∧ E ∧ Hid (Below V.heap.size V w4)) : Below V.heap.size V w4 := hS.2.2.2.2.2.out
end Go.Proofs.Ytpiafgmncfibmaa
