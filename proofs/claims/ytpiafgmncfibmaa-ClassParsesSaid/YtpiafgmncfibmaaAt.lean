import Derived.Test.YtpiafgmncfibmaaLb
import Derived.Test.YtpiafgmncfibmaaRows
import Derived.WalkKit
import Derived.ProofKit
import Derived.OpenShut
import Derived.Deep.QuietTactic
import Derived.BigQuiet
import Derived.Outline
import Derived.WalkSmall
import Derived.WalkLawsBesides
import Derived.WalkSpells
import Derived.BigGuardPart
import Derived.RegionTactic
import Derived.Deep.RegionHeld3
import Derived.Lib.Hide
import Derived.Deep.MidRow
import Derived.Below
import Derived.Deep.RegionWith
import Derived.Deep.OwnRows
import Derived.Deep.AppendLies
namespace Go.Proofs.Ytpiafgmncfibmaa
open Go.ChangeShapes Go.WideShapes Go.ChangeAt Go.RowKit
set_option linter.unusedVariables false

/-- Types as bytes. -/
def tysB (F : Nat → Int) (m : Nat) : List Int := (List.range m).map fun i => F i % 256
theorem tysB_succ (F : Nat → Int) (m : Nat) : tysB F (m + 1) = tysB F m ++ [F m % 256] := by unfold tysB; rw [List.range_succ, List.map_append]; rfl
theorem tysB_len (F : Nat → Int) (m : Nat) : (tysB F m).length = m := by unfold tysB; simp
def AppT (w0 w : World) (g n m : Nat) (xs ys : List Int) (e : Ending) (w' : World) : Prop := ∃ g' cap', e = .returned (.slice (some ⟨g', 0, none⟩) (n + m) cap') ∧ LB w0.heap.size w' g' (n + m) cap' (xs ++ ys) ∧ Below w0.heap.size w0 w' ∧ w.grownBy w' (some g) ∧ (g' = g ∨ w.heap.size ≤ g')
set_option maxHeartbeats 1000000 in
theorem apptypes_c (w0 w : World) (g n cap : Nat) (xs : List Int) (a : Option Addr) (m c : Nat) (F : Nat → Int) (hn : n ≤ 16777216) (hm : m ≤ 16777216) (hl : LB w0.heap.size w g n cap xs) (be : Below w0.heap.size w0 w) (hr : Row1 w0 a m (fun i => .int .i64 (F i))) :
    Calls Try.prog 33 #[.slice (some ⟨g, 0, none⟩) n cap, .slice a m c] w (AppT w0 w g n (1 + m) xs ([(m : Int) % 256] ++ tysB F m)) := by
  have HL := Lib.hid hl
  have HB := Lib.hid be
  have HR := Lib.hid hr
  clear hl be hr
  go_enter Try.func33, Try.ntmps33
  go_wp2_with (at_builtin; refine app_1 rfl _ _ rfl w0 g n cap xs _ rfl HL.out HB.out _ rfl (by simp) (by omega) ?_; intro g1 cap1 w1 hl1 be1 hg1 hgg1)
  have HL1 := Lib.hid hl1
  have HB1 := Lib.hid be1
  have HG1 := Lib.hid hg1
  have HS1 := Lib.hid hgg1
  clear hl1 be1 hg1 hgg1
  go_wp2
  go_loopw [0, 15, 6] (fun v i _ wr => ∃ j g' cap' : Nat, j ≤ m ∧ i = .int .i64 j ∧ v = .slice (some ⟨g', 0, none⟩) (n + 1 + j) cap' ∧ Hid (LB w0.heap.size wr g' (n + 1 + j) cap' (xs ++ [(m : Int) % 256] ++ tysB F j) ∧ Below w0.heap.size w0 wr ∧ w.grownBy wr (some g) ∧ (g' = g ∨ w.heap.size ≤ g'))) (fun _ i _ _ => m - (intOf i).toNat)
  case atStart => exact ⟨0, g1, cap1, by omega, rfl, rfl, Lib.hid ⟨by simpa [tysB] using HL1.out, HB1.out, HG1.out, HS1.out⟩⟩
  case round =>
    obtain ⟨j, g', cap', hj, rfl, rfl, HQ⟩ := hrel
    by_cases hjm : j < m
    · have gj : (j : Int) < m := by omega
      rcases Row1.kept HR.out (Kept.of HQ.out.2.1) with h0 | ⟨b, o, rfl, hb, hc⟩
      · exact absurd h0 (by omega)
      have c0 := hc j hjm
      clear hc
      go_wp2_with (at_builtin; refine app_1 rfl _ _ rfl w0 g' (n + 1 + j) cap' (xs ++ [(m : Int) % 256] ++ tysB F j) _ rfl HQ.out.1 HQ.out.2.1 _ rfl (by simp) (by omega) ?_; intro g2 cap2 w2 hl2 be2 hg2 hgg2)
      have HQ2 : Hid (LB w0.heap.size w2 g2 (n + 1 + (j + 1)) cap2 (xs ++ [(m : Int) % 256] ++ tysB F (j + 1)) ∧ Below w0.heap.size w0 w2 ∧ w.grownBy w2 (some g) ∧ (g2 = g ∨ w.heap.size ≤ g2)) :=
        Lib.hid ⟨by rw [tysB_succ, ← List.append_assoc]; exact hl2, be2, grown_trans HQ.out.2.2.1 hg2 HQ.out.2.2.2, by rcases hgg2 with h | h <;> rcases HQ.out.2.2.2 with h' | h' <;> have := HQ.out.2.2.1.size <;> omega⟩
      clear hl2 be2 hg2 hgg2
      go_wp2
      exact ⟨⟨j + 1, g2, cap2, by omega, by go_num, rfl, HQ2⟩, by simp [intOf]; omega⟩
    · obtain rfl : j = m := by omega
      go_wp2
      go_ret
      exact ⟨g', cap', by rw [Nat.add_assoc]; rfl, by rw [← Nat.add_assoc]; simpa using HQ.out.1, HQ.out.2.1, HQ.out.2.2.1, HQ.out.2.2.2⟩
end Go.Proofs.Ytpiafgmncfibmaa
