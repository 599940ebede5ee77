import Derived.Test.YtapcapcbndooiaaRows
import Derived.WalkKit
import Derived.ProofKit
import Derived.OpenShut
import Derived.Deep.QuietTactic
import Derived.BigQuiet
import Derived.Outline
import Derived.WalkSmall
import Derived.WalkLawsBesides
import Derived.WalkSpells
import Derived.BigGuardPart
import Derived.RegionTactic
import Derived.Deep.RegionHeld3
import Derived.Lib.Hide
import Derived.Deep.OwnRows
import Derived.Maps.AppendAt
import Derived.Deep.AppendLies
import Derived.Below
import Derived.Deep.RegionLaw
import Derived.Test.YtapcapcbndooiaaNewG
namespace Go.Proofs.Ytapcapcbndooiaa
open Go.ChangeShapes Go.WideShapes Go.ChangeAt Go.RowKit
set_option linter.unusedVariables false
set_option maxRecDepth 100000 in
set_option maxHeartbeats 2000000 in
theorem clone_e (x : Addr) (cap : Nat) (w : World) : Calls Try.prog 95 #[.slice (some x) 0 cap] w (Clone0 w) := by
  obtain ⟨i0, hi, hz0, hz1, hz2⟩ := info_parts info43
  have hown : (w.alloc (.cells #[] 43)).ownsRow w.heap.size 43 4 (.slice (some ⟨w.heap.size, 0, none⟩) 0 0) 0 [] := World.ownsRow_made w #[] 0 (Nat.le_refl _) (by unfold maxLen; omega) rfl
  have HO := Lib.hid hown
  clear hown
  have hnil := fun W => Lib.run_eql_slice_nil (P := Try.prog) W 52 43 (some x) 0 cap 0 0 Try.underlying52
  go_enter Try.func95, Try.ntmps95
  go_wp2_with (at_builtin; refine wpList_append_own _ rfl _ _ 52 rfl w.heap.size 43 i0 _ 4 24 Try.underlying52 hi hz0 hz1 hz2 rfl (by decide) _ 0 [] rfl HO.out x 0 cap [] rfl rfl (fun j u hu => by simp at hu) (fun u hu => by simp at hu) (by unfold maxLen; omega) (by omega) (by simp) ?_)
  intro v' w1 hown1 hgrow hne
  obtain ⟨a, c, rfl⟩ : ∃ a c, v' = .slice a 0 c := by
    rcases hown1.2 with ⟨rfl, _⟩ | ⟨g, cp, cur, rfl, _⟩
    · exact ⟨_, _, rfl⟩
    · exact ⟨_, _, rfl⟩
  have HB : Hid (Below w.heap.size w w1) := Lib.hid (((Below.refl _ _).alloc (Nat.le_refl _) _).trans ⟨hgrow.os, hgrow.tape, hgrow.output, hgrow.size, fun x hx => hgrow.block x (by simp; omega) (by simp [Value.ownBlock]; omega)⟩)
  clear hown1 hgrow hne
  go_wp2
  go_ret
  exact ⟨a, c, rfl, HB.out⟩
theorem clone_z (a : Option Addr) (cap : Nat) (w : World) : Calls Try.prog 95 #[.slice a 0 cap] w (Clone0 w) := by
  cases a with
  | none => exact clone_nil w 0 cap
  | some x => exact clone_e x cap w
def New0 (w : World) (e : Ending) (w' : World) : Prop := ∃ mb, e = .returned (.tuple #[.pointer (some ⟨mb, 0, none⟩), .int .i64 0]) ∧ w.heap.size ≤ mb ∧ w'.cell? ⟨mb, 0, none⟩ = some (.slice none 0 0) ∧ Below w.heap.size w w'
set_option maxRecDepth 100000 in
set_option maxHeartbeats 2000000 in
theorem new_0 (a : Option Addr) (cap : Nat) (w : World) : Calls Try.prog 37 #[.slice a 0 cap] w (New0 w) := by
  go_enter Try.func37, Try.ntmps37
  go_wp2_with (first | (go_at_call 95; refine (clone_z a cap _).mono ?_; rintro e w1 ⟨a1, cp, rfl, hB⟩; have HB := Lib.hid hB; clear hB) | (go_at_call 96; refine (sort_0 a1 cp _).mono ?_; rintro e w2 ⟨rfl, rfl⟩))
  have HB2 := Lib.hid (HB.out.alloc HB.out.size (.cells #[.slice none 0 0] 109))
  have hc : (w1.alloc (.cells #[.slice none 0 0] 109)).cell? ⟨w1.heap.size, 0, none⟩ = some (.slice none 0 0) := World.cell?_alloc_at _ _ _ _ rfl
  have HC := Lib.hid hc
  have hs := HB.out.size
  clear hc
  generalize w1.alloc (.cells #[.slice none 0 0] 109) = wm at *
  go_loopw [6, 8, 22] (fun e _ i wr => i = .int .i64 0 ∧ wr = wm) (fun _ _ i _ => 0)
  case atStart => exact ⟨rfl, rfl⟩
  case round =>
    obtain ⟨rfl, rfl⟩ := hrel
    go_wp2
    go_loopw [10, 43] (fun _ i wi => i = .int .i64 0 ∧ wi = wr) (fun _ _ _ => 0)
    case atStart => exact ⟨rfl, rfl⟩
    case round =>
      obtain ⟨rfl, rfl⟩ := hrel
      go_wp2
      refine bodyPost_ret (v := .tuple #[.pointer (some ⟨w1.heap.size, 0, none⟩), .int .i64 0]) (by simp [results, Try.results37, go_sem]) rfl ⟨w1.heap.size, rfl, hs, HC.out, HB2.out⟩
set_option maxRecDepth 100000 in
theorem new_b (a : Option Addr) (n cap : Nat) (w : World) (hn : 16 < n) (hm : n ≤ maxLen) : Calls Try.prog 37 #[.slice a n cap] w fun e w' => e = .returned (.tuple #[.pointer none, .int .i64 1]) ∧ w = w' := by
  unfold maxLen at hm
  have d1 : decide ((16 : Int) < (n : Int)) = true := decide_eq_true (by omega)
  go_enter Try.func37, Try.ntmps37
  go_wp2
  refine bodyPost_ret (v := .tuple #[.pointer none, .int .i64 1]) (by simp [results, Try.results37, go_sem]) rfl ⟨rfl, rfl⟩
end Go.Proofs.Ytapcapcbndooiaa
