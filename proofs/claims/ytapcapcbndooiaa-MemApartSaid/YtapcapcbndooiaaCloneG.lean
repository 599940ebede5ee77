import Derived.Test.YtapcapcbndooiaaRows
import Derived.WalkKit
import Derived.ProofKit
import Derived.OpenShut
import Derived.Deep.QuietTactic
import Derived.BigQuiet
import Derived.Outline
import Derived.WalkSmall
import Derived.WalkLawsBesides
import Derived.WalkSpells
import Derived.BigGuardPart
import Derived.RegionTactic
import Derived.Deep.RegionHeld3
import Derived.Lib.Hide
import Derived.Deep.OwnRows
import Derived.Maps.AppendAt
import Derived.Deep.AppendLies
import Derived.Below
import Derived.Deep.RegionLaw
import Derived.Test.YtapcapcbndooiaaSortG
import Derived.Test.YtapcapcbndooiaaNewY
namespace Go.Proofs.Ytapcapcbndooiaa
open Go.ChangeShapes Go.WideShapes Go.ChangeAt Go.RowKit
set_option linter.unusedVariables false
set_option maxRecDepth 100000 in
theorem stable_g (N g n cp : Nat) (w : World) (n2 : n ≤ 16) (hN : N ≤ g) (HI : Hid (InsAt w w N g n)) :
    Calls Try.prog 123 #[.slice (some ⟨g, 0, none⟩) n cp, .int .i64 n, .func (.func 97) #[] #[]] w fun e w' => e = .returned (.tuple #[]) ∧ InsAt w w' N g n := by
  have d1 : decide ((20 : Int) ≤ (n : Int)) = false := decide_eq_false (by omega)
  have d2 : decide ((20 : Int) < (n : Int)) = false := decide_eq_false (by omega)
  go_enter Try.func123, Try.ntmps123
  go_wp2
  go_loopw [7, 8] (fun a b wr => a = .int .i64 0 ∧ b = .int .i64 20 ∧ wr = w) (fun _ _ _ => 0)
  case atStart => exact ⟨rfl, rfl, rfl⟩
  case round =>
    obtain ⟨rfl, rfl, rfl⟩ := hrel
    go_wp2_with (go_at_call 131; refine (insertion_g N g n cp _ n2 hN HI).mono ?_; rintro e w1 ⟨rfl, hb⟩)
    go_loopw [6] (fun b wi => b = .int .i64 20 ∧ wi = w1) (fun _ _ => 0)
    case atStart => exact ⟨rfl, rfl⟩
    case round =>
      obtain ⟨rfl, rfl⟩ := hrel
      go_wp2
      refine bodyPost_end (v := .tuple #[]) (by simp [results, Try.results123, go_sem]) rfl ⟨rfl, hb⟩
set_option maxRecDepth 100000 in
theorem sort_g (N g n cp : Nat) (w : World) (n2 : n ≤ 16) (hN : N ≤ g) (HI : Hid (InsAt w w N g n)) :
    Calls Try.prog 96 #[.slice (some ⟨g, 0, none⟩) n cp, .func (.func 97) #[] #[]] w fun e w' => e = .returned (.tuple #[]) ∧ InsAt w w' N g n := by
  go_enter Try.func96, Try.ntmps96
  go_wp2_with (go_at_call 123; refine (stable_g N g n cp _ n2 hN HI).mono ?_; rintro e w1 ⟨rfl, hb⟩)
  refine bodyPost_end (v := .tuple #[]) (by simp [results, Try.results96, go_sem]) rfl ⟨rfl, hb⟩
set_option maxRecDepth 100000 in
theorem insertion_0 (a : Option Addr) (cp : Nat) (w : World) :
    Calls Try.prog 131 #[.slice a 0 cp, .int .i64 0, .int .i64 0, .func (.func 97) #[] #[]] w fun e w' => e = .returned (.tuple #[]) ∧ w = w' := by
  go_enter Try.func131, Try.ntmps131
  go_wp2
  go_loopw [8, 9] (fun i _ wr => i = .int .i64 1 ∧ wr = w) (fun _ _ _ => 0)
  case atStart => exact ⟨rfl, rfl⟩
  case round =>
    obtain ⟨rfl, rfl⟩ := hrel
    go_wp2
    refine bodyPost_end (v := .tuple #[]) (by simp [results, Try.results131, go_sem]) rfl ⟨rfl, rfl⟩
set_option maxRecDepth 100000 in
theorem stable_0 (a : Option Addr) (cp : Nat) (w : World) :
    Calls Try.prog 123 #[.slice a 0 cp, .int .i64 0, .func (.func 97) #[] #[]] w fun e w' => e = .returned (.tuple #[]) ∧ w = w' := by
  go_enter Try.func123, Try.ntmps123
  go_wp2
  go_loopw [7, 8] (fun a b wr => a = .int .i64 0 ∧ b = .int .i64 20 ∧ wr = w) (fun _ _ _ => 0)
  case atStart => exact ⟨rfl, rfl, rfl⟩
  case round =>
    obtain ⟨rfl, rfl, rfl⟩ := hrel
    go_wp2_with (go_at_call 131; refine (insertion_0 a cp _).mono ?_; rintro e w1 ⟨rfl, rfl⟩)
    go_loopw [6] (fun b wi => b = .int .i64 20 ∧ wi = wr) (fun _ _ => 0)
    case atStart => exact ⟨rfl, rfl⟩
    case round =>
      obtain ⟨rfl, rfl⟩ := hrel
      go_wp2
      refine bodyPost_end (v := .tuple #[]) (by simp [results, Try.results123, go_sem]) rfl ⟨rfl, rfl⟩
set_option maxRecDepth 100000 in
theorem sort_0 (a : Option Addr) (cp : Nat) (w : World) :
    Calls Try.prog 96 #[.slice a 0 cp, .func (.func 97) #[] #[]] w fun e w' => e = .returned (.tuple #[]) ∧ w = w' := by
  go_enter Try.func96, Try.ntmps96
  go_wp2_with (go_at_call 123; refine (stable_0 a cp _).mono ?_; rintro e w1 ⟨rfl, rfl⟩)
  refine bodyPost_end (v := .tuple #[]) (by simp [results, Try.results96, go_sem]) rfl ⟨rfl, rfl⟩
def SrcAt (w : World) (b off n : Nat) (A S : Nat → Nat) (W X : Nat → Bool) : Prop := ∀ p, p < n * 4 → w.cell? ⟨b, off + p, none⟩ = some (regCell A S W X p)
set_option maxRecDepth 100000 in
set_option maxHeartbeats 2000000 in
theorem clone_g (rb off n cap : Nat) (A S : Nat → Nat) (W X : Nat → Bool) (w : World) (n1 : 1 ≤ n) (n2 : n ≤ 16) (hr : rb < w.heap.size) (HR : Hid (SrcAt w rb off n A S W X)) :
    Calls Try.prog 95 #[.slice (some ⟨rb, off, none⟩) n cap] w (CloneP n A S W X w) := by
  obtain ⟨i0, hi, hz0, hz1, hz2⟩ := info_parts info43
  have hown : (w.alloc (.cells #[] 43)).ownsRow w.heap.size 43 4 (.slice (some ⟨w.heap.size, 0, none⟩) 0 0) 0 [] := World.ownsRow_made w #[] 0 (Nat.le_refl _) (by unfold maxLen; omega) rfl
  have HO := Lib.hid hown
  clear hown
  have hlen : (regCells A S W X n).length = n * 4 := by simp [regCells]
  have hnews : ∀ j u, (regCells A S W X n)[j]? = some u → (w.alloc (.cells #[] 43)).cell? ((⟨rb, off, none⟩ : Addr).add j) = some u := by
    intro j u hu
    obtain ⟨h1, rfl⟩ := regCells_get A S W X n j u hu
    have : (⟨rb, off, none⟩ : Addr).add j = ⟨rb, off + j, none⟩ := by unfold Addr.add; split <;> simp_all
    rw [this, World.cell?_alloc_past _ _ _ hr]
    exact HR.out j h1
  have HN := Lib.hid hnews
  have HL := Lib.hid hlen
  clear hnews hlen
  have h1 := Lib.hid (regCell_one A S W X n)
  have hnil := fun W => Lib.run_eql_slice_nil (P := Try.prog) W 52 43 (some ⟨rb, off, none⟩) n cap 0 0 Try.underlying52
  go_enter Try.func95, Try.ntmps95
  go_wp2_with (at_builtin; refine wpList_append_lies _ rfl _ _ 52 rfl w.heap.size 43 i0 _ 4 24 Try.underlying52 hi hz0 hz1 hz2 rfl (by decide) _ 0 [] rfl HO.out ⟨rb, off, none⟩ n cap (regCells A S W X n) rfl HL.out HN.out h1.out (by omega) (by unfold maxLen; omega) (by omega) (by simp) (w.heap.size + 1) (by simp) ?_)
  intro g cp w1 hown1 hgrow hat hlt
  obtain ⟨r1, r2, r3, r4⟩ := rows_of hown1
  have HB : Hid (Below w.heap.size w w1) := Lib.hid (((Below.refl _ _).alloc (Nat.le_refl _) _).trans ⟨hgrow.os, hgrow.tape, hgrow.output, hgrow.size, fun x hx => hgrow.block x (by simp; omega) (by simp [Value.ownBlock]; omega)⟩)
  have HR1 : Hid (RegsAt w1 g n A S W X) := Lib.hid (fun p hp => r3 p _ (by unfold regCells; rw [List.getElem?_map, List.getElem?_range hp]; rfl))
  have HF := Lib.hid r4
  clear hown1 hgrow hat r3 r4
  go_wp2
  go_ret
  exact ⟨g, cp, rfl, r1, hlt, r2, HR1.out, HF.out, HB.out⟩
def Clone0 (w : World) (e : Ending) (w' : World) : Prop := ∃ a cp, e = .returned (.slice a 0 cp) ∧ Below w.heap.size w w'
set_option maxRecDepth 100000 in
theorem clone_nil (w : World) (n c : Nat) : Calls Try.prog 95 #[.slice none n c] w (Clone0 w) := by
  have hnil := fun W => Lib.run_eql_slice_nil (P := Try.prog) W 52 43 none n c 0 0 Try.underlying52
  go_enter Try.func95, Try.ntmps95
  go_wp2
  go_ret
  exact ⟨none, 0, rfl, Below.refl _ _⟩
set_option maxRecDepth 100000 in
set_option maxHeartbeats 2000000 in
theorem clone_0 (rb off cap : Nat) (w : World) : Calls Try.prog 95 #[.slice (some ⟨rb, off, none⟩) 0 cap] w (Clone0 w) := by
  obtain ⟨i0, hi, hz0, hz1, hz2⟩ := info_parts info43
  have hown : (w.alloc (.cells #[] 43)).ownsRow w.heap.size 43 4 (.slice (some ⟨w.heap.size, 0, none⟩) 0 0) 0 [] := World.ownsRow_made w #[] 0 (Nat.le_refl _) (by unfold maxLen; omega) rfl
  have HO := Lib.hid hown
  clear hown
  have hnil := fun W => Lib.run_eql_slice_nil (P := Try.prog) W 52 43 (some ⟨rb, off, none⟩) 0 cap 0 0 Try.underlying52
  go_enter Try.func95, Try.ntmps95
  go_wp2_with (at_builtin; refine wpList_append_own _ rfl _ _ 52 rfl w.heap.size 43 i0 _ 4 24 Try.underlying52 hi hz0 hz1 hz2 rfl (by decide) _ 0 [] rfl HO.out ⟨rb, off, none⟩ 0 cap [] rfl rfl (fun j u hu => by simp at hu) (fun u hu => by simp at hu) (by unfold maxLen; omega) (by omega) (by simp) ?_)
  intro v' w1 hown1 hgrow hne
  obtain ⟨a, c, rfl⟩ : ∃ a c, v' = .slice a 0 c := by
    rcases hown1.2 with ⟨rfl, _⟩ | ⟨g, cp, cur, rfl, _⟩
    · exact ⟨_, _, rfl⟩
    · exact ⟨_, _, rfl⟩
  have HB : Hid (Below w.heap.size w w1) := Lib.hid (((Below.refl _ _).alloc (Nat.le_refl _) _).trans ⟨hgrow.os, hgrow.tape, hgrow.output, hgrow.size, fun x hx => hgrow.block x (by simp; omega) (by simp [Value.ownBlock]; omega)⟩)
  clear hown1 hgrow hne
  go_wp2
  go_ret
  exact ⟨a, c, rfl, HB.out⟩
end Go.Proofs.Ytapcapcbndooiaa
