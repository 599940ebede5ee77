import Derived.Test.YtpjfjdncdiemlaaRows
import Derived.WalkKit
import Derived.ProofKit
import Derived.OpenShut
import Derived.Deep.QuietTactic
import Derived.BigQuiet
import Derived.Outline
import Derived.WalkSmall
import Derived.WalkLawsBesides
import Derived.WalkSpells
import Derived.BigGuardPart
import Derived.RegionTactic
import Derived.Deep.RegionHeld3
import Derived.Lib.Hide
import Derived.Deep.OwnRows
import Derived.Maps.AppendAt
import Derived.Deep.AppendLies
import Derived.Below
import Derived.Test.YtpjfjdncdiemlaaPcA
namespace Go.Proofs.Ytpjfjdncdiemlaa
open Go.ChangeShapes Go.WideShapes Go.ChangeAt Go.RowKit
set_option linter.unusedVariables false
theorem rows_of {w : World} {g n cp base size : Nat} {e : TypeId} {xs : List Value} (h : w.ownsRow base e size (.slice (some ⟨g, 0, none⟩) n cp) n xs) : base ≤ g ∧ n ≤ cp ∧ (∀ p u, xs[p]? = some u → w.cell? ⟨g, p, none⟩ = some u) ∧ (∀ p, w.frozen? ⟨g, p, none⟩ = false) := by
  rcases h.2 with ⟨h1, _⟩ | ⟨g', cap, cur, hv, hb, hg, hn, hm, hs, ht⟩
  · cases h1
  · injection hv with h1 h2 h3
    injection h1 with h1
    injection h1 with h1
    subst h1 h3
    refine ⟨hb, hn, fun p u hu => ?_, fun p => frozen_of_row w g p cur e hg⟩
    rw [cell_of_row w g p cur e _ hg]
    rw [← ht] at hu
    have hp := (List.getElem?_eq_some_iff.1 hu).1
    rw [List.getElem?_take] at hu
    split at hu
    · simpa using hu
    · cases hu
/-- n words F at g. -/
def WdAt (w : World) (g n : Nat) (F : Nat → Nat) : Prop := ∀ p, p < n → w.cell? ⟨g, p, none⟩ = some (.int .u32 (F p : Nat))
def wdCells (n : Nat) (F : Nat → Nat) : List Value := (List.range n).map fun p => .int .u32 (F p : Nat)
theorem info57 : (Try.prog.info? 57).map (fun i => (i.zero, i.size, i.bytes)) = some (some (.int .u32 0), 1, 4) := by kernel_rfl
def CloneW (n : Nat) (F : Nat → Nat) (w : World) (e : Ending) (w' : World) : Prop := ∃ g cp, e = .returned (.slice (some ⟨g, 0, none⟩) n cp) ∧ w.heap.size ≤ g ∧ g < w'.heap.size ∧ n ≤ cp ∧ WdAt w' g n F ∧ (∀ p, w'.frozen? ⟨g, p, none⟩ = false) ∧ Below w.heap.size w w'
set_option maxRecDepth 100000 in
set_option maxHeartbeats 2000000 in
theorem clone_w (rb n cap : Nat) (F : Nat → Nat) (w : World) (n1 : 1 ≤ n) (n2 : n ≤ 70000) (hr : rb < w.heap.size) (HR : Hid (WdAt w rb n F)) :
    Calls Try.prog 46 #[.slice (some ⟨rb, 0, none⟩) n cap] w (CloneW n F w) := by
  obtain ⟨i0, hi, hz0, hz1, hz2⟩ := info_parts info57
  have hown : (w.alloc (.cells #[] 57)).ownsRow w.heap.size 57 1 (.slice (some ⟨w.heap.size, 0, none⟩) 0 0) 0 [] := World.ownsRow_made w #[] 0 (Nat.le_refl _) (by unfold maxLen; omega) rfl
  have HO := Lib.hid hown
  clear hown
  have hlen : (wdCells n F).length = n * 1 := by simp [wdCells]
  have hnews : ∀ j u, (wdCells n F)[j]? = some u → (w.alloc (.cells #[] 57)).cell? ((⟨rb, 0, none⟩ : Addr).add j) = some u := by
    intro j u hu
    have hj := (List.getElem?_eq_some_iff.1 hu).1
    have h1 : j < n := by simpa [wdCells] using hj
    unfold wdCells at hu
    rw [List.getElem?_map, List.getElem?_range h1] at hu
    have : (⟨rb, 0, none⟩ : Addr).add j = ⟨rb, j, none⟩ := by unfold Addr.add; split <;> simp_all
    rw [this, World.cell?_alloc_past _ _ _ hr, HR.out j h1]
    exact hu
  have HN := Lib.hid hnews
  have HL := Lib.hid hlen
  clear hnews hlen
  have h1 : Hid (∀ u ∈ wdCells n F, u.oneCell' = true) := Lib.hid (fun u hu => by obtain ⟨p, _, rfl⟩ := List.mem_map.1 hu; rfl)
  have hnil := fun W => Lib.run_eql_slice_nil (P := Try.prog) W 55 57 (some ⟨rb, 0, none⟩) n cap 0 0 Try.underlying55
  go_enter Try.func46, Try.ntmps46
  go_wp2_with (at_builtin; refine wpList_append_lies _ rfl _ _ 55 rfl w.heap.size 57 i0 _ 1 4 Try.underlying55 hi hz0 hz1 hz2 rfl (by decide) _ 0 [] rfl HO.out ⟨rb, 0, none⟩ n cap (wdCells n F) rfl HL.out HN.out h1.out (by omega) (by unfold maxLen; omega) (by omega) (by simp) (w.heap.size + 1) (by simp) ?_)
  intro g cp w1 hown1 hgrow hat hlt
  obtain ⟨r1, r2, r3, r4⟩ := rows_of hown1
  have HB : Hid (Below w.heap.size w w1) := Lib.hid (((Below.refl _ _).alloc (Nat.le_refl _) _).trans ⟨hgrow.os, hgrow.tape, hgrow.output, hgrow.size, fun x hx => hgrow.block x (by simp; omega) (by simp [Value.ownBlock]; omega)⟩)
  have HR1 : Hid (WdAt w1 g n F) := Lib.hid (fun p hp => r3 p _ (by unfold wdCells; rw [List.getElem?_map, List.getElem?_range hp]; rfl))
  have HF := Lib.hid r4
  clear hown1 hgrow hat r3 r4
  go_wp2
  go_ret
  exact ⟨g, cp, rfl, r1, hlt, by omega, HR1.out, HF.out, HB.out⟩
end Go.Proofs.Ytpjfjdncdiemlaa
