import Derived.Test.YtapcapcbndooiaaRows
import Derived.WalkKit
import Derived.ProofKit
import Derived.OpenShut
import Derived.Deep.QuietTactic
import Derived.BigQuiet
import Derived.Outline
import Derived.WalkSmall
import Derived.WalkLawsBesides
import Derived.WalkSpells
import Derived.BigGuardPart
import Derived.RegionTactic
import Derived.Deep.RegionHeld3
import Derived.Lib.Hide
import Derived.Deep.OwnRows
import Derived.Maps.AppendAt
import Derived.Deep.AppendLies
import Derived.Below
import Derived.Test.YtapcapcbndooiaaMemB
namespace Go.Proofs.Ytapcapcbndooiaa
open Go.ChangeShapes Go.WideShapes Go.ChangeAt Go.RowKit
set_option linter.unusedVariables false
def regCell (A S : Nat → Nat) (W X : Nat → Bool) (p : Nat) : Value := if p % 4 = 0 then .int .u64 (A (p / 4) : Nat) else if p % 4 = 1 then .int .u64 (S (p / 4) : Nat) else if p % 4 = 2 then .bool (W (p / 4)) else .bool (X (p / 4))
def regCells (A S : Nat → Nat) (W X : Nat → Bool) (n : Nat) : List Value := (List.range (n * 4)).map (regCell A S W X)
def RegsAt (w : World) (rb n : Nat) (A S : Nat → Nat) (W X : Nat → Bool) : Prop := ∀ p, p < n * 4 → w.cell? ⟨rb, p, none⟩ = some (regCell A S W X p)
theorem RegsAt.four {w : World} {rb n : Nat} {A S : Nat → Nat} {W X : Nat → Bool} (h : RegsAt w rb n A S W X) (j : Nat) (hj : j < n) :
    w.cell? ⟨rb, j * 4, none⟩ = some (.int .u64 (A j : Nat)) ∧ w.cell? ⟨rb, j * 4 + 1, none⟩ = some (.int .u64 (S j : Nat)) ∧ w.cell? ⟨rb, j * 4 + 2, none⟩ = some (.bool (W j)) ∧ w.cell? ⟨rb, j * 4 + 3, none⟩ = some (.bool (X j)) := by
  refine ⟨?_, ?_, ?_, ?_⟩
  · rw [h _ (by omega)]; unfold regCell; rw [if_pos (by omega), Nat.mul_div_cancel _ (by decide)]
  · rw [h _ (by omega)]; unfold regCell; rw [if_neg (by omega), if_pos (by omega), show (j * 4 + 1) / 4 = j by omega]
  · rw [h _ (by omega)]; unfold regCell; rw [if_neg (by omega), if_neg (by omega), if_pos (by omega), show (j * 4 + 2) / 4 = j by omega]
  · rw [h _ (by omega)]; unfold regCell; rw [if_neg (by omega), if_neg (by omega), if_neg (by omega), show (j * 4 + 3) / 4 = j by omega]
theorem RegsAt.below {w w' : World} {rb n N : Nat} {A S : Nat → Nat} {W X : Nat → Bool} (h : RegsAt w rb n A S W X) (hb : Below N w w') (hg : rb < N) : RegsAt w' rb n A S W X := fun p hp => (hb.cell (p := ⟨rb, p, none⟩) hg).trans (h p hp)
theorem info43 : (Try.prog.info? 43).map (fun i => (i.zero, i.size, i.bytes)) = some (some (.agg #[.int .u64 0, .int .u64 0, .bool false, .bool false]), 4, 24) := by kernel_rfl
theorem regCell_one (A S : Nat → Nat) (W X : Nat → Bool) (n : Nat) : ∀ u ∈ regCells A S W X n, u.oneCell' = true := by
  intro u hu
  unfold regCells at hu
  obtain ⟨p, _, rfl⟩ := List.mem_map.1 hu
  unfold regCell
  split
  · rfl
  · split
    · rfl
    · split <;> rfl
theorem regCells_get (A S : Nat → Nat) (W X : Nat → Bool) (n j : Nat) (u : Value) (h : (regCells A S W X n)[j]? = some u) : j < n * 4 ∧ u = regCell A S W X j := by
  unfold regCells at h
  rw [List.getElem?_map] at h
  obtain ⟨p, hp, rfl⟩ := Option.map_eq_some_iff.1 h
  obtain ⟨h1, h2⟩ := List.getElem?_eq_some_iff.1 hp
  simp at h1 h2
  subst h2
  exact ⟨h1, rfl⟩
theorem rows_of {w : World} {g n cp base size : Nat} {e : TypeId} {xs : List Value} (h : w.ownsRow base e size (.slice (some ⟨g, 0, none⟩) n cp) n xs) : base ≤ g ∧ n ≤ cp ∧ (∀ p u, xs[p]? = some u → w.cell? ⟨g, p, none⟩ = some u) ∧ (∀ p, w.frozen? ⟨g, p, none⟩ = false) := by
  rcases h.2 with ⟨h1, _⟩ | ⟨g', cap, cur, hv, hb, hg, hn, hm, hs, ht⟩
  · cases h1
  · injection hv with h1 h2 h3
    injection h1 with h1
    injection h1 with h1
    subst h1 h3
    refine ⟨hb, hn, fun p u hu => ?_, fun p => frozen_of_row w g p cur e hg⟩
    rw [cell_of_row w g p cur e _ hg]
    rw [← ht] at hu
    have hp := (List.getElem?_eq_some_iff.1 hu).1
    rw [List.getElem?_take] at hu
    split at hu
    · simpa using hu
    · cases hu
def CloneP (n : Nat) (A S : Nat → Nat) (W X : Nat → Bool) (w : World) (e : Ending) (w' : World) : Prop := ∃ g cp, e = .returned (.slice (some ⟨g, 0, none⟩) n cp) ∧ w.heap.size ≤ g ∧ g < w'.heap.size ∧ n ≤ cp ∧ RegsAt w' g n A S W X ∧ (∀ p, w'.frozen? ⟨g, p, none⟩ = false) ∧ Below w.heap.size w w'
set_option maxRecDepth 100000 in
set_option maxHeartbeats 2000000 in
theorem clone_c (rb n cap : Nat) (A S : Nat → Nat) (W X : Nat → Bool) (w : World) (n1 : 1 ≤ n) (n2 : n ≤ 16) (hr : rb < w.heap.size) (HR : Hid (RegsAt w rb n A S W X)) :
    Calls Try.prog 95 #[.slice (some ⟨rb, 0, none⟩) n cap] w (CloneP n A S W X w) := by
  obtain ⟨i0, hi, hz0, hz1, hz2⟩ := info_parts info43
  have hown : (w.alloc (.cells #[] 43)).ownsRow w.heap.size 43 4 (.slice (some ⟨w.heap.size, 0, none⟩) 0 0) 0 [] := World.ownsRow_made w #[] 0 (Nat.le_refl _) (by unfold maxLen; omega) rfl
  have HO := Lib.hid hown
  clear hown
  have hlen : (regCells A S W X n).length = n * 4 := by simp [regCells]
  have hnews : ∀ j u, (regCells A S W X n)[j]? = some u → (w.alloc (.cells #[] 43)).cell? ((⟨rb, 0, none⟩ : Addr).add j) = some u := by
    intro j u hu
    obtain ⟨h1, rfl⟩ := regCells_get A S W X n j u hu
    have : (⟨rb, 0, none⟩ : Addr).add j = ⟨rb, j, none⟩ := by unfold Addr.add; split <;> simp_all
    rw [this, World.cell?_alloc_past _ _ _ hr]
    exact HR.out j h1
  have HN := Lib.hid hnews
  have HL := Lib.hid hlen
  clear hnews hlen
  have h1 := Lib.hid (regCell_one A S W X n)
  have hnil := fun W => Lib.run_eql_slice_nil (P := Try.prog) W 52 43 (some ⟨rb, 0, none⟩) n cap 0 0 Try.underlying52
  go_enter Try.func95, Try.ntmps95
  go_wp2_with (at_builtin; refine wpList_append_lies _ rfl _ _ 52 rfl w.heap.size 43 i0 _ 4 24 Try.underlying52 hi hz0 hz1 hz2 rfl (by decide) _ 0 [] rfl HO.out ⟨rb, 0, none⟩ n cap (regCells A S W X n) rfl HL.out HN.out h1.out (by omega) (by unfold maxLen; omega) (by omega) (by simp) (w.heap.size + 1) (by simp) ?_)
  intro g cp w1 hown1 hgrow hat hlt
  obtain ⟨r1, r2, r3, r4⟩ := rows_of hown1
  have HB : Hid (Below w.heap.size w w1) := Lib.hid (((Below.refl _ _).alloc (Nat.le_refl _) _).trans ⟨hgrow.os, hgrow.tape, hgrow.output, hgrow.size, fun x hx => hgrow.block x (by simp; omega) (by simp [Value.ownBlock]; omega)⟩)
  have HR1 : Hid (RegsAt w1 g n A S W X) := Lib.hid (fun p hp => r3 p _ (by unfold regCells; rw [List.getElem?_map, List.getElem?_range hp]; rfl))
  have HF := Lib.hid r4
  clear hown1 hgrow hat r3 r4
  go_wp2
  go_ret
  exact ⟨g, cp, rfl, r1, hlt, r2, HR1.out, HF.out, HB.out⟩
end Go.Proofs.Ytapcapcbndooiaa
