import Derived.Test.YtnbpgoacooddjaaELy
import Derived.Test.YtnbpgoacooddjaaEBs
import Derived.Test.YtnbpgoacooddjaaFCkE
namespace Go.Proofs.Ytnbpgoacooddjaa.Fr
end Go.Proofs.Ytnbpgoacooddjaa.Fr
namespace Go.Proofs.Ytnbpgoacooddjaa.En
open Go.Proofs.Ytnbpgoacooddjaa.Fr
open Go.ChangeShapes Go.WideShapes Go.ChangeAt Go.RowKit Go.Maps
set_option linter.unusedVariables false
/-- A row of fields' functions at g. -/
def FldAt (w : World) (g : Nat) (L : List Nat) : Prop := g < w.heap.size ∧ ∀ k f, L[k]? = some f → w.cell? ⟨g, k, none⟩ = some (.func (.func f) #[] #[])
theorem FldAt.past {w W w' : World} {g : Nat} {L : List Nat} (h : FldAt w g L) (hb : Below W.heap.size W w') (he : W.heap = w.heap) : FldAt w' g L := by
  have hg : g < W.heap.size := by rw [he]; exact h.1
  refine ⟨Nat.lt_of_lt_of_le hg hb.size, fun k f hk => ?_⟩
  have hc : W.cell? ⟨g, k, none⟩ = w.cell? ⟨g, k, none⟩ := by unfold World.cell?; rw [he]
  exact ((hb.cell (p := ⟨g, k, none⟩) hg).trans hc).trans (h.2 k f hk)
theorem map_past {w w' : World} {b n : Nat} {D : DataW Unit} (h : w.ownsMap Try.prog 3 (plainElem (H := Unit) Try.prog 54) b n D) (hb : Below w.heap.size w w') : w'.ownsMap Try.prog 3 (plainElem (H := Unit) Try.prog 54) b n D := by
  obtain ⟨es, clock, h1, h2⟩ := h
  exact ⟨es, clock, (hb.block b (Array.getElem?_eq_some_iff.1 h1).1).trans h1, h2⟩
theorem barS_lt (x i : Int) (hx : 0 ≤ x) (hx' : x < 4294967296) : 0 ≤ barS x i ∧ barS x i < 4294967296 := by
  unfold barS
  split
  · exact putS_lt _ _ _ _ hx hx'
  · split
    · exact putS_lt _ _ _ _ hx hx'
    · exact ⟨hx, hx'⟩
end Go.Proofs.Ytnbpgoacooddjaa.En
