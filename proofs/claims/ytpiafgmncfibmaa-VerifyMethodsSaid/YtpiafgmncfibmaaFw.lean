import Derived.Test.YtpiafgmncfibmaaPg
import Derived.Test.YtpiafgmncfibmaaRows
import Derived.WalkKit
import Derived.ProofKit
import Derived.OpenShut
import Derived.Deep.QuietTactic
import Derived.BigQuiet
import Derived.Outline
import Derived.WalkSmall
import Derived.WalkLawsBesides
import Derived.WalkSpells
import Derived.BigGuardPart
import Derived.RegionTactic
import Derived.Deep.RegionHeld3
import Derived.Lib.Hide
import Derived.Deep.MidRow
import Derived.Below
import Derived.Deep.RegionWith
import Derived.Deep.OwnRows
import Derived.Deep.AppendLies
namespace Go.Proofs.Ytpiafgmncfibmaa
open Go.ChangeShapes Go.WideShapes Go.ChangeAt Go.RowKit
set_option linter.unusedVariables false

def SomeB (w : World) (e : Ending) (w' : World) : Prop := (∃ b : Bool, e = .returned (.bool b)) ∧ Below w.heap.size w w'
/-- The cells of a program that a call has boxed. -/
theorem box_cells (w : World) (P : Pg) (A : Ad) : ∀ w', Below (w.heap.size + 1) (w.alloc (.cells (P.cells A) 26)) w' → w'.cell? ⟨w.heap.size, 0, none⟩ = some (.slice A.pa P.np A.pc) ∧ w'.cell? ⟨w.heap.size, 1, none⟩ = some (.slice A.ca P.nc A.cc) ∧ w'.cell? ⟨w.heap.size, 2, none⟩ = some (.slice A.ma P.nm A.mc) := fun w' hb => by
  rw [hb.cell (p := ⟨w.heap.size, 0, none⟩) (by simp), hb.cell (p := ⟨w.heap.size, 1, none⟩) (by simp), hb.cell (p := ⟨w.heap.size, 2, none⟩) (by simp)]
  simp [go_sem, Pg.cells]
set_option maxRecDepth 100000 in
set_option maxHeartbeats 2000000 in
theorem few_c (P : Pg) (A : Ad) (w : World) (h : PgAt w P A) (hf : Fits P A) : Calls Try.prog 13 #[.agg (P.cells A)] w (SomeB w) := by
  have HX := Lib.hid (box_cells w P A)
  have HA : Hid (Below w.heap.size w (w.alloc (.cells (P.cells A) 26))) := Lib.hid ((Below.refl _ _).alloc (Nat.le_refl _) _)
  have HP := Lib.hid h
  have hnc := hf.nc
  have hnm := hf.nm
  have HFt := Lib.hid hf
  clear h hf
  obtain ⟨pa, pc, ca, cc, ma, mc, fa, fc, ppa, ppc, lla, llc, cda, cdc⟩ := A
  obtain ⟨np, po, nc, nf, ft, fv, nm, pn, pt, rt, ln, lt, sk, cn, cd⟩ := P
  unfold Big at hnc hnm
  dsimp only at hnc hnm
  show Calls Try.prog 13 #[.agg #[.slice pa np pc, .slice ca nc cc, .slice ma nm mc]] w _
  go_enter Try.func13, Try.ntmps13
  go_wp2
  go_loopw [4, 3] (fun ix v wr => ∃ (i : Nat) (x : Int), i ≤ nc ∧ ix = .int .i64 i ∧ v = .int .i64 x ∧ Hid (Below (w.heap.size + 1) (w.alloc (.cells #[.slice pa np pc, .slice ca nc cc, .slice ma nm mc] 26)) wr)) (fun ix _ _ => nc - (intOf ix).toNat)
  case atStart => exact ⟨0, _, by omega, rfl, rfl, Lib.hid (Below.refl _ _)⟩
  case round =>
    obtain ⟨i, x, hi, rfl, rfl, HQ⟩ := hrel
    obtain ⟨e0, e1, e2⟩ := HX.out wr HQ.out
    by_cases hin : i < nc
    · have gi : (i : Int) < nc := by omega
      rcases (show Row1 wr ca nc (fun i => .slice (fa i) (nf i) (fc i)) from Row1.kept HP.out.k (Kept.of (HA.out.trans (HQ.out.mono (by omega))))) with h0 | ⟨b, o, rfl, hb, hc⟩
      · exact absurd h0 (by omega)
      have c0 : wr.cell? ⟨b, o + i, none⟩ = some (.slice (fa i) (nf i) (fc i)) := hc i hin
      clear hc
      go_wp2
      exact ⟨⟨i + 1, _, by omega, by go_num, rfl, HQ⟩, by simp [intOf]; omega⟩
    · have hni : nc = i := by omega
      subst hni
      go_wp2
      clear e0 e1 e2
      go_loopw [5, 3] (fun ix v wr => ∃ (i : Nat) (x : Int), i ≤ nm ∧ ix = .int .i64 i ∧ v = .int .i64 x ∧ Hid (Below (w.heap.size + 1) (w.alloc (.cells #[.slice pa np pc, .slice ca nc cc, .slice ma nm mc] 26)) wr)) (fun ix _ _ => nm - (intOf ix).toNat)
      case atStart => exact ⟨0, _, by omega, rfl, rfl, HQ⟩
      case round =>
        clear HQ
        obtain ⟨j, y, hj, rfl, rfl, HQ⟩ := hrel
        obtain ⟨e0, e1, e2⟩ := HX.out wr HQ.out
        by_cases hjn : j < nm
        · have gj : (j : Int) < nm := by omega
          rcases (show Row5 wr ma nm (fun i => .slice (ppa i) (pn i) (ppc i)) (fun i => .int .i64 (rt i)) (fun i => .slice (lla i) (ln i) (llc i)) (fun i => .int .i64 (sk i)) (fun i => .slice (cda i) (cn i) (cdc i)) from Row5.kept HP.out.m (Kept.of (HA.out.trans (HQ.out.mono (by omega))))) with h0 | ⟨b, o, rfl, hb, hc⟩
          · exact absurd h0 (by omega)
          obtain ⟨c0, c1, c2, c3, c4⟩ := hc j hjn
          clear hc
          dsimp only at c0 c1 c2 c3 c4
          go_wp2
          exact ⟨⟨j + 1, _, by omega, by go_num, rfl, Lib.hid (HQ.out.alloc (by have := HQ.out.size; simp at this; omega) _)⟩, by simp [intOf]; omega⟩
        · have hnj : nm = j := by omega
          subst hnj
          go_wp2
          go_ret
          exact ⟨⟨_, rfl⟩, HA.out.trans (HQ.out.mono (by omega))⟩
end Go.Proofs.Ytpiafgmncfibmaa
