import Derived.WalkKit
import Derived.ProofKit
import Derived.OpenShut
import Derived.Deep.QuietTactic
import Derived.BigQuiet
import Derived.Outline
import Derived.WalkSmall
import Derived.WalkLawsBesides
import Derived.WalkSpells
import Derived.BigGuardPart
import Derived.RegionTactic
import Derived.Deep.RegionHeld3
import Derived.Lib.Hide
import Derived.Deep.MidRow
import Derived.Below
import Derived.Deep.RegionWith
import Derived.Deep.OwnRows
import Derived.Deep.AppendLies
import Derived.Deep.RegionLaw
import Derived.Laws.BitsAllLaws
import Derived.Laws.BitsLemmas
import Derived.Deep.CutBlock
import Derived.Deep.DeepCutAuto
import Derived.Deep.CutRange
import Derived.Test.YtnbpgoacooddjaaWa
import Derived.Test.YtnbpgoacooddjaaSmG
import Derived.Test.YtnbpgoacooddjaaSmS
import Derived.Test.YtnbpgoacooddjaaSxK
namespace Go.Proofs.Ytnbpgoacooddjaa
open Go.ChangeShapes Go.WideShapes Go.ChangeAt Go.RowKit
set_option linter.unusedVariables false
/-- A window in memory. -/
def WnC (w : World) (b off n : Nat) (F : Nat → WI) : Prop := b < w.heap.size ∧ ∀ j, j < n → ∀ k v, (F j).arr[k]? = some v → w.cell? ⟨b, off + j * 46 + k, none⟩ = some v
theorem WnC.past {w W w' : World} {b off n : Nat} {F : Nat → WI} (h : WnC w b off n F) (hb : Below W.heap.size W w') (he : W.heap = w.heap) : WnC w' b off n F := by
  have hl : b < W.heap.size := by rw [he]; exact h.1
  refine ⟨Nat.lt_of_lt_of_le hl hb.size, fun j hj k v hv => ?_⟩
  rw [hb.cell (p := ⟨b, off + j * 46 + k, none⟩) hl]
  have := h.2 j hj k v hv
  unfold World.cell? at this ⊢
  rw [he]
  exact this
theorem WnC.below {w w' : World} {b off n : Nat} {F : Nat → WI} (h : WnC w b off n F) (hb : Below w.heap.size w w') : WnC w' b off n F := h.past hb rfl
theorem WnC.mono {w : World} {b off n m : Nat} {F : Nat → WI} (h : WnC w b off n F) (hm : m ≤ n) : WnC w b off m F := ⟨h.1, fun j hj => h.2 j (by omega)⟩
/-- The seven cells of an instruction in a window. -/
theorem WnC.ins {w : World} {b off n : Nat} {F : Nat → WI} (h : WnC w b off n F) (j : Nat) (hj : j < n) :
    w.cell? ⟨b, off + j * 46 + 1, none⟩ = some (.int .i64 (F j).op) ∧ w.cell? ⟨b, off + j * 46 + 2, none⟩ = some (.int .i64 (F j).d) ∧ w.cell? ⟨b, off + j * 46 + 3, none⟩ = some (.int .i64 (F j).n) ∧ w.cell? ⟨b, off + j * 46 + 4, none⟩ = some (.int .i64 (F j).m) ∧ w.cell? ⟨b, off + j * 46 + 5, none⟩ = some (.int .i64 (F j).a) ∧ w.cell? ⟨b, off + j * 46 + 6, none⟩ = some (.int .i64 (F j).c) ∧ w.cell? ⟨b, off + j * 46 + 7, none⟩ = some (.int .i64 (F j).i) :=
  ⟨h.2 j hj 1 _ ((F j).lo 1 (by decide)), h.2 j hj 2 _ ((F j).lo 2 (by decide)), h.2 j hj 3 _ ((F j).lo 3 (by decide)), h.2 j hj 4 _ ((F j).lo 4 (by decide)), h.2 j hj 5 _ ((F j).lo 5 (by decide)), h.2 j hj 6 _ ((F j).lo 6 (by decide)), h.2 j hj 7 _ ((F j).lo 7 (by decide))⟩
theorem WnC.pc {w : World} {b off n : Nat} {F : Nat → WI} (h : WnC w b off n F) (j : Nat) (hj : j < n) : w.cell? ⟨b, off + j * 46, none⟩ = some (.int .u64 (F j).pc) := h.2 j hj 0 _ ((F j).lo 0 (by decide))
theorem WnC.dn {w : World} {b off n : Nat} {F : Nat → WI} (h : WnC w b off n F) (j : Nat) (hj : j < n) : w.cell? ⟨b, off + j * 46 + 9, none⟩ = some (.bool (F j).dn) := h.2 j hj 9 _ ((F j).lo 9 (by decide))
theorem load_mid {ty : TypeId} {d : TypeDesc} (hu : Try.prog.underlying ty = some d) (hd : d.isRow = true) (b off : Nat) (C : Array Value) (hi : (Try.prog.info? ty).map (·.size) = some C.size) (w : World) (h : ∀ k v, C[k]? = some v → w.cell? ⟨b, off + k, none⟩ = some v) :
    (Instr.loadAt ty (.pointer (some ⟨b, off, none⟩))).run Try.prog w = .ok (.agg C) w := by
  have h0 : (Instr.loadAt ty (.pointer (some ⟨b, off, none⟩))).run Try.prog w = (loadVar ty ⟨b, off, none⟩).run Try.prog w := by
    simp only [Instr.loadAt, Instr.sureAddr, Sem.run_bind, Sem.run_pure, Result.andThen_ok]
  have := run_loadAt_mid (P := Try.prog) w b off ty C.toList d (fun j v hv => h j v (by simpa using hv)) hu hd (by simpa using hi)
  exact this
theorem info31 : (Try.prog.info? 31).map (·.size) = some 46 := by kernel_rfl
theorem info126 : (Try.prog.info? 126).map (·.size) = some 38 := by kernel_rfl
theorem info29 : (Try.prog.info? 29).map (·.size) = some 7 := by kernel_rfl
theorem info136 : (Try.prog.info? 136).map (·.size) = some 48 := by kernel_rfl
theorem WnC.load {w : World} {b off n : Nat} {F : Nat → WI} (h : WnC w b off n F) (j : Nat) (hj : j < n) : (Instr.loadAt 31 (.pointer (some ⟨b, off + j * 46, none⟩))).run Try.prog w = .ok (.agg (F j).arr) w :=
  load_mid Try.underlying31 rfl b _ _ (by rw [(F j).size]; exact info31) w (fun k v hv => h.2 j hj k v hv)
theorem WnC.regs {w : World} {b off n : Nat} {F : Nat → WI} (h : WnC w b off n F) (j : Nat) (hj : j < n) : (Instr.loadAt 26 (.pointer (some ⟨b, off + j * 46 + 10, none⟩))).run Try.prog w = .ok (.agg (F j).r.arr) w :=
  load_mid Try.underlying26 rfl b _ _ (by rw [(F j).r.size]; exact info25) w (fun k v hv => by
    have := h.2 j hj (10 + k) v (by rw [WI.hi]; exact hv)
    rw [show off + j * 46 + 10 + k = off + j * 46 + (10 + k) by omega]
    exact this)
theorem WnC.loadIns {w : World} {b off n : Nat} {F : Nat → WI} (h : WnC w b off n F) (j : Nat) (hj : j < n) : (Instr.loadAt 29 (.pointer (some ⟨b, off + j * 46 + 1, none⟩))).run Try.prog w = .ok (.agg (F j).ins) w :=
  load_mid Try.underlying29 rfl b _ _ (by exact info29) w (fun k v hv => by
    have hk : k < 7 := (Array.getElem?_eq_some_iff.1 hv).1
    have := h.2 j hj (1 + k) v (by
      rw [WI.lo _ _ (by omega), ← hv]
      have : k = 0 ∨ k = 1 ∨ k = 2 ∨ k = 3 ∨ k = 4 ∨ k = 5 ∨ k = 6 := by omega
      rcases this with rfl | rfl | rfl | rfl | rfl | rfl | rfl <;> rfl)
    rw [show off + j * 46 + 1 + k = off + j * 46 + (1 + k) by omega]
    exact this)
/-- What a view remembers: of each instruction which registers it writes, a bit a register. -/
def OutC (f : WI → InsF) (F : Nat → WI) (w : World) (g m : Nat) : Prop := g < w.heap.size ∧ ∀ j, j < m → ∃ B : Nat, w.cell? ⟨g, j, none⟩ = some (.int .u64 B) ∧ B < 18446744073709551616 ∧ ∀ x, x < 64 → B.testBit x = decide ((x : Int) ∈ (f (F j)).outL)
theorem OutC.past {f : WI → InsF} {F : Nat → WI} {w W w' : World} {g m : Nat} (h : OutC f F w g m) (hb : Below W.heap.size W w') (he : W.heap = w.heap) : OutC f F w' g m := by
  have hl : g < W.heap.size := by rw [he]; exact h.1
  refine ⟨Nat.lt_of_lt_of_le hl hb.size, fun j hj => ?_⟩
  obtain ⟨B, h1, h2, h3⟩ := h.2 j hj
  refine ⟨B, ?_, h2, h3⟩
  rw [hb.cell (p := ⟨g, j, none⟩) hl]
  unfold World.cell? at h1 ⊢
  rw [he]
  exact h1
theorem OutC.below {f : WI → InsF} {F : Nat → WI} {w w' : World} {g m : Nat} (h : OutC f F w g m) (hb : Below w.heap.size w w') : OutC f F w' g m := h.past hb rfl
/-- A view. -/
def vwA (b off n cap : Nat) (r : Rg) (g m : Nat) : Array Value := #[.slice (some ⟨b, off, none⟩) n cap] ++ r.arr ++ #[.slice (some ⟨g, 0, none⟩) m m]
theorem vwA_size (b off n cap : Nat) (r : Rg) (g m : Nat) : (vwA b off n cap r g m).size = 38 := by simp [vwA, r.size]
theorem vwA_0 (b off n cap : Nat) (r : Rg) (g m : Nat) : (vwA b off n cap r g m)[0]? = some (.slice (some ⟨b, off, none⟩) n cap) := by
  unfold vwA
  rw [Array.getElem?_append_left (by simp [r.size]), Array.getElem?_append_left (by simp)]
  rfl
theorem vwA_r (b off n cap : Nat) (r : Rg) (g m : Nat) (k : Nat) (hk : k < 36) : (vwA b off n cap r g m)[1 + k]? = r.arr[k]? := by
  unfold vwA
  rw [Array.getElem?_append_left (by simp [r.size]; omega), Array.getElem?_append_right (by simp)]
  simp
theorem vwA_37 (b off n cap : Nat) (r : Rg) (g m : Nat) : (vwA b off n cap r g m)[37]? = some (.slice (some ⟨g, 0, none⟩) m m) := by
  unfold vwA
  rw [Array.getElem?_append_right (by simp [r.size])]
  simp [r.size]
theorem Wext {A B : Array Value} (h : A.size = B.size) (k : ∀ i, i < A.size → A[i]? = B[i]?) : A = B := by
  apply Array.ext_getElem?
  intro i
  rcases Nat.lt_or_ge i A.size with hi | hi
  · exact k i hi
  · rw [Array.getElem?_eq_none hi, Array.getElem?_eq_none (by omega)]
theorem vwA_regs (b off n cap : Nat) (r : Rg) (g m : Nat) : (vwA b off n cap r g m).extract 1 (1 + 36) = r.arr := by
  refine Wext (by simp [vwA_size, r.size]) fun i hi => ?_
  have hi : i < 36 := by simpa [vwA_size] using hi
  rw [Array.getElem?_extract, if_pos (by rw [vwA_size]; omega), vwA_r _ _ _ _ _ _ _ _ hi]
theorem vwA_all (b off n cap : Nat) (r : Rg) (g m : Nat) : (vwA b off n cap r g m).extract 0 (0 + 38) = vwA b off n cap r g m := by
  have h := vwA_size b off n cap r g m
  rw [← h]
  simp
/-- Loads of a view, and of its registers. -/
theorem vw_all {w : World} {x b off n cap g m : Nat} {r : Rg} (h : rowAt w x = some (vwA b off n cap r g m)) : (Instr.loadAt 126 (.pointer (some ⟨x, 0, none⟩))).run Try.prog w = .ok (.agg (vwA b off n cap r g m)) w := by
  rw [load_row Try.underlying126 rfl info126, h]
  simp only []
  rw [if_pos (by rw [vwA_size]; omega), vwA_all]
theorem vw_regs {w : World} {x b off n cap g m : Nat} {r : Rg} (h : rowAt w x = some (vwA b off n cap r g m)) : (Instr.loadAt 26 (.pointer (some ⟨x, 1, none⟩))).run Try.prog w = .ok (.agg r.arr) w := by
  rw [load_row Try.underlying26 rfl info25, h]
  simp only []
  rw [if_pos (by rw [vwA_size]; omega), vwA_regs]
theorem foldl_set : ∀ (l : List Value) (k : Nat) (C : Array Value) (i : Nat), k + l.length ≤ C.size → ((l.zipIdx k).foldl (fun cs x => cs.setIfInBounds x.2 x.1) C)[i]? = if k ≤ i ∧ i < k + l.length then l[i - k]? else C[i]?
  | [], k, C, i, _ => by simp; omega
  | v :: l, k, C, i, h => by
    simp only [List.length_cons] at h
    rw [List.zipIdx_cons, List.foldl_cons, foldl_set l (k + 1) _ i (by simp; omega)]
    simp only [List.length_cons]
    by_cases h1 : k + 1 ≤ i ∧ i < k + 1 + l.length
    · rw [if_pos h1, if_pos (by omega)]
      obtain ⟨j, rfl⟩ : ∃ j, i = k + 1 + j := ⟨i - (k + 1), by omega⟩
      rw [show k + 1 + j - (k + 1) = j by omega, show k + 1 + j - k = j + 1 by omega]
      rfl
    · rw [if_neg h1, Array.getElem?_setIfInBounds]
      by_cases h2 : k = i
      · subst h2
        rw [if_pos rfl, if_pos (by omega), if_pos (by omega)]
        simp
      · rw [if_neg h2, if_neg (by omega)]
theorem setCells_all {w : World} {b : Nat} {C D : Array Value} (h : rowAt w b = some C) (hs : D.size = C.size) : rowAt (w.setCells b 0 D.toList) b = some D := by
  rw [setCells_row _ 0 w b C h]
  congr 1
  apply Array.ext_getElem?
  intro i
  rw [foldl_set _ _ _ _ (by simp [hs])]
  split
  · simp
  · rename_i hi
    rw [Array.getElem?_eq_none (by simp at hi; omega), Array.getElem?_eq_none (by simp at hi; omega)]
/-- A store of a whole row of registers. -/
theorem st_all {w : World} {b : Nat} {C : Array Value} {r' : Rg} (h : rowAt w b = some C) (hs : C.size = 36) : (stAt 26 (.pointer (some ⟨b, 0, none⟩)) (.agg r'.arr)).run Try.prog w = .ok () (w.setCells b 0 r'.arr.toList) := by
  refine run_storeAt_mid w b 0 26 r'.arr (fun j hj => ?_) (by rw [Rg.size]; exact info25) r'.one
  rw [Rg.size] at hj
  rw [Nat.zero_add]
  refine ⟨?_, rowAt_frz h j⟩
  rw [rowAt_cell h j, Array.getElem?_eq_getElem (by omega)]
  rfl
end Go.Proofs.Ytnbpgoacooddjaa
