import Derived.Test.YtgdlcnngplfjnaaDoorVw
import Derived.Test.YtgdlcnngplfjnaaDoorVk
import Derived.Lib.AppendZerosOnto
import Derived.Maps.AppendAt
import Derived.Laws.OwnMore
import Derived.Lib.SliceRun
import Derived.Laws.BitsLemmas
import Derived.IntWalk
import Derived.Laws.BitsAllLaws
import Derived.Deep.DrawnRows
import Derived.WalkKit
import Derived.ProofKit
import Derived.OpenShut
import Derived.Deep.QuietTactic
import Derived.BigQuiet
import Derived.Outline
import Derived.WalkSmall
import Derived.WalkLawsBesides
import Derived.WalkSpells
import Derived.BigGuardPart
import Derived.RegionTactic
import Derived.Deep.RegionHeld3
import Derived.Lib.Hide
import Derived.Deep.MidRow
import Derived.Below
import Derived.Deep.RegionWith
import Derived.Deep.OwnRows
import Derived.Deep.AppendLies
import Derived.Deep.RegionLaw
import Derived.Deep.CutBlock
import Derived.Deep.DeepCutAuto
namespace Go.Proofs.YtgdlcnngplfjnaaDoor.Vf
open Go.ChangeShapes Go.WideShapes Go.ChangeAt Go.RowKit
set_option linter.unusedVariables false

theorem append_none (W : World) (base : Nat) (v : Value) (n c : Nat) (xs : List Value) (h : W.ownsRow base 3 1 v n xs) : (Builtin.append_ #[33, 33] 33 #[v, .slice none 0 c]).run Tryd.prog W = .ok v W := by
  obtain ⟨i0, hi, hz0, hz1, hz2⟩ := info_parts info3x
  rcases h.2 with ⟨rfl, rfl⟩ | ⟨g, cap, cur, rfl, _, _, hnc, _⟩
  · simp [Builtin.append_, run_underlying Tryd.underlying33, sizeOf, typeInfo, hi, Builtin.lenOf, Builtin.firstCells]
  · simp [Builtin.append_, run_underlying Tryd.underlying33, sizeOf, typeInfo, hi, Builtin.lenOf, Builtin.firstCells, hnc, storeCells]
theorem own_below {w w' : World} {B n s : Nat} {e : TypeId} {v : Value} {xs : List Value} (ho : w.ownsRow B e s v n xs) (hB : B ≤ w.heap.size) (h : w.grownBy w' v.ownBlock) : Below B w w' := by
  rcases ho.2 with ⟨rfl, _⟩ | ⟨g, cap, cur, rfl, hb, _⟩
  · exact ⟨h.os, h.tape, h.output, h.size, fun k hk => h.block k (by omega) (by simp [Value.ownBlock])⟩
  · exact ⟨h.os, h.tape, h.output, h.size, fun k hk => h.block k (by omega) (by simp [Value.ownBlock]; omega)⟩
def AppI (W : World) (base n : Nat) (v : Value) (xs l : List Int) (a : Option Addr) (c : Nat) : Prop := ∃ v' W', (Builtin.append_ #[33, 33] 33 #[v, .slice a l.length c]).run Tryd.prog W = .ok v' W' ∧ W'.ownsRow base 3 1 v' (n + l.length) ((xs ++ l).map (.int .i64)) ∧ W.grownBy W' v.ownBlock ∧ (v'.ownBlock = v.ownBlock ∨ v'.ownBlock = some W.heap.size)
theorem app_ints (W : World) (base n : Nat) (v : Value) (xs l : List Int) (a : Option Addr) (c : Nat) (ho : W.ownsRow base 3 1 v n (xs.map (.int .i64))) (hI : Ints W a l) (hn : n + l.length ≤ 100000) (hb : base ≤ W.heap.size) : AppI W base n v xs l a c := by
  obtain ⟨i0, hi, hz0, hz1, hz2⟩ := info_parts info3x
  cases a with
  | none =>
    have h0 : l.length = 0 := by
      rcases hI with h | ⟨b, o, h, _⟩
      · exact h
      · cases h
    obtain rfl : l = [] := List.length_eq_zero_iff.1 h0
    exact ⟨v, W, append_none W base v n c _ ho, by simpa using ho, ⟨rfl, rfl, rfl, Nat.le_refl _, fun _ _ _ => rfl⟩, .inl rfl⟩
  | some ad =>
    obtain ⟨v', W', h2, h3, h4, _, h5⟩ := run_append_own_at (P := Tryd.prog) (w := W) base 33 33 3 i0 (.int .i64 0) 1 8 Tryd.underlying33 hi hz0 hz1 hz2 rfl (by decide) v n (xs.map (.int .i64)) ho ad l.length c (l.map (.int .i64)) (by simp) (fun j u hu => by
      have hj : j < l.length := by have := (List.getElem?_eq_some_iff.1 hu).1; simpa using this
      obtain ⟨b, o, hA, hb, hc⟩ := hI.at (by omega)
      obtain rfl := Option.some.inj hA
      rw [List.getElem?_map, getD_eq hj] at hu
      rw [Go.WideShapes.add_plain, hc j hj]
      exact hu) (fun u hu => by obtain ⟨z, _, rfl⟩ := List.mem_map.1 hu; rfl) (by unfold maxLen; omega) (by omega) hb
    exact ⟨v', W', h2, by rw [List.map_append]; exact h3, h4, h5⟩

/-- A row of bytes. -/
def Bys (w : World) (a : Option Addr) (l : List Int) : Prop := Row1 w a l.length fun i => .int .u8 (l.getD i 0)
theorem Bys.kept {w w' : World} {a : Option Addr} {l : List Int} (h : Bys w a l) (k : Kept w w') : Bys w' a l := Row1.kept h k
theorem Bys.nil (w : World) (a : Option Addr) : Bys w a [] := .inl rfl
theorem Bys.at {w : World} {a : Option Addr} {l : List Int} (h : Bys w a l) (h0 : 0 < l.length) : ∃ b o, a = some ⟨b, o, none⟩ ∧ b < w.heap.size ∧ ∀ i, i < l.length → w.cell? ⟨b, o + i, none⟩ = some (.int .u8 (l.getD i 0)) := by
  rcases h with h | h
  · omega
  · exact h
theorem Bys.own {w : World} {B : Nat} {a : Option Addr} {n c : Nat} {l : List Int} (h : w.ownsRow B 5 1 (.slice a n c) n (l.map (.int .u8))) (hn : l.length = n) : Bys w a l := by
  subst hn
  rcases h.2 with ⟨h1, h2⟩ | ⟨g, cap, cur, hv, hb, hg, hc, hm, hs, ht⟩
  · exact .inl h2
  · injection hv with e1 e2 e3
    subst e1
    refine .inr ⟨g, 0, rfl, (Array.getElem?_eq_some_iff.1 hg).1, fun i hi => ?_⟩
    rw [Nat.zero_add, cell_of_row w g i cur 5 _ hg]
    have h1 : (l.map (Value.int .u8))[i]? = some (.int .u8 (l.getD i 0)) := by rw [List.getElem?_map, getD_eq hi]; rfl
    rw [← ht, List.getElem?_take] at h1
    split at h1
    · simpa using h1
    · cases h1
theorem append_noneB (W : World) (base : Nat) (v : Value) (n c : Nat) (xs : List Value) (h : W.ownsRow base 5 1 v n xs) : (Builtin.append_ #[22, 22] 22 #[v, .slice none 0 c]).run Tryd.prog W = .ok v W := by
  obtain ⟨i0, hi, hz0, hz1, hz2⟩ := info_parts info5x
  rcases h.2 with ⟨rfl, rfl⟩ | ⟨g, cap, cur, rfl, _, _, hnc, _⟩
  · simp [Builtin.append_, run_underlying Tryd.underlying22, sizeOf, typeInfo, hi, Builtin.lenOf, Builtin.firstCells]
  · simp [Builtin.append_, run_underlying Tryd.underlying22, sizeOf, typeInfo, hi, Builtin.lenOf, Builtin.firstCells, hnc, storeCells]

def AppB (W : World) (base n : Nat) (v : Value) (xs l : List Int) (a : Option Addr) (c : Nat) : Prop := ∃ v' W', (Builtin.append_ #[22, 22] 22 #[v, .slice a l.length c]).run Tryd.prog W = .ok v' W' ∧ W'.ownsRow base 5 1 v' (n + l.length) ((xs ++ l).map (.int .u8)) ∧ W.grownBy W' v.ownBlock ∧ (v'.ownBlock = v.ownBlock ∨ v'.ownBlock = some W.heap.size)
theorem app_bys (W : World) (base n : Nat) (v : Value) (xs l : List Int) (a : Option Addr) (c : Nat) (ho : W.ownsRow base 5 1 v n (xs.map (.int .u8))) (hI : Bys W a l) (hn : n + l.length ≤ 100000) (hb : base ≤ W.heap.size) : AppB W base n v xs l a c := by
  obtain ⟨i0, hi, hz0, hz1, hz2⟩ := info_parts info5x
  cases a with
  | none =>
    have h0 : l.length = 0 := by
      rcases hI with h | ⟨b, o, h, _⟩
      · exact h
      · cases h
    obtain rfl : l = [] := List.length_eq_zero_iff.1 h0
    exact ⟨v, W, append_noneB W base v n c _ ho, by simpa using ho, ⟨rfl, rfl, rfl, Nat.le_refl _, fun _ _ _ => rfl⟩, .inl rfl⟩
  | some ad =>
    obtain ⟨v', W', h2, h3, h4, _, h5⟩ := run_append_own_at (P := Tryd.prog) (w := W) base 22 22 5 i0 (.int .u8 0) 1 1 Tryd.underlying22 hi hz0 hz1 hz2 rfl (by decide) v n (xs.map (.int .u8)) ho ad l.length c (l.map (.int .u8)) (by simp) (fun j u hu => by
      have hj : j < l.length := by have := (List.getElem?_eq_some_iff.1 hu).1; simpa using this
      obtain ⟨b, o, hA, hb, hc⟩ := hI.at (by omega)
      obtain rfl := Option.some.inj hA
      rw [List.getElem?_map, getD_eq hj] at hu
      rw [Go.WideShapes.add_plain, hc j hj]
      exact hu) (fun u hu => by obtain ⟨z, _, rfl⟩ := List.mem_map.1 hu; rfl) (by unfold maxLen; omega) (by omega) hb
    exact ⟨v', W', h2, by rw [List.map_append]; exact h3, h4, h5⟩

theorem own_alloc2 {W : World} {B e s n : Nat} {v : Value} {xs : List Value} (h : W.ownsRow B e s v n xs) (o : Obj) : (W.alloc o).ownsRow B e s v n xs := by
  refine ⟨h.1, ?_⟩
  rcases h.2 with h | ⟨g, cap, cur, h1, h2, h3, h4⟩
  · exact .inl h
  · exact .inr ⟨g, cap, cur, h1, h2, (heap_alloc_old W o (Array.getElem?_eq_some_iff.1 h3).1).trans h3, h4⟩
theorem own_below2 {W W' : World} {B e s n : Nat} {v : Value} {xs : List Value} (h : W.ownsRow B e s v n xs) (hb : Below W.heap.size W W') : W'.ownsRow B e s v n xs := by
  refine ⟨h.1, ?_⟩
  rcases h.2 with h | ⟨g, cap, cur, h1, h2, h3, h4⟩
  · exact .inl h
  · exact .inr ⟨g, cap, cur, h1, h2, (hb.block g (Array.getElem?_eq_some_iff.1 h3).1).trans h3, h4⟩
/-- One byte more. -/
theorem app_byte (W : World) (base n : Nat) (v : Value) (xs : List Int) (z : Int) (ho : W.ownsRow base 5 1 v n (xs.map (.int .u8))) (hn : n ≤ 90000) (hb : base ≤ W.heap.size) : ∃ a c W', (Builtin.append_ #[22, 22] 22 #[v, .slice (some ⟨W.heap.size, 0, none⟩) 1 1]).run Tryd.prog (W.alloc (.cells #[.int .u8 z] 5)) = .ok (.slice a (n + 1) c) W' ∧ W'.ownsRow base 5 1 (.slice a (n + 1) c) (n + 1) ((xs ++ [z]).map (.int .u8)) ∧ Below base W W' ∧ ∀ b, b < W.heap.size → some b ≠ v.ownBlock → W'.heap[b]? = W.heap[b]? := by
  have ho2 := own_alloc2 ho (.cells #[.int .u8 z] 5)
  have hI : Bys (W.alloc (.cells #[.int .u8 z] 5)) (some ⟨W.heap.size, 0, none⟩) [z] := .inr ⟨W.heap.size, 0, rfl, by rw [World.size_alloc]; exact Nat.lt_succ_self _, fun i hi => by
    have : i = 0 := Nat.lt_one_iff.1 hi
    subst this
    exact (Bx.new W #[.int .u8 z] 5).cell 0⟩
  obtain ⟨v', W', h1, h2, h3, h4⟩ := app_bys (W.alloc (.cells #[.int .u8 z] 5)) base n v xs [z] (some ⟨W.heap.size, 0, none⟩) 1 ho2 hI (by simp; omega) (by rw [World.size_alloc]; omega)
  obtain ⟨a, c, rfl⟩ := own_slice h2
  refine ⟨a, c, W', h1, h2, ((Below.refl _ _).alloc hb _).trans (own_below ho2 (by rw [World.size_alloc]; omega) h3), fun b hb hne => ?_⟩
  rw [h3.block b (by rw [World.size_alloc]; omega) hne]
  exact heap_alloc_old W _ hb
theorem own_blk {W : World} {B e s n : Nat} {v : Value} {xs : List Value} (h : W.ownsRow B e s v n xs) {t : Nat} (ht : W.heap.size ≤ t) : some t ≠ v.ownBlock := by
  rcases h.2 with ⟨rfl, _⟩ | ⟨g, cap, cur, rfl, h2, h3, h4⟩
  · intro q; cases q
  · intro q
    injection q with q
    have h3' := (Array.getElem?_eq_some_iff.1 h3).1
    have q2 : t = g := q
    omega
end Go.Proofs.YtgdlcnngplfjnaaDoor.Vf
