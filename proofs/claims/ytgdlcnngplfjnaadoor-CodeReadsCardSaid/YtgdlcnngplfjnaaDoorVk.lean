import Derived.Test.YtgdlcnngplfjnaaDoorPg
import Derived.Test.YtgdlcnngplfjnaaDoorRk
import Derived.Test.YtgdlcnngplfjnaaDoorRows
import Derived.WalkKit
import Derived.ProofKit
import Derived.OpenShut
import Derived.Deep.QuietTactic
import Derived.BigQuiet
import Derived.Outline
import Derived.WalkSmall
import Derived.WalkLawsBesides
import Derived.WalkSpells
import Derived.BigGuardPart
import Derived.RegionTactic
import Derived.Deep.RegionHeld3
import Derived.Lib.Hide
import Derived.Deep.MidRow
import Derived.Below
import Derived.Deep.RegionWith
import Derived.Deep.OwnRows
import Derived.Deep.AppendLies
import Derived.Deep.RegionLaw
namespace Go.Proofs.YtgdlcnngplfjnaaDoor.Vf
open Go.ChangeShapes Go.WideShapes Go.ChangeAt Go.RowKit
set_option linter.unusedVariables false
theorem bool_false_of_ne {b : Bool} (h : ¬ b = true) : b = false := by cases b with | true => exact absurd rfl h | false => rfl
theorem forall_snoc {j : Nat} {p : Nat → Prop} (h : ∀ k, k < j → p k) (h' : p j) : ∀ k, k < j + 1 → p k := fun k hk => by
  by_cases e : k = j
  · rw [e]; exact h'
  · exact h k (by omega)
/-- The cells of n elements of one cell. -/
def els1 (n : Nat) (F : Nat → Value) : List Value := (List.range n).map F
theorem els1_len (n : Nat) (F : Nat → Value) : (els1 n F).length = n * 1 := by unfold els1; simp
theorem els1_at {n j : Nat} (F : Nat → Value) (h : j < n) : (els1 n F)[j]? = some (F j) := by unfold els1; rw [List.getElem?_map, List.getElem?_range h]; rfl
theorem els1_one (n : Nat) (F : Nat → Value) (h : ∀ i, (F i).oneCell' = true) : ∀ u ∈ els1 n F, u.oneCell' = true := fun u hu => by
  obtain ⟨i, _, rfl⟩ := List.mem_map.1 hu
  exact h i
theorem own_slice {w : World} {B e s n : Nat} {v : Value} {xs : List Value} (h : w.ownsRow B e s v n xs) : ∃ a c, v = .slice a n c := by
  rcases h.2 with ⟨rfl, rfl⟩ | ⟨g, cap, cur, rfl, _⟩
  · exact ⟨_, _, rfl⟩
  · exact ⟨_, _, rfl⟩
def CloneR (e s n : Nat) (xs : List Value) (w : World) (en : Ending) (w' : World) : Prop := ∃ a' c', en = .returned (.slice a' n c') ∧ w'.ownsRow w.heap.size e s (.slice a' n c') n xs ∧ Below w.heap.size w w'

theorem info3x : (Tryd.prog.info? 3).map (fun i => (i.zero, i.size, i.bytes)) = some (some (.int .i64 0), 1, 8) := by kernel_rfl
theorem info5x : (Tryd.prog.info? 5).map (fun i => (i.zero, i.size, i.bytes)) = some (some (.int .u8 0), 1, 1) := by kernel_rfl
set_option maxHeartbeats 2000000 in
theorem clone54_c (a : Option Addr) (n c : Nat) (F : Nat → Int) (w : World) (hn : n * 1 ≤ Big) (hr : Row1 w a n (fun i => .int .u8 (F i))) :
    Calls Tryd.prog 40 #[.slice a n c] w (CloneR 5 1 n (els1 n (fun i => .int .u8 (F i))) w) := by
  unfold Big at hn
  obtain ⟨i0, hi, hz0, hz1, hz2⟩ := info_parts info5x
  cases a with
  | none =>
    have h0 : n = 0 := by
      rcases hr with h | ⟨b, o, h, _⟩
      · exact h
      · cases h
    subst h0
    have hnil := fun W => Lib.run_eql_slice_nil (P := Tryd.prog) W 22 5 none 0 c 0 0 Tryd.underlying22
    clear hr hi hz0 hz1 hz2
    go_enter Tryd.func40, Tryd.ntmps40
    go_wp2
    go_ret
    exact ⟨none, 0, rfl, ⟨rfl, .inl ⟨rfl, rfl⟩⟩, Below.refl _ _⟩
  | some ad =>
    have hown : (w.alloc (.cells #[] 5)).ownsRow w.heap.size 5 1 (.slice (some ⟨w.heap.size, 0, none⟩) 0 0) 0 [] := World.ownsRow_made w #[] 0 (Nat.le_refl _) (by unfold maxLen; omega) rfl
    have HO := Lib.hid hown
    have HL : Hid ((els1 n (fun i => .int .u8 (F i))).length = n * 1) := Lib.hid (els1_len ..)
    have HN : Hid (∀ j u, (els1 n (fun i => .int .u8 (F i)))[j]? = some u → (w.alloc (.cells #[] 5)).cell? (ad.add j) = some u) := Lib.hid fun j u hu => by
      have hj := (List.getElem?_eq_some_iff.1 hu).1
      rcases hr with h | ⟨b, o, h, hb, hc⟩
      · subst h
        rw [els1_len, Nat.zero_mul] at hj
        exact absurd hj (Nat.not_lt_zero j)
      · obtain rfl := Option.some.inj h
        have h1 : j < n := by rw [els1_len, Nat.mul_one] at hj; exact hj
        rw [els1_at _ h1] at hu
        obtain rfl := Option.some.inj hu
        rw [Addr.add_lit, World.cell?_alloc_past _ _ _ hb]
        exact hc j h1
    have H1 : Hid (∀ u ∈ (els1 n (fun i => .int .u8 (F i))), u.oneCell' = true) := Lib.hid (els1_one _ _ (fun i => rfl))
    have hnil := fun W => Lib.run_eql_slice_nil (P := Tryd.prog) W 22 5 (some ad) n c 0 0 Tryd.underlying22
    clear hown hr
    go_enter Tryd.func40, Tryd.ntmps40
    go_wp2_with (at_builtin; refine wpList_append_own _ rfl _ _ 22 rfl w.heap.size 5 i0 _ 1 1 Tryd.underlying22 hi hz0 hz1 hz2 rfl (by decide) _ 0 [] rfl HO.out ad n c (els1 n (fun i => .int .u8 (F i))) rfl HL.out HN.out H1.out (by unfold maxLen; omega) (by omega) (by simp) ?_)
    intro v' w1 hown1 hgrow hne
    try rw [Nat.zero_add] at hown1
    try rw [List.nil_append] at hown1
    obtain ⟨a', c', rfl⟩ := own_slice hown1
    have HW := Lib.hid hown1
    have HB : Hid (Below w.heap.size w w1) := Lib.hid (((Below.refl _ _).alloc (Nat.le_refl _) _).trans ⟨hgrow.os, hgrow.tape, hgrow.output, hgrow.size, fun x hx => hgrow.block x (by simp; omega) (by simp [Value.ownBlock]; omega)⟩)
    clear hown1 hgrow hne
    go_wp2
    go_ret
    exact ⟨a', c', rfl, HW.out, HB.out⟩
/-! ### Boxes -/
def Bx (w : World) (b : Nat) (C : Array Value) (e : Nat) : Prop := w.heap[b]? = some (.cells C e (0, 0))
theorem Bx.row {w : World} {b : Nat} {C : Array Value} {e : Nat} (h : Bx w b C e) : rowAt w b = some C := rowAt_of h
theorem Bx.cell {w : World} {b : Nat} {C : Array Value} {e : Nat} (h : Bx w b C e) (k : Nat) : w.cell? ⟨b, k, none⟩ = C[k]? := rowAt_cell h.row k
theorem Bx.frz {w : World} {b : Nat} {C : Array Value} {e : Nat} (h : Bx w b C e) (k : Nat) : w.frozen? ⟨b, k, none⟩ = false := rowAt_frz h.row k
theorem Bx.lt {w : World} {b : Nat} {C : Array Value} {e : Nat} (h : Bx w b C e) : b < w.heap.size := (Array.getElem?_eq_some_iff.1 h).1
theorem Bx.below {w w' : World} {b : Nat} {C : Array Value} {e : Nat} (h : Bx w b C e) (k : Below w.heap.size w w') : Bx w' b C e := (k.block b h.lt).trans h
theorem Bx.alloc {w : World} {b : Nat} {C : Array Value} {e : Nat} (h : Bx w b C e) (o : Obj) : Bx (w.alloc o) b C e := (heap_alloc_old w o h.lt).trans h
theorem Bx.new (w : World) (C : Array Value) (e : Nat) : Bx (w.alloc (.cells C e)) w.heap.size C e := heap_alloc_new _ _
theorem Bx.drew {w : World} {b : Nat} {C : Array Value} {e : Nat} (h : Bx w b C e) : Bx w.drew b C e := h
theorem Bx.far {w : World} {b : Nat} {C : Array Value} {e : Nat} (h : Bx w b C e) {g : Nat} (hne : b ≠ g) (k : Nat) (v : Value) : Bx (w.setCell ⟨g, k, none⟩ v) b C e := (Below.heap_setCell _ _ _ _ hne).trans h
theorem Bx.set {w : World} {b : Nat} {C : Array Value} {e : Nat} (h : Bx w b C e) (k : Nat) (v : Value) : Bx (w.setCell ⟨b, k, none⟩ v) b (C.setIfInBounds k v) e := by
  rw [setCell_eq_setRow w b k C e _ v h]
  exact setRow_heap _ _ _ _ _ _ h
theorem Bx.ne {w : World} {b b' : Nat} {C C' : Array Value} {e e' : Nat} (h : Bx w b C e) (h' : Bx w b' C' e') (hne : e ≠ e') : b ≠ b' := fun q => by
  subst q
  unfold Bx at h h'
  rw [h] at h'
  injection h' with h'
  injection h' with _ h'
  exact hne h'
theorem Bx.grown {w w' : World} {b : Nat} {C : Array Value} {e : Nat} {R : Option Nat} (h : Bx w b C e) (hg : w.grownBy w' R) (hne : some b ≠ R) : Bx w' b C e := (hg.block b h.lt hne).trans h
/-! ### Rows of numbers -/
/-- The numbers l lie at a. -/
def Ints (w : World) (a : Option Addr) (l : List Int) : Prop := Row1 w a l.length fun i => .int .i64 (l.getD i 0)
theorem Ints.kept {w w' : World} {a : Option Addr} {l : List Int} (h : Ints w a l) (k : Kept w w') : Ints w' a l := Row1.kept h k
theorem Ints.nil (w : World) (a : Option Addr) : Ints w a [] := .inl rfl
theorem getD_eq {l : List Int} {i : Nat} (h : i < l.length) : l[i]? = some (l.getD i 0) := by
  rw [List.getD_eq_getElem?_getD, List.getElem?_eq_getElem h]; rfl
theorem Ints.at {w : World} {a : Option Addr} {l : List Int} (h : Ints w a l) (h0 : 0 < l.length) : ∃ b o, a = some ⟨b, o, none⟩ ∧ b < w.heap.size ∧ ∀ i, i < l.length → w.cell? ⟨b, o + i, none⟩ = some (.int .i64 (l.getD i 0)) := by
  rcases h with h | h
  · omega
  · exact h
/-- A row of numbers of one's own. -/
theorem Ints.own {w : World} {B : Nat} {a : Option Addr} {n c : Nat} {l : List Int} (h : w.ownsRow B 3 1 (.slice a n c) n (l.map (.int .i64))) (hn : l.length = n) : Ints w a l := by
  subst hn
  rcases h.2 with ⟨h1, h2⟩ | ⟨g, cap, cur, hv, hb, hg, hc, hm, hs, ht⟩
  · exact .inl h2
  · injection hv with e1 e2 e3
    subst e1
    refine .inr ⟨g, 0, rfl, (Array.getElem?_eq_some_iff.1 hg).1, fun i hi => ?_⟩
    rw [Nat.zero_add, cell_of_row w g i cur 3 _ hg]
    have h1 : (l.map (Value.int .i64))[i]? = some (.int .i64 (l.getD i 0)) := by rw [List.getElem?_map, getD_eq hi]; rfl
    rw [← ht, List.getElem?_take] at h1
    split at h1
    · simpa using h1
    · cases h1
theorem map_els (l : List Int) : els1 l.length (fun i => .int .i64 (l.getD i 0)) = l.map (.int .i64) := by
  refine List.ext_getElem? fun i => ?_
  unfold els1
  rw [List.getElem?_map, List.getElem?_map]
  by_cases h : i < l.length
  · rw [List.getElem?_range h, getD_eq h]; rfl
  · rw [List.getElem?_eq_none (by simpa using h), List.getElem?_eq_none (by simpa using h)]; rfl
theorem own_fit {w : World} {B n s c : Nat} {e : TypeId} {a : Option Addr} {xs : List Value} (h : w.ownsRow B e s (.slice a n c) n xs) : n ≤ c := by
  rcases h.2 with ⟨h1, h2⟩ | ⟨g', cap', cur, hv, hb, hg, hc, hm, hs, ht⟩
  · omega
  · injection hv with e1 e2 e3
    subst e3
    exact hc
def NewInts (l : List Int) (w : World) (e : Ending) (w' : World) : Prop := ∃ a c, e = .returned (.slice a l.length c) ∧ Ints w' a l ∧ l.length ≤ c ∧ (∀ p, a = some p → w.heap.size ≤ p.block) ∧ Below w.heap.size w w'
theorem own_past0 {w : World} {B n s c : Nat} {e : TypeId} {a : Option Addr} {xs : List Value} (h : w.ownsRow B e s (.slice a n c) n xs) : ∀ p, a = some p → B ≤ p.block := fun p hp => by
  rcases h.2 with ⟨h1, h2⟩ | ⟨g', cap', cur, hv, hb, hg, hc, hm, hs, ht⟩
  · injection h1 with h1
    rw [h1] at hp
    cases hp
  · injection hv with e1
    rw [e1] at hp
    injection hp with hp
    subst hp
    exact hb
theorem list_getD_ext {l m : List Int} (hl : l.length = m.length) (h : ∀ i, i < l.length → l.getD i 0 = m.getD i 0) : l = m := by
  refine List.ext_getElem? fun i => ?_
  by_cases hi : i < l.length
  · rw [getD_eq hi, getD_eq (hl ▸ hi), h i hi]
  · rw [List.getElem?_eq_none (by omega), List.getElem?_eq_none (by omega)]
end Go.Proofs.YtgdlcnngplfjnaaDoor.Vf
