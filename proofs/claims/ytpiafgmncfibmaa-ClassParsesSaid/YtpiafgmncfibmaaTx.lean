import Derived.Test.YtpiafgmncfibmaaTw
import Derived.Test.YtpiafgmncfibmaaRows
import Derived.WalkKit
import Derived.ProofKit
import Derived.OpenShut
import Derived.Deep.QuietTactic
import Derived.BigQuiet
import Derived.Outline
import Derived.WalkSmall
import Derived.WalkLawsBesides
import Derived.WalkSpells
import Derived.BigGuardPart
import Derived.RegionTactic
import Derived.Deep.RegionHeld3
import Derived.Lib.Hide
import Derived.Deep.MidRow
import Derived.Below
import Derived.Deep.RegionWith
import Derived.Deep.OwnRows
import Derived.Deep.AppendLies
namespace Go.Proofs.Ytpiafgmncfibmaa
open Go.ChangeShapes Go.WideShapes Go.ChangeAt Go.RowKit
set_option linter.unusedVariables false

/-- Each block of e's is as it was. -/
def KeepT (e : Nat) (w w' : World) : Prop := ∀ (g : Nat) (C : Array Value) (f : Nat × Nat), w.heap[g]? = some (Obj.cells C e f) → w'.heap[g]? = some (Obj.cells C e f)
theorem KeepT.refl (e : Nat) (w : World) : KeepT e w w := fun _ _ _ h => h
theorem KeepT.trans {e : Nat} {a b c : World} (h : KeepT e a b) (h' : KeepT e b c) : KeepT e a c := fun g C f x => h' g C f (h g C f x)
theorem KeepT.below {e : Nat} {w w' : World} (h : Below w.heap.size w w') : KeepT e w w' := fun g C f x => by
  rw [h.block g (Array.getElem?_eq_some_iff.1 x).1]; exact x
theorem KeepT.alloc {e : Nat} (w : World) (o : Obj) : KeepT e w (w.alloc o) := fun g C f x => (heap_alloc_old w o (Array.getElem?_eq_some_iff.1 x).1).trans x
theorem KeepT.drew {e : Nat} (w : World) : KeepT e w w.drew := fun _ _ _ x => x
theorem KeepT.grown {e e' : Nat} {w w' : World} {r : Option Nat} (h : w.grownBy w' r) (hr : ∀ g, r = some g → ∃ (C : Array Value) (f : Nat × Nat), w.heap[g]? = some (Obj.cells C e' f)) (hne : e' ≠ e) : KeepT e w w' := fun g C f x => by
  rw [h.block g (Array.getElem?_eq_some_iff.1 x).1 (fun heq => ?_)]
  · exact x
  · obtain ⟨C', f', h'⟩ := hr g heq.symm
    rw [h'] at x
    injection x with x
    injection x with _ x2 _
    exact hne x2
theorem own_keep {w w' : World} {B e s n : Nat} {v : Value} {xs : List Value} (h : w.ownsRow B e s v n xs) (k : KeepT e w w') : w'.ownsRow B e s v n xs := by
  refine ⟨h.1, ?_⟩
  rcases h.2 with h1 | ⟨g, cap, cur, hv, hb, hg, r⟩
  · exact .inl h1
  · exact .inr ⟨g, cap, cur, hv, hb, k g _ _ hg, r⟩
theorem own_mono {w : World} {B B' e s n : Nat} {v : Value} {xs : List Value} (h : w.ownsRow B e s v n xs) (hb : B' ≤ B) : w.ownsRow B' e s v n xs := by
  refine ⟨h.1, ?_⟩
  rcases h.2 with h1 | ⟨g, cap, cur, hv, hbg, r⟩
  · exact .inl h1
  · exact .inr ⟨g, cap, cur, hv, Nat.le_trans hb hbg, r⟩
theorem own_typed {w : World} {B e s n : Nat} {v : Value} {xs : List Value} (h : w.ownsRow B e s v n xs) : ∀ g, v.ownBlock = some g → ∃ (C : Array Value) (f : Nat × Nat), w.heap[g]? = some (Obj.cells C e f) := by
  intro g hg
  rcases h.2 with ⟨rfl, _⟩ | ⟨g', cap, cur, rfl, hb, hw, _⟩
  · cases hg
  · obtain rfl := Option.some.inj hg
    exact ⟨_, _, hw⟩
/-- A box of one's own. -/
def BoxT (w : World) (b : Nat) (C : Array Value) (e : Nat) : Prop := w.heap[b]? = some (.cells C e (0, 0))
theorem BoxT.keep {w w' : World} {b : Nat} {C : Array Value} {e : Nat} (h : BoxT w b C e) (k : KeepT e w w') : BoxT w' b C e := k b C _ h
theorem BoxT.row {w : World} {b : Nat} {C : Array Value} {e : Nat} (h : BoxT w b C e) : rowAt w b = some C := rowAt_of h
theorem BoxT.cell {w : World} {b : Nat} {C : Array Value} {e : Nat} (h : BoxT w b C e) (k : Nat) : w.cell? ⟨b, k, none⟩ = C[k]? := rowAt_cell h.row k
theorem BoxT.lt {w : World} {b : Nat} {C : Array Value} {e : Nat} (h : BoxT w b C e) : b < w.heap.size := (Array.getElem?_eq_some_iff.1 h).1
theorem BoxT.set {w : World} {b : Nat} {C : Array Value} {e : Nat} (h : BoxT w b C e) (k : Nat) (v : Value) : BoxT (w.setCell ⟨b, k, none⟩ v) b (C.setIfInBounds k v) e := by
  unfold BoxT
  rw [setCell_eq_setRow w b k C e _ v h]
  exact setRow_heap _ _ _ _ _ _ h
theorem KeepT.set {e e' : Nat} {w : World} {b k : Nat} {v : Value} {C : Array Value} (h : BoxT w b C e') (hne : e' ≠ e) : KeepT e w (w.setCell ⟨b, k, none⟩ v) :=
  KeepT.grown (grown_set w ⟨b, k, none⟩ v) (fun g hg => by obtain rfl := Option.some.inj hg; exact ⟨C, _, h⟩) hne
/-- The five cells of each of n methods. -/
def els5 (n : Nat) (M : Nat → List Value) : List Value := (List.range n).flatMap M
theorem els5_succ (n : Nat) (M : Nat → List Value) : els5 (n + 1) M = els5 n M ++ M n := by unfold els5; rw [List.range_succ, List.flatMap_append]; simp
theorem els1_succ (n : Nat) (F : Nat → Value) : els1 (n + 1) F = els1 n F ++ [F n] := by unfold els1; rw [List.range_succ, List.map_append]; rfl
theorem els1_congr {n : Nat} {F G : Nat → Value} (h : ∀ i, i < n → F i = G i) : els1 n F = els1 n G := List.map_congr_left fun i hi => h i (List.mem_range.1 hi)
theorem els5_congr {n : Nat} {F G : Nat → List Value} (h : ∀ i, i < n → F i = G i) : els5 n F = els5 n G := by
  induction n with
  | zero => rfl
  | succ n ih => rw [els5_succ, els5_succ, ih fun i hi => h i (by omega), h n (by omega)]
def Pg.mcells (P : Pg) (A : Ad) (i : Nat) : List Value := [.slice (A.ppa i) (P.pn i) (A.ppc i), .int .i64 (P.rt i), .slice (A.lla i) (P.ln i) (A.llc i), .int .i64 (P.sk i), .slice (A.cda i) (P.cn i) (A.cdc i)]
/-- A program's rows are one's own. -/
structure PgOwn (lo : Nat) (w : World) (P : Pg) (A : Ad) : Prop where
  p : w.ownsRow lo 2 1 (.slice A.pa P.np A.pc) P.np (els1 P.np fun i => .int .i64 (P.po i))
  k : w.ownsRow lo 45 1 (.slice A.ca P.nc A.cc) P.nc (els1 P.nc fun i => .slice (A.fa i) (P.nf i) (A.fc i))
  f : ∀ i, i < P.nc → w.ownsRow lo 47 2 (.slice (A.fa i) (P.nf i) (A.fc i)) (P.nf i) (els2 (P.nf i) (fun j => .int .i64 (P.ft i j)) (fun j => .bool (P.fv i j)))
  m : w.ownsRow lo 50 5 (.slice A.ma P.nm A.mc) P.nm (els5 P.nm (P.mcells A))
  a : ∀ i, i < P.nm → w.ownsRow lo 3 1 (.slice (A.ppa i) (P.pn i) (A.ppc i)) (P.pn i) (els1 (P.pn i) fun j => .int .i64 (P.pt i j))
  l : ∀ i, i < P.nm → w.ownsRow lo 3 1 (.slice (A.lla i) (P.ln i) (A.llc i)) (P.ln i) (els1 (P.ln i) fun j => .int .i64 (P.lt i j))
  d : ∀ i, i < P.nm → w.ownsRow lo 5 1 (.slice (A.cda i) (P.cn i) (A.cdc i)) (P.cn i) (els1 (P.cn i) fun j => .int .u8 (P.cd i j : Nat))
theorem own_cell {w : World} {B e s n : Nat} {a : Option Addr} {c : Nat} {xs : List Value} (h : w.ownsRow B e s (.slice a n c) n xs) : n = 0 ∨ ∃ g, a = some ⟨g, 0, none⟩ ∧ B ≤ g ∧ g < w.heap.size ∧ ∀ (j : Nat) (u : Value), xs[j]? = some u → w.cell? ⟨g, j, none⟩ = some u := by
  rcases h.2 with ⟨hv, h0⟩ | ⟨g, cap, cur, hv, hb, hg, hn, hm, hs, ht⟩
  · exact .inl h0
  · injection hv with h1 h2 h3
    refine .inr ⟨g, h1, hb, (Array.getElem?_eq_some_iff.1 hg).1, fun j u hu => ?_⟩
    rw [cell_of_row w g j cur e _ hg]
    rw [← ht, List.getElem?_take] at hu
    split at hu
    · simpa using hu
    · cases hu
theorem els5_len (n : Nat) (M : Nat → List Value) (h : ∀ i, (M i).length = 5) : (els5 n M).length = n * 5 := by
  induction n with
  | zero => rfl
  | succ n ih => rw [els5_succ, List.length_append, ih, h]; omega
theorem els5_get {n i : Nat} (M : Nat → List Value) (h : ∀ i, (M i).length = 5) (hi : i < n) (k : Nat) (hk : k < 5) : (els5 n M)[i * 5 + k]? = (M i)[k]? := by
  induction n with
  | zero => omega
  | succ n ih =>
    rw [els5_succ]
    by_cases h' : i < n
    · rw [List.getElem?_append_left (by rw [els5_len _ _ h]; omega)]; exact ih h'
    · obtain rfl : i = n := by omega
      rw [List.getElem?_append_right (by rw [els5_len _ _ h]; omega), els5_len _ _ h, Nat.add_sub_cancel_left]
theorem own_row1 {w : World} {B e n : Nat} {a : Option Addr} {c : Nat} {F : Nat → Value} (h : w.ownsRow B e 1 (.slice a n c) n (els1 n F)) : Row1 w a n F := by
  rcases own_cell h with h0 | ⟨g, ha, _, hl, hc⟩
  · exact .inl h0
  · exact .inr ⟨g, 0, ha, hl, fun i hi => by rw [Nat.zero_add]; exact hc i _ (els1_at _ hi)⟩
theorem own_row2 {w : World} {B e n : Nat} {a : Option Addr} {c : Nat} {F G : Nat → Value} (h : w.ownsRow B e 2 (.slice a n c) n (els2 n F G)) : Row2 w a n F G := by
  rcases own_cell h with h0 | ⟨g, ha, _, hl, hc⟩
  · exact .inl h0
  · exact .inr ⟨g, 0, ha, hl, fun i hi => by rw [Nat.zero_add]; exact ⟨hc _ _ (els2_get F G hi).1, hc _ _ (els2_get F G hi).2⟩⟩
/-- Such a program lies there. -/
theorem PgOwn.at {lo : Nat} {w : World} {P : Pg} {A : Ad} (h : PgOwn lo w P A) : PgAt w P A := by
  refine ⟨own_row1 h.p, own_row1 h.k, fun i hi => own_row2 (h.f i hi), ?_, fun i hi => own_row1 (h.a i hi), fun i hi => own_row1 (h.l i hi), fun i hi => own_row1 (h.d i hi)⟩
  rcases own_cell h.m with h0 | ⟨g, ha, _, hl, hc⟩
  · exact .inl h0
  · have hg := fun i (hi : i < P.nm) k hk => els5_get (P.mcells A) (fun i => rfl) hi k hk
    refine .inr ⟨g, 0, ha, hl, fun i hi => ?_⟩
    rw [Nat.zero_add]
    exact ⟨hc _ _ (hg i hi 0 (by decide)), hc _ _ (hg i hi 1 (by decide)), hc _ _ (hg i hi 2 (by decide)), hc _ _ (hg i hi 3 (by decide)), hc _ _ (hg i hi 4 (by decide))⟩
end Go.Proofs.Ytpiafgmncfibmaa
