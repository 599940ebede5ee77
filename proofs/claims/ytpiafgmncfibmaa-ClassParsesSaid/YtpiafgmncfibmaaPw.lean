import Derived.Test.YtpiafgmncfibmaaPv
import Derived.Test.YtpiafgmncfibmaaCc
import Derived.Test.YtpiafgmncfibmaaRows
import Derived.WalkKit
import Derived.ProofKit
import Derived.OpenShut
import Derived.Deep.QuietTactic
import Derived.BigQuiet
import Derived.Outline
import Derived.WalkSmall
import Derived.WalkLawsBesides
import Derived.WalkSpells
import Derived.BigGuardPart
import Derived.RegionTactic
import Derived.Deep.RegionHeld3
import Derived.Lib.Hide
import Derived.Deep.MidRow
import Derived.Below
import Derived.Deep.RegionWith
import Derived.Deep.OwnRows
import Derived.Deep.AppendLies
import Derived.Deep.RegionLaw
namespace Go.Proofs.Ytpiafgmncfibmaa
open Go.ChangeShapes Go.WideShapes Go.ChangeAt Go.RowKit
set_option linter.unusedVariables false

/-- xs stands in d from k on. -/
def At (d : Nat → Nat) (k : Nat) (xs : List Int) : Prop := ∀ j x, xs[j]? = some x → ((d (k + j) : Nat) : Int) = x
theorem At_app {d : Nat → Nat} {k : Nat} {xs ys : List Int} : At d k (xs ++ ys) ↔ At d k xs ∧ At d (k + xs.length) ys := by
  constructor
  · intro h
    refine ⟨fun j x hx => h j x ?_, fun j x hx => ?_⟩
    · rw [List.getElem?_append_left (List.getElem?_eq_some_iff.1 hx).1]; exact hx
    · have := h (xs.length + j) x (by rw [List.getElem?_append_right (by omega), Nat.add_sub_cancel_left]; exact hx)
      rwa [← Nat.add_assoc] at this
  · rintro ⟨h1, h2⟩ j x hx
    by_cases hj : j < xs.length
    · rw [List.getElem?_append_left hj] at hx; exact h1 j x hx
    · rw [List.getElem?_append_right (by omega)] at hx
      have := h2 _ x hx
      rwa [Nat.add_assoc, Nat.add_sub_of_le (by omega)] at this
theorem At_one {d : Nat → Nat} {k : Nat} {x : Int} : At d k [x] ↔ ((d k : Nat) : Int) = x := by
  constructor
  · intro h; exact h 0 x rfl
  · intro h j y hy
    have hj := (List.getElem?_eq_some_iff.1 hy).1
    obtain rfl : j = 0 := by simp at hj; omega
    simp at hy
    rw [← hy]
    exact h
theorem At_map {d : Nat → Nat} {k m : Nat} {f : Nat → Int} : At d k ((List.range m).map f) ↔ ∀ i, i < m → ((d (k + i) : Nat) : Int) = f i := by
  constructor
  · intro h i hi
    exact h i _ (by rw [List.getElem?_map, List.getElem?_range hi]; rfl)
  · intro h j x hx
    have hj := (List.getElem?_eq_some_iff.1 hx).1
    rw [List.length_map, List.length_range] at hj
    rw [List.getElem?_map, List.getElem?_range hj] at hx
    rw [h j hj]
    exact Option.some.inj hx
theorem At_flat {d : Nat → Nat} {k : Nat} {g : Nat → List Int} : ∀ {m : Nat}, At d k ((List.range m).flatMap g) ↔ ∀ i, i < m → At d (k + sumN (fun i => (g i).length) i) (g i)
  | 0 => ⟨fun _ i hi => absurd hi (Nat.not_lt_zero i), fun _ j x hx => by simp at hx⟩
  | m + 1 => by
    have e : (List.range (m + 1)).flatMap g = (List.range m).flatMap g ++ g m := by rw [List.range_succ, List.flatMap_append]; simp
    have el : ∀ m, ((List.range m).flatMap g).length = sumN (fun i => (g i).length) m := fun m => by
      induction m with
      | zero => rfl
      | succ m ih => rw [List.range_succ, List.flatMap_append, List.length_append, ih]; simp [sumN]
    rw [e, At_app, At_flat (m := m), el]
    constructor
    · rintro ⟨h1, h2⟩ i hi
      by_cases hm : i = m
      · subst hm; exact h2
      · exact h1 i (by omega)
    · intro h
      exact ⟨fun i hi => h i (by omega), h m (by omega)⟩
def pC (P : Pg) (i : Nat) : Nat := 6 + 8 * P.np + sumN (fun i => 1 + P.nf i) i
def pM (P : Pg) (i : Nat) : Nat := 7 + 8 * P.np + sumN (fun i => 1 + P.nf i) P.nc + sumN (fun i => 6 + P.pn i + P.ln i + P.cn i) i
/-- The bytes of a method at k. -/
structure BM (d : Nat → Nat) (P : Pg) (i k : Nat) : Prop where
  pn : ((d k : Nat) : Int) = (P.pn i : Nat) % 256
  pt : ∀ j, j < P.pn i → ((d (k + 1 + j) : Nat) : Int) = P.pt i j % 256
  rt : ((d (k + 1 + P.pn i) : Nat) : Int) = P.rt i % 256
  ln : ((d (k + 2 + P.pn i) : Nat) : Int) = (P.ln i : Nat) % 256
  lt : ∀ j, j < P.ln i → ((d (k + 3 + P.pn i + j) : Nat) : Int) = P.lt i j % 256
  sk : ((d (k + 3 + P.pn i + P.ln i) : Nat) : Int) = P.sk i % 256
  c0 : ((d (k + 4 + P.pn i + P.ln i) : Nat) : Int) = (P.cn i : Nat) % 256
  c1 : ((d (k + 5 + P.pn i + P.ln i) : Nat) : Int) = (P.cn i : Nat) / 256
  cd : ∀ j, j < P.cn i → d (k + 6 + P.pn i + P.ln i + j) = P.cd i j
structure BA (d : Nat → Nat) (P : Pg) : Prop where
  m : ∀ i, i < 4 → d i = magN i
  np : d 4 = P.np
  po : ∀ i, i < P.np → ∀ k, k < 8 → ((d (5 + 8 * i + k) : Nat) : Int) = P.po i / 2 ^ (8 * k) % 256
  nc : d (5 + 8 * P.np) = P.nc
  nf : ∀ i, i < P.nc → d (pC P i) = P.nf i
  fd : ∀ i, i < P.nc → ∀ j, j < P.nf i → ((d (pC P i + 1 + j) : Nat) : Int) = fldV (P.ft i j) (P.fv i j)
  nm : d (6 + 8 * P.np + sumN (fun i => 1 + P.nf i) P.nc) = P.nm
  me : ∀ i, i < P.nm → BM d P i (pM P i)
theorem pos_eq {d : Nat → Nat} {k k' : Nat} {xs : List Int} (h : At d k xs) (e : k = k') : At d k' xs := e ▸ h
theorem one_eq {d : Nat → Nat} {k k' : Nat} {x : Int} (h : At d k [x]) (e : k = k') : ((d k' : Nat) : Int) = x := At_one.1 (e ▸ h)
theorem eq_one {d : Nat → Nat} {k k' : Nat} {x : Int} (h : ((d k' : Nat) : Int) = x) (e : k = k') : At d k [x] := by subst e; exact At_one.2 h
theorem sum_pool (n : Nat) : ∀ (F : Nat → Int) , sumN (fun i => (numB (F i) 8).length) n = 8 * n := fun F => by
  induction n with
  | zero => rfl
  | succ n ih => show sumN _ n + (numB (F n) 8).length = _; rw [ih, numB_len]; omega
theorem sumN_congr {F G : Nat → Nat} : ∀ {n : Nat}, (∀ i, i < n → F i = G i) → sumN F n = sumN G n
  | 0, _ => rfl
  | n + 1, h => by show sumN F n + F n = sumN G n + G n; rw [sumN_congr fun i hi => h i (by omega), h n (by omega)]
theorem bm_iff {d : Nat → Nat} {P : Pg} {i k : Nat} : At d k (P.mthB i) ↔ BM d P i k := by
  unfold Pg.mthB tysB codeB
  rw [show ([P.sk i % 256, ((P.cn i : Nat) : Int) % 256, ((P.cn i : Nat) : Int) / 256] : List Int) = [P.sk i % 256] ++ [((P.cn i : Nat) : Int) % 256] ++ [((P.cn i : Nat) : Int) / 256] from rfl]
  simp only [At_app, At_map, List.length_append, List.length_map, List.length_range, List.length_cons, List.length_nil]
  constructor
  · rintro ⟨⟨⟨⟨⟨h1, h2⟩, h3⟩, h4, h5⟩, ⟨h6, h7⟩, h8⟩, h9⟩
    exact ⟨one_eq h1 rfl, fun j hj => by rw [← h2 j hj], one_eq h3 (by omega), one_eq h4 (by omega), fun j hj => by rw [← h5 j hj]; congr 2 <;> omega, one_eq h6 (by omega), one_eq h7 (by omega), one_eq h8 (by omega), fun j hj => by
      have := h9 j hj
      have e : k + 6 + P.pn i + P.ln i + j = k + (0 + 1 + P.pn i + (0 + 1) + (0 + 1 + P.ln i) + (0 + 1 + (0 + 1) + (0 + 1))) + j := by omega
      rw [e]
      exact Int.ofNat.inj this⟩
  · intro h
    refine ⟨⟨⟨⟨⟨eq_one h.pn rfl, fun j hj => ?_⟩, eq_one h.rt (by omega)⟩, eq_one h.ln (by omega), fun j hj => ?_⟩, ⟨eq_one h.sk (by omega), eq_one h.c0 (by omega)⟩, eq_one h.c1 (by omega)⟩, fun j hj => ?_⟩
    · rw [← h.pt j hj]
    · rw [← h.lt j hj]; congr 2 <;> omega
    · rw [← h.cd j hj]; congr 2 <;> omega
theorem ba_iff {d : Nat → Nat} {P : Pg} : At d 0 P.bytes ↔ BA d P := by
  have e1 : ∀ i, ([((P.nf i : Nat) : Int)] ++ fldsB (P.ft i) (P.fv i) (P.nf i)).length = 1 + P.nf i := fun i => by simp [fldsB]; omega
  have e2 : ∀ i, (P.mthB i).length = 6 + P.pn i + P.ln i + P.cn i := mthB_len P
  unfold Pg.bytes
  rw [show ([66, 90, 82, 49] : List Int) = (List.range 4).map fun i => ((magN i : Nat) : Int) from rfl]
  simp only [At_app, At_map, List.length_append, List.length_map, List.length_range, List.length_cons, List.length_nil, poolB_len, clsB_len]
  unfold poolB clsB Pg.mthsB
  simp only [At_flat, sum_pool, e1, e2]
  unfold numB
  simp only [At_app, At_map, List.length_cons, List.length_nil]
  unfold fldsB
  simp only [At_map, bm_iff]
  constructor
  · rintro ⟨⟨⟨⟨⟨⟨h1, h2⟩, h3⟩, h4⟩, h5⟩, h6⟩, h7⟩
    refine ⟨fun i hi => ?_, ?_, fun i hi k hk => ?_, ?_, fun i hi => ?_, fun i hi j hj => ?_, ?_, fun i hi => ?_⟩
    · have := h1 i hi
      rw [Nat.zero_add] at this
      exact Int.ofNat.inj this
    · exact Int.ofNat.inj (one_eq h2 (by omega))
    · rw [← h3 i hi k hk]
    · exact Int.ofNat.inj (one_eq h4 (by omega))
    · exact Int.ofNat.inj (one_eq (h5 i hi).1 (by unfold pC; omega))
    · rw [← (h5 i hi).2 j hj]; congr 2; unfold pC; omega
    · exact Int.ofNat.inj (one_eq h6 (by omega))
    · have := h7 i hi
      rw [show pM P i = 0 + (4 + (0 + 1) + 8 * P.np + (0 + 1) + sumN (fun i => 1 + P.nf i) P.nc + (0 + 1)) + sumN (fun i => 6 + P.pn i + P.ln i + P.cn i) i by unfold pM; omega]
      exact this
  · intro h
    refine ⟨⟨⟨⟨⟨⟨fun i hi => ?_, ?_⟩, fun i hi k hk => ?_⟩, ?_⟩, fun i hi => ⟨?_, fun j hj => ?_⟩⟩, ?_⟩, fun i hi => ?_⟩
    · rw [Nat.zero_add, h.m i hi]
    · exact eq_one (congrArg Int.ofNat h.np) (by omega)
    · rw [← h.po i hi k hk]
    · exact eq_one (congrArg Int.ofNat h.nc) (by omega)
    · exact eq_one (congrArg Int.ofNat (h.nf i hi)) (by unfold pC; omega)
    · rw [← h.fd i hi j hj]; congr 2; unfold pC; omega
    · exact eq_one (congrArg Int.ofNat h.nm) (by omega)
    · have := h.me i hi
      rw [show pM P i = 0 + (4 + (0 + 1) + 8 * P.np + (0 + 1) + sumN (fun i => 1 + P.nf i) P.nc + (0 + 1)) + sumN (fun i => 6 + P.pn i + P.ln i + P.cn i) i by unfold pM; omega] at this
      exact this
end Go.Proofs.Ytpiafgmncfibmaa
