import Derived.Test.YtjcbhomfggjmhaaMj
import Derived.Deep.QuietTactic
import Derived.RegionTactic
import Derived.Deep.RegionHeld3
namespace Go.Proofs.Ytjcbhomfggjmhaa.Mm
open Go.ChangeShapes Go.WideShapes Go.ChangeAt Go.RowKit
set_option linter.unusedVariables false
def regCell (A S : Nat → Nat) (W X : Nat → Bool) (p : Nat) : Value := if p % 4 = 0 then .int .u64 (A (p / 4) : Nat) else if p % 4 = 1 then .int .u64 (S (p / 4) : Nat) else if p % 4 = 2 then .bool (W (p / 4)) else .bool (X (p / 4))
def regCells (A S : Nat → Nat) (W X : Nat → Bool) (n : Nat) : List Value := (List.range (n * 4)).map (regCell A S W X)
def RegsAt (w : World) (rb n : Nat) (A S : Nat → Nat) (W X : Nat → Bool) : Prop := ∀ p, p < n * 4 → w.cell? ⟨rb, p, none⟩ = some (regCell A S W X p)
theorem RegsAt.four {w : World} {rb n : Nat} {A S : Nat → Nat} {W X : Nat → Bool} (h : RegsAt w rb n A S W X) (j : Nat) (hj : j < n) :
    w.cell? ⟨rb, j * 4, none⟩ = some (.int .u64 (A j : Nat)) ∧ w.cell? ⟨rb, j * 4 + 1, none⟩ = some (.int .u64 (S j : Nat)) ∧ w.cell? ⟨rb, j * 4 + 2, none⟩ = some (.bool (W j)) ∧ w.cell? ⟨rb, j * 4 + 3, none⟩ = some (.bool (X j)) := by
  refine ⟨?_, ?_, ?_, ?_⟩
  · rw [h _ (by omega)]; unfold regCell; rw [if_pos (by omega), Nat.mul_div_cancel _ (by decide)]
  · rw [h _ (by omega)]; unfold regCell; rw [if_neg (by omega), if_pos (by omega), show (j * 4 + 1) / 4 = j by omega]
  · rw [h _ (by omega)]; unfold regCell; rw [if_neg (by omega), if_neg (by omega), if_pos (by omega), show (j * 4 + 2) / 4 = j by omega]
  · rw [h _ (by omega)]; unfold regCell; rw [if_neg (by omega), if_neg (by omega), if_neg (by omega), show (j * 4 + 3) / 4 = j by omega]
theorem RegsAt.below {w w' : World} {rb n N : Nat} {A S : Nat → Nat} {W X : Nat → Bool} (h : RegsAt w rb n A S W X) (hb : Below N w w') (hg : rb < N) : RegsAt w' rb n A S W X := fun p hp => (hb.cell (p := ⟨rb, p, none⟩) hg).trans (h p hp)
theorem regCell_one (A S : Nat → Nat) (W X : Nat → Bool) (n : Nat) : ∀ u ∈ regCells A S W X n, u.oneCell' = true := by
  intro u hu
  unfold regCells at hu
  obtain ⟨p, _, rfl⟩ := List.mem_map.1 hu
  unfold regCell
  split
  · rfl
  · split
    · rfl
    · split <;> rfl
theorem regCells_get (A S : Nat → Nat) (W X : Nat → Bool) (n j : Nat) (u : Value) (h : (regCells A S W X n)[j]? = some u) : j < n * 4 ∧ u = regCell A S W X j := by
  unfold regCells at h
  rw [List.getElem?_map] at h
  obtain ⟨p, hp, rfl⟩ := Option.map_eq_some_iff.1 h
  obtain ⟨h1, h2⟩ := List.getElem?_eq_some_iff.1 hp
  simp at h1 h2
  subst h2
  exact ⟨h1, rfl⟩
def CmpP (w : World) (e : Ending) (w' : World) : Prop := ∃ r : Int, 0 ≤ r ∧ r ≤ 1 ∧ e = .returned (.int .i64 r) ∧ Below w.heap.size w w'
theorem byPlace_c (a b s t : Nat) (p q r u : Bool) (w : World) (h : b ≤ a) : Calls Try.prog 23 #[.agg #[.int .u64 a, .int .u64 s, .bool p, .bool q], .agg #[.int .u64 b, .int .u64 t, .bool r, .bool u]] w (CmpP w) := by
  have d1 : decide (a < b) = false := decide_eq_false (by omega)
  by_cases hab : b < a
  · have d2 : decide (b < a) = true := decide_eq_true hab
    go_enter Try.func23, Try.ntmps23
    go_wp2
    go_ret
    exact ⟨1, by omega, by omega, rfl, ((Below.refl _ _).alloc (Nat.le_refl _) _).alloc (by simp) _⟩
  · have d2 : decide (b < a) = false := decide_eq_false hab
    go_enter Try.func23, Try.ntmps23
    go_wp2
    go_ret
    exact ⟨0, by omega, by omega, rfl, ((Below.refl _ _).alloc (Nat.le_refl _) _).alloc (by simp) _⟩
theorem byPlace_l (a b s t : Nat) (p q r u : Bool) (w : World) (h : a < b) : Calls Try.prog 23 #[.agg #[.int .u64 a, .int .u64 s, .bool p, .bool q], .agg #[.int .u64 b, .int .u64 t, .bool r, .bool u]] w fun e w' => e = .returned (.int .i64 (-1)) ∧ Below w.heap.size w w' := by
  have d1 : decide (a < b) = true := decide_eq_true h
  go_enter Try.func23, Try.ntmps23
  go_wp2
  go_ret
  exact ⟨rfl, ((Below.refl _ _).alloc (Nat.le_refl _) _).alloc (by simp) _⟩
theorem cell_set (w : World) (g o p : Nat) (v : Value) (h : (w.cell? ⟨g, o, none⟩).isSome = true) : (w.setCell ⟨g, o, none⟩ v).cell? ⟨g, p, none⟩ = if p = o then some v else w.cell? ⟨g, p, none⟩ := by
  obtain ⟨x, hx⟩ := Option.isSome_iff_exists.1 h
  by_cases hp : p = o
  · rw [if_pos hp, hp]; exact World.cell?_setCell_same _ _ _ hx
  · rw [if_neg hp]; exact World.cell?_setCell_other _ _ _ _ (fun e => hp (by injection e with _ e2; exact e2.symm))
theorem some_set (w : World) (g o p : Nat) (v : Value) (h : (w.cell? ⟨g, p, none⟩).isSome = true) : ((w.setCell ⟨g, o, none⟩ v).cell? ⟨g, p, none⟩).isSome = true := by
  by_cases hp : p = o
  · subst hp
    rw [cell_set w g p p v h, if_pos rfl]; rfl
  · rw [World.cell?_setCell_other _ _ _ _ (fun e => hp (by injection e with _ e2; exact e2.symm))]; exact h
theorem four_cell (w : World) (g o p : Nat) (x0 x1 x2 x3 : Value) (h : ∀ i, i < 4 → (w.cell? ⟨g, o + i, none⟩).isSome = true) :
    ((((w.setCell ⟨g, o, none⟩ x0).setCell ⟨g, o + 1, none⟩ x1).setCell ⟨g, o + 2, none⟩ x2).setCell ⟨g, o + 3, none⟩ x3).cell? ⟨g, p, none⟩ = if p = o + 3 then some x3 else if p = o + 2 then some x2 else if p = o + 1 then some x1 else if p = o then some x0 else w.cell? ⟨g, p, none⟩ := by
  have h0 := h 0 (by omega)
  have h1 := some_set w g o (o + 1) x0 (h 1 (by omega))
  have h2 := some_set _ g (o + 1) (o + 2) x1 (some_set w g o (o + 2) x0 (h 2 (by omega)))
  have h3 := some_set _ g (o + 2) (o + 3) x2 (some_set _ g (o + 1) (o + 3) x1 (some_set w g o (o + 3) x0 (h 3 (by omega))))
  rw [cell_set _ g (o + 3) p x3 h3, cell_set _ g (o + 2) p x2 h2, cell_set _ g (o + 1) p x1 h1, cell_set _ g o p x0 h0]
def sw {α : Type} (f : Nat → α) (m x : Nat) : α := if x = m then f (m + 1) else if x = m + 1 then f m else f x
theorem swap_regs {w : World} {g n m : Nat} {A S : Nat → Nat} {W X : Nat → Bool} (h : RegsAt w g n A S W X) (hm : m + 1 < n) :
    RegsAt ((((((((w.setCell ⟨g, (m + 1) * 4, none⟩ (.int .u64 (A m : Nat))).setCell ⟨g, (m + 1) * 4 + 1, none⟩ (.int .u64 (S m : Nat))).setCell ⟨g, (m + 1) * 4 + 2, none⟩ (.bool (W m))).setCell ⟨g, (m + 1) * 4 + 3, none⟩ (.bool (X m))).setCell ⟨g, m * 4, none⟩ (.int .u64 (A (m + 1) : Nat))).setCell ⟨g, m * 4 + 1, none⟩ (.int .u64 (S (m + 1) : Nat))).setCell ⟨g, m * 4 + 2, none⟩ (.bool (W (m + 1)))).setCell ⟨g, m * 4 + 3, none⟩ (.bool (X (m + 1)))) g n (sw A m) (sw S m) (sw W m) (sw X m) := by
  have hs : ∀ p, p < n * 4 → (w.cell? ⟨g, p, none⟩).isSome = true := fun p hp => by rw [h p hp]; rfl
  intro p hp
  have f1 := four_cell w g ((m + 1) * 4) p (.int .u64 (A m : Nat)) (.int .u64 (S m : Nat)) (.bool (W m)) (.bool (X m)) (fun i hi => hs _ (by omega))
  have f2 := fun i (hi : i < 4) => four_cell w g ((m + 1) * 4) (m * 4 + i) (.int .u64 (A m : Nat)) (.int .u64 (S m : Nat)) (.bool (W m)) (.bool (X m)) (fun i hi => hs _ (by omega))
  rw [four_cell _ g (m * 4) p _ _ _ _ (fun i hi => by rw [f2 i hi, if_neg (by omega), if_neg (by omega), if_neg (by omega), if_neg (by omega)]; exact hs _ (by omega)), f1, h p hp]
  have hc : p / 4 = m ∨ p / 4 = m + 1 ∨ (p / 4 ≠ m ∧ p / 4 ≠ m + 1) := by omega
  have h4 : p % 4 = 0 ∨ p % 4 = 1 ∨ p % 4 = 2 ∨ p % 4 = 3 := by omega
  rcases hc with hc | hc | ⟨hc1, hc2⟩
  · rcases h4 with h4 | h4 | h4 | h4
    · rw [if_neg (by omega), if_neg (by omega), if_neg (by omega), if_pos (by omega)]
      unfold regCell sw; rw [if_pos h4, hc, if_pos rfl]
    · rw [if_neg (by omega), if_neg (by omega), if_pos (by omega)]
      unfold regCell sw; rw [if_neg (by omega), if_pos h4, hc, if_pos rfl]
    · rw [if_neg (by omega), if_pos (by omega)]
      unfold regCell sw; rw [if_neg (by omega), if_neg (by omega), if_pos h4, hc, if_pos rfl]
    · rw [if_pos (by omega)]
      unfold regCell sw; rw [if_neg (by omega), if_neg (by omega), if_neg (by omega), hc, if_pos rfl]
  · rcases h4 with h4 | h4 | h4 | h4
    · rw [if_neg (by omega), if_neg (by omega), if_neg (by omega), if_neg (by omega), if_neg (by omega), if_neg (by omega), if_neg (by omega), if_pos (by omega)]
      unfold regCell sw; rw [if_pos h4, hc, if_neg (by omega), if_pos rfl]
    · rw [if_neg (by omega), if_neg (by omega), if_neg (by omega), if_neg (by omega), if_neg (by omega), if_neg (by omega), if_pos (by omega)]
      unfold regCell sw; rw [if_neg (by omega), if_pos h4, hc, if_neg (by omega), if_pos rfl]
    · rw [if_neg (by omega), if_neg (by omega), if_neg (by omega), if_neg (by omega), if_neg (by omega), if_pos (by omega)]
      unfold regCell sw; rw [if_neg (by omega), if_neg (by omega), if_pos h4, hc, if_neg (by omega), if_pos rfl]
    · rw [if_neg (by omega), if_neg (by omega), if_neg (by omega), if_neg (by omega), if_pos (by omega)]
      unfold regCell sw; rw [if_neg (by omega), if_neg (by omega), if_neg (by omega), hc, if_neg (by omega), if_pos rfl]
  · rw [if_neg (by omega), if_neg (by omega), if_neg (by omega), if_neg (by omega), if_neg (by omega), if_neg (by omega), if_neg (by omega), if_neg (by omega)]
    unfold regCell sw; simp only [hc1, hc2, if_false]
/-- A row of regions in another order. -/
def Dat (n : Nat) (A0 S0 : Nat → Nat) (W0 X0 : Nat → Bool) (A S : Nat → Nat) (W X : Nat → Bool) : Prop := ∃ π : Nat → Nat, (∀ x, x < n → π x < n) ∧ (∀ x y, x < n → y < n → π x = π y → x = y) ∧ A = (fun x => A0 (π x)) ∧ S = (fun x => S0 (π x)) ∧ W = (fun x => W0 (π x)) ∧ X = (fun x => X0 (π x))
theorem Dat.refl (n : Nat) (A0 S0 : Nat → Nat) (W0 X0 : Nat → Bool) : Dat n A0 S0 W0 X0 A0 S0 W0 X0 := ⟨fun x => x, fun _ h => h, fun _ _ _ _ h => h, rfl, rfl, rfl, rfl⟩
theorem sw_comp {α : Type} (f : Nat → α) (π : Nat → Nat) (m : Nat) : sw (fun x => f (π x)) m = fun x => f (sw π m x) := by
  funext x
  unfold sw
  split
  · rfl
  · split <;> rfl
theorem Dat.sw {n m : Nat} {A0 S0 : Nat → Nat} {W0 X0 : Nat → Bool} {A S : Nat → Nat} {W X : Nat → Bool} (h : Dat n A0 S0 W0 X0 A S W X) (hm : m + 1 < n) : Dat n A0 S0 W0 X0 (Mm.sw A m) (Mm.sw S m) (Mm.sw W m) (Mm.sw X m) := by
  obtain ⟨π, h1, h2, rfl, rfl, rfl, rfl⟩ := h
  have tau : ∀ x, (x = m ∧ Mm.sw (fun z => z) m x = m + 1) ∨ (x = m + 1 ∧ Mm.sw (fun z => z) m x = m) ∨ (x ≠ m ∧ x ≠ m + 1 ∧ Mm.sw (fun z => z) m x = x) := fun x => by
    unfold Mm.sw
    by_cases a : x = m
    · exact .inl ⟨a, by rw [if_pos a]⟩
    · by_cases b : x = m + 1
      · exact .inr (.inl ⟨b, by rw [if_neg a, if_pos b]⟩)
      · exact .inr (.inr ⟨a, b, by rw [if_neg a, if_neg b]⟩)
  have hE : ∀ x, Mm.sw π m x = π (Mm.sw (fun z => z) m x) := fun x => congrFun (sw_comp π (fun z => z) m) x
  refine ⟨Mm.sw π m, fun x hx => ?_, fun x y hx hy e => ?_, sw_comp _ _ _, sw_comp _ _ _, sw_comp _ _ _, sw_comp _ _ _⟩
  · rw [hE]
    refine h1 _ ?_
    have := tau x
    omega
  · rw [hE, hE] at e
    have tx := tau x
    have ty := tau y
    have := h2 _ _ (by omega) (by omega) e
    omega
/-- Sorted but for one. -/
def sortBut (k m : Nat) (A : Nat → Nat) : Prop := ∀ a b, a < b → b < k → b ≠ m → A a ≤ A b
theorem sortBut_sw {k m : Nat} {A : Nat → Nat} (h : sortBut k (m + 1) A) (hm : m + 1 < k) (hlt : A (m + 1) < A m) : sortBut k m (sw A m) := by
  intro a b hab hb hne
  unfold sw
  rw [if_neg hne]
  by_cases e : b = m + 1
  · rw [if_pos e]
    by_cases e2 : a = m
    · rw [if_pos e2]; omega
    · rw [if_neg e2, if_neg (by omega)]
      exact h a m (by omega) (by omega) (by omega)
  · rw [if_neg e]
    by_cases e2 : a = m
    · rw [if_pos e2]
      exact h (m + 1) b (by omega) hb (by omega)
    · rw [if_neg e2]
      by_cases e3 : a = m + 1
      · rw [if_pos e3]
        exact h m b (by omega) hb (by omega)
      · rw [if_neg e3]
        exact h a b hab hb e
theorem sortBut_end {k m : Nat} {A : Nat → Nat} (h : sortBut k (m + 1) A) (hm : m + 1 < k) (hle : A m ≤ A (m + 1)) : sortBut k k A := by
  intro a b hab hb _
  by_cases e : b = m + 1
  · subst e
    by_cases e2 : a = m
    · subst e2; exact hle
    · exact Nat.le_trans (h a m (by omega) (by omega) (by omega)) hle
  · exact h a b hab hb e
def InsAt (w0 w : World) (N g n : Nat) (A0 S0 : Nat → Nat) (W0 X0 : Nat → Bool) (P : (Nat → Nat) → Prop) : Prop := Below N w0 w ∧ g < w.heap.size ∧ (∀ p, w.frozen? ⟨g, p, none⟩ = false) ∧ ∃ A S W X, Dat n A0 S0 W0 X0 A S W X ∧ P A ∧ RegsAt w g n A S W X
theorem InsAt.imp {w0 w : World} {N g n : Nat} {A0 S0 : Nat → Nat} {W0 X0 : Nat → Bool} {P P' : (Nat → Nat) → Prop} (h : InsAt w0 w N g n A0 S0 W0 X0 P) (hp : ∀ A, P A → P' A) : InsAt w0 w N g n A0 S0 W0 X0 P' := by
  obtain ⟨a, b, c, A, S, W, X, d, e, f⟩ := h
  exact ⟨a, b, c, A, S, W, X, d, hp _ e, f⟩
theorem size_set (w : World) (a : Addr) (v : Value) : (w.setCell a v).heap.size = w.heap.size := by simp [World.setCell]
theorem ins_drew {w W : World} {N g n : Nat} {A0 S0 : Nat → Nat} {W0 X0 : Nat → Bool} {P : (Nat → Nat) → Prop} (h : InsAt w W N g n A0 S0 W0 X0 P) : InsAt w W.drew N g n A0 S0 W0 X0 P := ⟨h.1.drew, h.2.1, h.2.2.1, h.2.2.2⟩
theorem ins_swap {w w' : World} {N g n m : Nat} {A0 S0 : Nat → Nat} {W0 X0 : Nat → Bool} {P : (Nat → Nat) → Prop} {A S : Nat → Nat} {W X : Nat → Bool} (hB : Below N w w') (hN : N ≤ g) (hg : g < w'.heap.size) (hz : ∀ p, w'.frozen? ⟨g, p, none⟩ = false) (hR : RegsAt w' g n A S W X) (hD : Dat n A0 S0 W0 X0 A S W X) (hP : P (sw A m)) (hm : m + 1 < n) : InsAt w ((((((((w'.setCell ⟨g, (m + 1) * 4, none⟩ (.int .u64 (A m : Nat))).setCell ⟨g, (m + 1) * 4 + 1, none⟩ (.int .u64 (S m : Nat))).setCell ⟨g, (m + 1) * 4 + 2, none⟩ (.bool (W m))).setCell ⟨g, (m + 1) * 4 + 3, none⟩ (.bool (X m))).setCell ⟨g, m * 4, none⟩ (.int .u64 (A (m + 1) : Nat))).setCell ⟨g, m * 4 + 1, none⟩ (.int .u64 (S (m + 1) : Nat))).setCell ⟨g, m * 4 + 2, none⟩ (.bool (W (m + 1)))).setCell ⟨g, m * 4 + 3, none⟩ (.bool (X (m + 1)))).drew N g n A0 S0 W0 X0 P := by
  have hr := swap_regs hR hm
  refine ins_drew ⟨((((((((hB.setCell hN _).setCell hN _).setCell hN _).setCell hN _).setCell hN _).setCell hN _).setCell hN _).setCell hN _), ?_, ?_, _, _, _, _, hD.sw hm, hP, hr⟩
  · rw [size_set, size_set, size_set, size_set, size_set, size_set, size_set, size_set]; exact hg
  · intro p
    rw [World.frozen?_setCell, World.frozen?_setCell, World.frozen?_setCell, World.frozen?_setCell, World.frozen?_setCell, World.frozen?_setCell, World.frozen?_setCell, World.frozen?_setCell]; exact hz p
set_option maxRecDepth 100000 in
set_option maxHeartbeats 4000000 in
theorem insertion_g (N g n cp : Nat) (A0 S0 : Nat → Nat) (W0 X0 : Nat → Bool) (w : World) (n2 : n ≤ 16) (hN : N ≤ g) (HI : Hid (InsAt w w N g n A0 S0 W0 X0 fun _ => True)) :
    Calls Try.prog 69 #[.slice (some ⟨g, 0, none⟩) n cp, .int .i64 0, .int .i64 n, .func (.func 23) #[] #[]] w fun e w' => e = .returned (.tuple #[]) ∧ InsAt w w' N g n A0 S0 W0 X0 (fun A => ∀ a b, a < b → b < n → A a ≤ A b) := by
  go_enter Try.func69, Try.ntmps69
  go_wp2
  go_loopw [8, 9] (fun i _ wr => ∃ j : Nat, 1 ≤ j ∧ j ≤ 17 ∧ i = .int .i64 j ∧ Hid (InsAt w wr N g n A0 S0 W0 X0 (sortBut j j))) (fun i _ _ => 40 - (intOf i).toNat)
  case atStart => exact ⟨1, by omega, by omega, rfl, Lib.hid (HI.out.imp fun A _ a b h1 h2 _ => by omega)⟩
  case round =>
    obtain ⟨j, hj1, hj2, rfl, HIr⟩ := hrel
    by_cases hlt : j < n
    · obtain ⟨wo, rfl⟩ : ∃ wo : World, wo = wr := ⟨_, rfl⟩
      go_wp2
      go_loopw [9] (fun k wi => ∃ m : Nat, m < n ∧ k = .int .i64 m ∧ Hid (InsAt w wi N g n A0 S0 W0 X0 (sortBut (j + 1) m)) ∧ m ≤ j) (fun k _ => (intOf k).toNat)
      case atStart => exact ⟨j, hlt, rfl, Lib.hid (HIr.out.imp fun A h a b h1 h2 h3 => h a b h1 (by omega) (by omega)), Nat.le_refl _⟩
      case round =>
        obtain ⟨m, hm, rfl, HIi, hmj⟩ := hrel
        by_cases hm0 : m = 0
        · subst hm0
          have hd : decide ((0 : Int) < ((0 : Nat) : Int)) = false := by decide
          have hd2 : decide ((0 : Int) < (0 : Int)) = false := by decide
          go_wp2
          go_quiet (fail)
          go_wp2
          exact ⟨⟨j + 1, by omega, by omega, by simp, Lib.hid (InsAt.imp (P := sortBut (j + 1) 0) ⟨below_drewN HIi.out.1 _, HIi.out.2⟩ fun A h a b h1 h2 h3 => h a b h1 h2 (by omega))⟩, by simp [intOf]; omega⟩
        · obtain ⟨m, rfl⟩ : ∃ k, m = k + 1 := ⟨m - 1, by omega⟩
          obtain ⟨hB, hg, hfz, A, S, W, X, hD, hP, hR⟩ := HIi.out
          have HD := Lib.hid hD
          have HP := Lib.hid hP
          clear hD hP
          obtain ⟨f1, f2, f3, f4⟩ := hR.four (m + 1) hm
          obtain ⟨e1, e2, e3, e4⟩ := hR.four m (by omega)
          have HR := Lib.hid hR
          have HB := Lib.hid hB
          have HFZ := Lib.hid hfz
          clear hR hB hfz
          have hd : decide ((0 : Int) < ((m : Int) + 1)) = true := decide_eq_true (by omega)
          have hgr : g < wr.drew.heap.size := hg
          have i1 : (0 : Int) ≤ (m : Int) := by omega
          have i2 : (m : Int) + 1 < (n : Int) := by omega
          have i3 : (m : Int) < (n : Int) := by omega
          have i4 : (0 : Int) ≤ (m : Int) + 1 := by omega
          have i5 : IntKind.i64.wrap ((m : Int) + 1 - 1) = (m : Int) := by rw [IntKind.wrap_i64]; omega
          have i6 : IntKind.i64.wrap (m : Int) = (m : Int) := by rw [IntKind.wrap_i64]; omega
          by_cases hle : A (m + 1) < A m
          · have HL := Lib.hid hle
            go_wp2
            go_region_held3 (fun w' => w'.cell? ⟨g, (m + 1) * 4, none⟩ = some (.int .u64 (A (m + 1) : Nat)) ∧ w'.cell? ⟨g, (m + 1) * 4 + 1, none⟩ = some (.int .u64 (S (m + 1) : Nat)) ∧ w'.cell? ⟨g, (m + 1) * 4 + 2, none⟩ = some (.bool (W (m + 1))) ∧ w'.cell? ⟨g, (m + 1) * 4 + 3, none⟩ = some (.bool (X (m + 1))) ∧ w'.cell? ⟨g, m * 4, none⟩ = some (.int .u64 (A m : Nat)) ∧ w'.cell? ⟨g, m * 4 + 1, none⟩ = some (.int .u64 (S m : Nat)) ∧ w'.cell? ⟨g, m * 4 + 2, none⟩ = some (.bool (W m)) ∧ w'.cell? ⟨g, m * 4 + 3, none⟩ = some (.bool (X m))) (first | go_keep | exact ⟨(hb.cell (p := ⟨g, _, none⟩) hgr).trans f1, (hb.cell (p := ⟨g, _, none⟩) hgr).trans f2, (hb.cell (p := ⟨g, _, none⟩) hgr).trans f3, (hb.cell (p := ⟨g, _, none⟩) hgr).trans f4, (hb.cell (p := ⟨g, _, none⟩) hgr).trans e1, (hb.cell (p := ⟨g, _, none⟩) hgr).trans e2, (hb.cell (p := ⟨g, _, none⟩) hgr).trans e3, (hb.cell (p := ⟨g, _, none⟩) hgr).trans e4⟩) ((go_at_call 23; refine (byPlace_l (A (m + 1)) (A m) (S (m + 1)) (S m) (W (m + 1)) (X (m + 1)) (W m) (X m) _ HL.out).mono ?_; rintro e w' ⟨rfl, hb⟩))
            rename_i hHeld
            obtain ⟨a0, a1, a2, a3, b0, b1, b2, b3⟩ := hHeld
            have hg5 : g < w'.heap.size := Nat.lt_of_lt_of_le hgr hb.size
            have hfz5 : ∀ p, w'.frozen? ⟨g, p, none⟩ = false := fun p => (hb.frozen (p := ⟨g, p, none⟩) hgr).trans (HFZ.out p)
            have HR5 := Lib.hid (RegsAt.below (w := wr.drew) HR.out hb hgr)
            have HB5 := Lib.hid (HB.out.trans (((Below.refl N wr).drew).trans (hb.mono (by omega))))
            have HFZ5 := Lib.hid hfz5
            have z0 := hfz5 ((m + 1) * 4)
            have z1 := hfz5 ((m + 1) * 4 + 1)
            have z2 := hfz5 ((m + 1) * 4 + 2)
            have z3 := hfz5 ((m + 1) * 4 + 3)
            have y0 := hfz5 (m * 4)
            have y1 := hfz5 (m * 4 + 1)
            have y2 := hfz5 (m * 4 + 2)
            have y3 := hfz5 (m * 4 + 3)
            clear hfz5 hb f1 f2 f3 f4 e1 e2 e3 e4 HR HB HFZ hgr hg
            go_wp2
            go_region_law (fail)
            all_goals
              have HALL := Lib.hid (ins_swap (P := sortBut (j + 1) m) HB5.out hN hg5 HFZ5.out HR5.out HD.out (sortBut_sw HP.out (by omega) HL.out) hm)
              clear a0 a1 a2 a3 b0 b1 b2 b3 z0 z1 z2 z3 y0 y1 y2 y3 hg5 HB5 HFZ5 HR5
              go_wp2
              exact ⟨⟨m, by omega, by simp, HALL, by omega⟩, by simp [intOf]⟩
          · have HL : Hid (A m ≤ A (m + 1)) := Lib.hid (by omega)
            go_wp2
            go_region_held3 (fun w' => w'.cell? ⟨g, (m + 1) * 4, none⟩ = some (.int .u64 (A (m + 1) : Nat)) ∧ w'.cell? ⟨g, (m + 1) * 4 + 1, none⟩ = some (.int .u64 (S (m + 1) : Nat)) ∧ w'.cell? ⟨g, (m + 1) * 4 + 2, none⟩ = some (.bool (W (m + 1))) ∧ w'.cell? ⟨g, (m + 1) * 4 + 3, none⟩ = some (.bool (X (m + 1))) ∧ w'.cell? ⟨g, m * 4, none⟩ = some (.int .u64 (A m : Nat)) ∧ w'.cell? ⟨g, m * 4 + 1, none⟩ = some (.int .u64 (S m : Nat)) ∧ w'.cell? ⟨g, m * 4 + 2, none⟩ = some (.bool (W m)) ∧ w'.cell? ⟨g, m * 4 + 3, none⟩ = some (.bool (X m))) (first | go_keep | exact ⟨(hb.cell (p := ⟨g, _, none⟩) hgr).trans f1, (hb.cell (p := ⟨g, _, none⟩) hgr).trans f2, (hb.cell (p := ⟨g, _, none⟩) hgr).trans f3, (hb.cell (p := ⟨g, _, none⟩) hgr).trans f4, (hb.cell (p := ⟨g, _, none⟩) hgr).trans e1, (hb.cell (p := ⟨g, _, none⟩) hgr).trans e2, (hb.cell (p := ⟨g, _, none⟩) hgr).trans e3, (hb.cell (p := ⟨g, _, none⟩) hgr).trans e4⟩) ((go_at_call 23; refine (byPlace_c (A (m + 1)) (A m) (S (m + 1)) (S m) (W (m + 1)) (X (m + 1)) (W m) (X m) _ HL.out).mono ?_; rintro e w' ⟨r, r0, r1, rfl, hb⟩))
            have HI6 : Hid (InsAt w w' N g n A0 S0 W0 X0 (sortBut (j + 1) (j + 1))) := Lib.hid ⟨HB.out.trans (((Below.refl N wr).drew).trans (hb.mono (by omega))), Nat.lt_of_lt_of_le hgr hb.size, fun p => (hb.frozen (p := ⟨g, p, none⟩) hgr).trans (HFZ.out p), A, S, W, X, HD.out, sortBut_end HP.out (by omega) HL.out, RegsAt.below (w := wr.drew) HR.out hb hgr⟩
            clear hb f1 f2 f3 f4 e1 e2 e3 e4
            go_wp2
            exact ⟨⟨j + 1, by omega, by omega, by simp, HI6⟩, by simp [intOf]; omega⟩
    · go_wp2
      refine bodyPost_end (v := .tuple #[]) (by simp [results, Try.results69, go_sem]) rfl ⟨rfl, HIr.out.imp fun A h a b h1 h2 => h a b h1 (by omega) (by omega)⟩
set_option maxRecDepth 100000 in
theorem stable_g (N g n cp : Nat) (A0 S0 : Nat → Nat) (W0 X0 : Nat → Bool) (w : World) (n2 : n ≤ 16) (hN : N ≤ g) (HI : Hid (InsAt w w N g n A0 S0 W0 X0 fun _ => True)) :
    Calls Try.prog 58 #[.slice (some ⟨g, 0, none⟩) n cp, .int .i64 n, .func (.func 23) #[] #[]] w fun e w' => e = .returned (.tuple #[]) ∧ InsAt w w' N g n A0 S0 W0 X0 (fun A => ∀ a b, a < b → b < n → A a ≤ A b) := by
  have d1 : decide ((20 : Int) ≤ (n : Int)) = false := decide_eq_false (by omega)
  have d2 : decide ((20 : Int) < (n : Int)) = false := decide_eq_false (by omega)
  go_enter Try.func58, Try.ntmps58
  go_wp2
  go_loopw [7, 8] (fun a b wr => a = .int .i64 0 ∧ b = .int .i64 20 ∧ wr = w) (fun _ _ _ => 0)
  case atStart => exact ⟨rfl, rfl, rfl⟩
  case round =>
    obtain ⟨rfl, rfl, rfl⟩ := hrel
    go_wp2_with (go_at_call 69; refine (insertion_g N g n cp A0 S0 W0 X0 _ n2 hN HI).mono ?_; rintro e w1 ⟨rfl, hb⟩)
    go_loopw [6] (fun b wi => b = .int .i64 20 ∧ wi = w1) (fun _ _ => 0)
    case atStart => exact ⟨rfl, rfl⟩
    case round =>
      obtain ⟨rfl, rfl⟩ := hrel
      go_wp2
      refine bodyPost_end (v := .tuple #[]) (by simp [results, Try.results58, go_sem]) rfl ⟨rfl, hb⟩
set_option maxRecDepth 100000 in
theorem sort_g (N g n cp : Nat) (A0 S0 : Nat → Nat) (W0 X0 : Nat → Bool) (w : World) (n2 : n ≤ 16) (hN : N ≤ g) (HI : Hid (InsAt w w N g n A0 S0 W0 X0 fun _ => True)) :
    Calls Try.prog 22 #[.slice (some ⟨g, 0, none⟩) n cp, .func (.func 23) #[] #[]] w fun e w' => e = .returned (.tuple #[]) ∧ InsAt w w' N g n A0 S0 W0 X0 (fun A => ∀ a b, a < b → b < n → A a ≤ A b) := by
  go_enter Try.func22, Try.ntmps22
  go_wp2_with (go_at_call 58; refine (stable_g N g n cp A0 S0 W0 X0 _ n2 hN HI).mono ?_; rintro e w1 ⟨rfl, hb⟩)
  refine bodyPost_end (v := .tuple #[]) (by simp [results, Try.results22, go_sem]) rfl ⟨rfl, hb⟩
end Go.Proofs.Ytjcbhomfggjmhaa.Mm
