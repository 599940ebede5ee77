import Derived.Test.YtjcbhomfggjmhaaNa
namespace Go.Proofs.Ytjcbhomfggjmhaa.Mm
open Go.ChangeShapes Go.WideShapes Go.ChangeAt Go.RowKit
set_option linter.unusedVariables false
/-! ### A piece put between others -/
def insF {α : Type} (k : Nat) (f : Nat → α) (x : α) : Nat → α := fun j => if j < k then f j else if j = k then x else f (j - 1)
theorem insF_lt {α : Type} {k j : Nat} (f : Nat → α) (x : α) (h : j < k) : insF k f x j = f j := by unfold insF; rw [if_pos h]
theorem insF_at {α : Type} (k : Nat) (f : Nat → α) (x : α) : insF k f x k = x := by unfold insF; rw [if_neg (Nat.lt_irrefl k), if_pos rfl]
theorem insF_gt {α : Type} {k j : Nat} (f : Nat → α) (x : α) (h : k ≤ j) : insF k f x (j + 1) = f j := by unfold insF; rw [if_neg (by omega), if_neg (by omega)]; rfl
theorem insF_map {α : Type} (g : Nat → α) (k : Nat) (π : Nat → Nat) (i : Nat) : insF k (fun x => g (π x)) (g i) = fun x => g (insF k π i x) := by
  funext x
  unfold insF
  split
  · rfl
  · split <;> rfl
theorem arC_z (n n' : Nat) (A S : Nat → Nat) (W X : Nat → Bool) (B C : Nat → Nat) (A' S' : Nat → Nat) (W' X' : Nat → Bool) (B' C' : Nat → Nat) (i j : Nat) (h1 : A' i = A j) (h2 : S' i = S j) (h3 : W' i = W j) (h4 : X' i = X j) (h5 : B' i = B j) (h6 : C' i = C j) :
    arC (zMe n' A' S' W' X') B' C' i = arC (zMe n A S W X) B C j := by
  unfold arC zMe
  simp only [h1, h2, h3, h4, h5, h6]
/-- The row behind the putting. -/
theorem arL_ins (n n' k : Nat) (A S : Nat → Nat) (W X : Nat → Bool) (B C : Nat → Nat) (a s : Nat) (b c : Bool) (g cp : Nat) : ∀ i, k ≤ i →
    arL (zMe n' (insF k A a) (insF k S s) (insF k W b) (insF k X c)) (insF k B g) (insF k C cp) (i + 1) = (arL (zMe n A S W X) B C i).take (k * 5) ++ [.int .u64 (a : Nat), .int .u64 (s : Nat), .bool b, .bool c, .slice (some ⟨g, 0, none⟩) s cp] ++ (arL (zMe n A S W X) B C i).drop (k * 5) := by
  intro i
  induction i with
  | zero =>
    intro hk
    obtain rfl : k = 0 := by omega
    simp [arL, arC, zMe, insF]
  | succ i ih =>
    intro hk
    by_cases e : k = i + 1
    · subst e
      have h1 : arL (zMe n' (insF (i + 1) A a) (insF (i + 1) S s) (insF (i + 1) W b) (insF (i + 1) X c)) (insF (i + 1) B g) (insF (i + 1) C cp) (i + 1) = arL (zMe n A S W X) B C (i + 1) :=
        arL_congr _ _ _ _ _ _ _ fun j hj => arC_z _ _ _ _ _ _ _ _ _ _ _ _ _ _ _ _ (insF_lt _ _ hj) (insF_lt _ _ hj) (insF_lt _ _ hj) (insF_lt _ _ hj) (insF_lt _ _ hj) (insF_lt _ _ hj)
      show arL _ _ _ (i + 1) ++ arC _ _ _ (i + 1) = _
      rw [h1, List.take_of_length_le (by rw [arL_len]; omega), List.drop_eq_nil_of_le (by rw [arL_len]; omega), List.append_nil]
      congr 1
      simp [arC, zMe, insF_at]
    · have hk2 : k ≤ i := by omega
      show arL _ _ _ (i + 1) ++ arC _ _ _ (i + 1) = _
      rw [ih hk2, arC_z n n' A S W X B C _ _ _ _ _ _ (i + 1) i (insF_gt _ _ hk2) (insF_gt _ _ hk2) (insF_gt _ _ hk2) (insF_gt _ _ hk2) (insF_gt _ _ hk2) (insF_gt _ _ hk2)]
      show _ = (arL (zMe n A S W X) B C i ++ arC (zMe n A S W X) B C i).take (k * 5) ++ _ ++ (arL (zMe n A S W X) B C i ++ arC (zMe n A S W X) B C i).drop (k * 5)
      rw [List.take_append_of_le_length (by rw [arL_len]; omega), List.drop_append_of_le_length (by rw [arL_len]; omega)]
      simp only [List.append_assoc]
theorem Dat.ins {i k : Nat} {A0 S0 : Nat → Nat} {W0 X0 : Nat → Bool} {A S : Nat → Nat} {W X : Nat → Bool} (h : Dat i A0 S0 W0 X0 A S W X) (hk : k ≤ i) : Dat (i + 1) A0 S0 W0 X0 (insF k A (A0 i)) (insF k S (S0 i)) (insF k W (W0 i)) (insF k X (X0 i)) := by
  obtain ⟨π, h1, h2, rfl, rfl, rfl, rfl⟩ := h
  have lo : ∀ x, x < k → insF k π i x = π x := fun x hx => insF_lt _ _ hx
  have hi : ∀ x, k < x → insF k π i x = π (x - 1) := fun x hx => by obtain ⟨y, rfl⟩ : ∃ y, x = y + 1 := ⟨x - 1, by omega⟩; exact insF_gt _ _ (by omega)
  have at_ := insF_at k π i
  refine ⟨insF k π i, fun x hx => ?_, fun x y hx hy e => ?_, insF_map _ _ _ _, insF_map _ _ _ _, insF_map _ _ _ _, insF_map _ _ _ _⟩
  · rcases Nat.lt_trichotomy x k with e | e | e
    · rw [lo x e]; have := h1 x (by omega); omega
    · subst e; rw [at_]; omega
    · rw [hi x e]; have := h1 (x - 1) (by omega); omega
  · rcases Nat.lt_trichotomy x k with e1 | e1 | e1 <;> rcases Nat.lt_trichotomy y k with e2 | e2 | e2
    · rw [lo x e1, lo y e2] at e; exact h2 x y (by omega) (by omega) e
    · subst e2; rw [lo x e1, at_] at e; have := h1 x (by omega); omega
    · rw [lo x e1, hi y e2] at e; have := h2 x (y - 1) (by omega) (by omega) e; omega
    · subst e1; rw [lo y e2, at_] at e; have := h1 y (by omega); omega
    · omega
    · subst e1; rw [hi y e2, at_] at e; have := h1 (y - 1) (by omega); omega
    · rw [hi x e1, lo y e2] at e; have := h2 (x - 1) y (by omega) (by omega) e; omega
    · subst e2; rw [hi x e1, at_] at e; have := h1 (x - 1) (by omega); omega
    · rw [hi x e1, hi y e2] at e; have := h2 (x - 1) (y - 1) (by omega) (by omega) e; omega
/-- So many first pieces, in rising order. -/
def Up (A : Nat → Nat) (i : Nat) : Prop := ∀ x y, x < y → y < i → A x < A y
theorem Up.ins {A : Nat → Nat} {i k a : Nat} (h : Up A i) (hk : k ≤ i) (h1 : ∀ j, j < k → A j < a) (h2 : k = i ∨ a < A k) : Up (insF k A a) (i + 1) := by
  have lo : ∀ x, x < k → insF k A a x = A x := fun x hx => insF_lt _ _ hx
  have hi : ∀ x, k < x → insF k A a x = A (x - 1) := fun x hx => by obtain ⟨y, rfl⟩ : ∃ y, x = y + 1 := ⟨x - 1, by omega⟩; exact insF_gt _ _ (by omega)
  have at_ := insF_at k A a
  intro x y hxy hy
  rcases Nat.lt_trichotomy x k with e1 | e1 | e1 <;> rcases Nat.lt_trichotomy y k with e2 | e2 | e2
  · rw [lo x e1, lo y e2]; exact h x y hxy (by omega)
  · subst e2; rw [lo x e1, at_]; exact h1 x e1
  · rw [lo x e1, hi y e2]
    rcases Nat.lt_or_ge x (y - 1) with e | e
    · exact h x (y - 1) e (by omega)
    · omega
  · omega
  · omega
  · subst e1
    rw [at_, hi y e2]
    rcases h2 with h2 | h2
    · omega
    · by_cases e : x = y - 1
      · rw [← e]; exact h2
      · have := h x (y - 1) (by omega) (by omega); omega
  · omega
  · omega
  · rw [hi x e1, hi y e2]; exact h (x - 1) (y - 1) (by omega) (by omega)
/-- No two pieces begin at one place. -/
theorem RightD.ne {A0 S0 : Nat → Nat} {n : Nat} (h : RightD A0 S0 n) {i k : Nat} (hi : i < n) (hk : k < n) (hne : i ≠ k) : A0 i ≠ A0 k := fun e => by
  obtain ⟨_, _, h3, _⟩ := h.1 i hi
  obtain ⟨_, _, h4, _⟩ := h.1 k hk
  rcases h.2 i k hi hk hne with h5 | h5 <;> omega
theorem RightD.less {A0 S0 : Nat → Nat} {n i : Nat} (h : RightD A0 S0 n) (hi : i ≤ n) : RightD A0 S0 i := ⟨fun k hk => h.1 k (by omega), fun a b ha hb => h.2 a b (by omega) (by omega)⟩
theorem RightD.gt {n i k : Nat} {A0 S0 : Nat → Nat} {W0 X0 : Nat → Bool} {A S : Nat → Nat} {W X : Nat → Bool} (hd : Dat i A0 S0 W0 X0 A S W X) (h : RightD A0 S0 n) (hi : i < n) (hk : k < i) (hge : ¬ A k < A0 i) : A0 i < A k := by
  obtain ⟨π, h1, h2, rfl, rfl, rfl, rfl⟩ := hd
  have := h1 k hk
  have h3 := h.ne (i := π k) (k := i) (by omega) hi (by omega)
  have hge : ¬ A0 (π k) < A0 i := hge
  show A0 i < A0 (π k)
  omega
theorem RightD.step {A0 S0 : Nat → Nat} {i : Nat} (h : RightD A0 S0 i) (h1 : rightOne (A0 i) (S0 i)) (h2 : ∀ k, k < i → A0 i + S0 i ≤ A0 k ∨ A0 k + S0 k ≤ A0 i) : RightD A0 S0 (i + 1) := by
  refine ⟨fun k hk => ?_, fun a b ha hb hne => ?_⟩
  · by_cases e : k = i
    · rw [e]; exact h1
    · exact h.1 k (by omega)
  · by_cases e : a = i
    · subst e; exact h2 b (by omega)
    · by_cases e2 : b = i
      · subst e2; rcases h2 a (by omega) with h3 | h3
        · exact .inr h3
        · exact .inl h3
      · exact h.2 a b (by omega) (by omega) hne
theorem own_raise {w : World} {b b' n size : Nat} {e : TypeId} {v : Value} {xs : List Value} (h : w.ownsRow b e size v n xs) (hb : b' ≤ b) : w.ownsRow b' e size v n xs := by
  refine ⟨h.1, ?_⟩
  rcases h.2 with h2 | ⟨g, cap, cur, hv, hb2, h3⟩
  · exact .inl h2
  · exact .inr ⟨g, cap, cur, hv, Nat.le_trans hb hb2, h3⟩
/-- A piece put between those of a memory in the making. -/
theorem TwAt.ins {tm ta : TypeId} {w w' : World} {mb i k g cp a s n n' : Nat} {b c : Bool} {A S : Nat → Nat} {W X : Nat → Bool} {v v' : Value} {B C : Nat → Nat} (h : TwAt tm ta w mb (zMe n A S W X) i v B C) (hk : k ≤ i)
    (hrow : w'.heap[mb]? = some (.cells #[v'] tm (0, 0)))
    (hars : w'.ownsRow (mb + 1) ta 5 v' (i + 1) ((arL (zMe n A S W X) B C i).take (k * 5) ++ [.int .u64 (a : Nat), .int .u64 (s : Nat), .bool b, .bool c, .slice (some ⟨g, 0, none⟩) s cp] ++ (arL (zMe n A S W X) B C i).drop (k * 5)))
    (hkeep : ∀ q, q < w.heap.size → q ≠ mb → w'.heap[q]? = w.heap[q]?)
    (hg : w'.ownsRow w.heap.size 5 1 (.slice (some ⟨g, 0, none⟩) s cp) s (byL (fun _ => 0) s)) :
    TwAt tm ta w' mb (zMe n' (insF k A a) (insF k S s) (insF k W b) (insF k X c)) (i + 1) v' (insF k B g) (insF k C cp) := by
  have hmb : mb < w.heap.size := (Array.getElem?_eq_some_iff.1 h.row).1
  have hgl := hg.lt g rfl
  have old : ∀ j, j < i → w'.ownsRow (mb + 1) 5 1 (.slice (some ⟨B j, 0, none⟩) (S j) (C j)) (S j) (byL (fun _ => 0) (S j)) := fun j hj =>
    own_kept (h.byt j hj) fun q hq => by
      obtain ⟨q1, q2⟩ := (h.byt j hj).lt q hq
      exact hkeep q q2 (by omega)
  have hlt : ∀ j, j < i → B j < w.heap.size := fun j hj => ((h.byt j hj).lt (B j) rfl).2
  have lo : ∀ {α : Type} (f : Nat → α) (y : α) (x : Nat), x < k → insF k f y x = f x := fun f y x hx => insF_lt _ _ hx
  have hi : ∀ {α : Type} (f : Nat → α) (y : α) (x : Nat), k < x → insF k f y x = f (x - 1) := fun f y x hx => by obtain ⟨z, rfl⟩ : ∃ z, x = z + 1 := ⟨x - 1, by omega⟩; exact insF_gt _ _ (by omega)
  refine ⟨hrow, ?_, fun j hj => ?_, fun x y hx hy e => ?_⟩
  · rw [arL_ins n n' k A S W X B C a s b c g cp i hk]
    exact hars
  · show w'.ownsRow (mb + 1) 5 1 (.slice (some ⟨insF k B g j, 0, none⟩) (insF k S s j) (insF k C cp j)) (insF k S s j) (byL (fun _ => 0) (insF k S s j))
    rcases Nat.lt_trichotomy j k with e | e | e
    · rw [lo B g j e, lo S s j e, lo C cp j e]; exact old j (by omega)
    · subst e
      rw [insF_at, insF_at, insF_at]
      exact own_raise hg (by omega)
    · rw [hi B g j e, hi S s j e, hi C cp j e]; exact old (j - 1) (by omega)
  · rcases Nat.lt_trichotomy x k with e1 | e1 | e1 <;> rcases Nat.lt_trichotomy y k with e2 | e2 | e2
    · rw [lo B g x e1, lo B g y e2] at e; exact h.inj x y (by omega) (by omega) e
    · subst e2; rw [lo B g x e1, insF_at] at e; have := hlt x (by omega); omega
    · rw [lo B g x e1, hi B g y e2] at e; have := h.inj x (y - 1) (by omega) (by omega) e; omega
    · subst e1; rw [lo B g y e2, insF_at] at e; have := hlt y (by omega); omega
    · omega
    · subst e1; rw [hi B g y e2, insF_at] at e; have := hlt (y - 1) (by omega); omega
    · rw [hi B g x e1, lo B g y e2] at e; have := h.inj (x - 1) y (by omega) (by omega) e; omega
    · subst e2; rw [hi B g x e1, insF_at] at e; have := hlt (x - 1) (by omega); omega
    · rw [hi B g x e1, hi B g y e2] at e; have := h.inj (x - 1) (y - 1) (by omega) (by omega) e; omega
end Go.Proofs.Ytjcbhomfggjmhaa.Mm
