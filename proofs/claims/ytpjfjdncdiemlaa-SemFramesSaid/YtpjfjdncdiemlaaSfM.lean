import Derived.Test.YtpjfjdncdiemlaaFIo0
import Derived.Test.YtpjfjdncdiemlaaSfC
import Derived.Test.YtpjfjdncdiemlaaSmS
namespace Go.Proofs.Ytpjfjdncdiemlaa
open Fr (puts mem_puts puts_length)
set_option linter.unusedVariables false
theorem Rg.set_get (r : Rg) (t v k : Int) : (r.set t v).get k = if k = t ∧ 0 ≤ t ∧ t ≤ 32 ∧ t ≠ 31 then v else r.get k := by
  by_cases h1 : 0 ≤ t ∧ t < 31
  · obtain ⟨j, rfl⟩ : ∃ j : Nat, t = j := ⟨t.toNat, by omega⟩
    rw [Rg.set_x r j v (by omega)]
    by_cases hk : 0 ≤ k ∧ k < 31
    · obtain ⟨i, rfl⟩ : ∃ i : Nat, k = i := ⟨k.toNat, by omega⟩
      rw [Rg.get_x _ i (by omega), Rg.get_x _ i (by omega)]
      simp only [Rg.setX]
      by_cases e : i = j
      · rw [if_pos e, if_pos ⟨by omega, by omega, by omega, by omega⟩]
      · rw [if_neg e, if_neg (by omega)]
    · rw [if_neg (by omega)]
      unfold Rg.get
      rw [if_neg hk, if_neg hk]
      rfl
  · by_cases h2 : t = 32
    · subst h2
      rw [Rg.set_sp]
      by_cases hk : k = 32
      · subst hk
        rw [if_pos ⟨rfl, by omega, by omega, by omega⟩]
        rfl
      · rw [if_neg (by omega)]
        unfold Rg.get
        rw [if_neg hk, if_neg hk]
        rfl
    · rw [Rg.set_no r t v (by omega) h2, if_neg (by omega)]
theorem Rg.set_fl (r : Rg) (t v : Int) : (r.set t v).n = r.n ∧ (r.set t v).z = r.z ∧ (r.set t v).c = r.c ∧ (r.set t v).v = r.v := by
  unfold Rg.set
  split
  · exact ⟨rfl, rfl, rfl, rfl⟩
  · split <;> exact ⟨rfl, rfl, rfl, rfl⟩
theorem Rg.within_get {r : Rg} (h : r.within) (k : Int) : 0 ≤ r.get k ∧ r.get k < 18446744073709551616 := by
  unfold Rg.get
  split
  · exact h.1 _ (by omega)
  · split
    · exact h.2
    · omega
theorem Rg.within_set {r : Rg} (h : r.within) (t v : Int) (h1 : 0 ≤ v) (h2 : v < 18446744073709551616) : (r.set t v).within := by
  unfold Rg.set
  split
  · refine ⟨fun i hi => ?_, h.2⟩
    simp only [Rg.setX]
    split
    · exact ⟨h1, h2⟩
    · exact h.1 i hi
  · split
    · exact ⟨h.1, h1, h2⟩
    · exact h
/-- One register of r laid into m. -/
def lay1 (r m : Rg) (k : Int) : Rg := if k = 33 then m.flags r.n r.z r.c r.v else m.set k (r.get k)
def mrg (L : List Int) (r o : Rg) : Rg := L.foldl (lay1 r) o
theorem mrg_snoc (L : List Int) (k : Int) (r o : Rg) : mrg (L ++ [k]) r o = lay1 r (mrg L r o) k := by simp [mrg]
theorem lay1_get (r m : Rg) (k j : Int) : (lay1 r m k).get j = if j = k ∧ 0 ≤ k ∧ k ≤ 32 ∧ k ≠ 31 then r.get k else m.get j := by
  unfold lay1
  split
  · rename_i h
    rw [if_neg (by omega)]
    rfl
  · exact Rg.set_get _ _ _ _
theorem mrg_get_from (r : Rg) (j : Int) (L : List Int) : ∀ o : Rg, (o.get j = r.get j → (L.foldl (lay1 r) o).get j = r.get j) ∧ (j ∈ L → 0 ≤ j → j ≤ 32 → j ≠ 31 → (L.foldl (lay1 r) o).get j = r.get j) := by
  induction L with
  | nil => exact fun o => ⟨fun h => h, fun h => by cases h⟩
  | cons k t ih =>
    intro o
    refine ⟨fun h => ?_, fun h h0 h1 h2 => ?_⟩
    · refine (ih _).1 ?_
      rw [lay1_get]
      split
      · rename_i e; rw [e.1]
      · exact h
    · rcases List.mem_cons.1 h with rfl | h
      · refine (ih _).1 ?_
        rw [lay1_get, if_pos ⟨rfl, h0, h1, h2⟩]
      · exact (ih _).2 h h0 h1 h2
theorem mrg_get (T : List Int) (r o : Rg) (j : Int) (h : j ∈ T) : (mrg (puts T) r o).get j = r.get j := by
  by_cases h1 : 0 ≤ j ∧ j ≤ 32 ∧ j ≠ 31
  · exact (mrg_get_from r j _ o).2 ((mem_puts j T).2 ⟨h1.2.2, h⟩) h1.1 h1.2.1 h1.2.2
  · rw [Rg.get_no _ _ (by omega) (by omega), Rg.get_no _ _ (by omega) (by omega)]
def SameF (a b : Rg) : Prop := a.n = b.n ∧ a.z = b.z ∧ a.c = b.c ∧ a.v = b.v
theorem mrg_fl_from (r : Rg) (L : List Int) : ∀ o : Rg, (SameF o r → SameF (L.foldl (lay1 r) o) r) ∧ (33 ∈ L → SameF (L.foldl (lay1 r) o) r) := by
  have hl : ∀ (o : Rg) (k : Int), SameF o r → SameF (lay1 r o k) r := by
    intro o k h
    unfold lay1
    split
    · exact ⟨rfl, rfl, rfl, rfl⟩
    · have := Rg.set_fl o k (r.get k)
      exact ⟨this.1.trans h.1, this.2.1.trans h.2.1, this.2.2.1.trans h.2.2.1, this.2.2.2.trans h.2.2.2⟩
  induction L with
  | nil => exact fun o => ⟨fun h => h, fun h => by cases h⟩
  | cons k t ih =>
    refine fun o => ⟨fun h => (ih _).1 (hl o k h), fun h => ?_⟩
    rcases List.mem_cons.1 h with rfl | h
    · exact (ih _).1 ⟨rfl, rfl, rfl, rfl⟩
    · exact (ih _).2 h
theorem mrg_hold (T : List Int) (r o : Rg) (h : 33 ∈ T) (c : Int) : (mrg (puts T) r o).hold c = r.hold c := by
  obtain ⟨h1, h2, h3, h4⟩ := (mrg_fl_from r _ o).2 ((mem_puts 33 T).2 ⟨by omega, h⟩)
  have : ∀ k, (mrg (puts T) r o).hv k = r.hv k := by
    intro k
    unfold Rg.hv
    unfold mrg
    rw [h1, h2, h3, h4]
  unfold Rg.hold
  rw [this]
theorem mrg_within (L : List Int) {r : Rg} (hr : r.within) : ∀ {o : Rg}, o.within → (mrg L r o).within := by
  induction L with
  | nil => exact fun h => h
  | cons k t ih =>
    intro o ho
    refine ih ?_
    unfold lay1
    split
    · exact ho
    · exact Rg.within_set ho _ _ (Rg.within_get hr k).1 (Rg.within_get hr k).2
/-- What the law asks of the registers behind. -/
structure FrameOK (T : List Int) (touch : Bool) (r a b : Rg) : Prop where
  wrote : touch = false → ∀ k, 0 ≤ k → k ≤ 32 → k ∈ puts T → a.get k = b.get k
  kept : ∀ k, 0 ≤ k → k ≤ 32 → (k ∉ puts T ∨ touch = true) → a.get k = r.get k
  fl : 33 ∈ puts T → SameF a b
  nofl : 33 ∉ puts T → SameF a r
theorem frame_set (r m : Rg) (t v : Int) (h1 : 0 ≤ t) (h2 : t ≤ 32) : FrameOK [t] false r (r.set t v) (m.set t v) where
  wrote := by
    intro _ k k1 k2 hk
    obtain ⟨h3, h4⟩ := (mem_puts k _).1 hk
    simp only [List.mem_singleton] at h4
    subst h4
    rw [Rg.set_get, Rg.set_get, if_pos ⟨rfl, h1, h2, h3⟩, if_pos ⟨rfl, h1, h2, h3⟩]
  kept := by
    intro k k1 k2 hk
    rw [Rg.set_get]
    split
    · rename_i e
      obtain ⟨rfl, e1, e2, e3⟩ := e
      rcases hk with hk | hk
      · exact absurd ((mem_puts k [k]).2 ⟨e3, by simp⟩) hk
      · cases hk
    · rfl
  fl := by
    intro h
    have := ((mem_puts 33 _).1 h).2
    simp only [List.mem_singleton] at this
    omega
  nofl := fun _ => Rg.set_fl r t v
theorem frame_less (r m : Rg) (x v d : Int) (h1 : 0 ≤ d) (h2 : d ≤ 32) : FrameOK [d, 33] false r (r.less x v d) (m.less x v d) where
  wrote := by
    intro _ k k1 k2 hk
    obtain ⟨h3, h4⟩ := (mem_puts k _).1 hk
    simp only [List.mem_cons, List.not_mem_nil, or_false] at h4
    obtain rfl : k = d := by omega
    unfold Rg.less
    rw [Rg.set_get, Rg.set_get, if_pos ⟨rfl, h1, h2, h3⟩, if_pos ⟨rfl, h1, h2, h3⟩]
  kept := by
    intro k k1 k2 hk
    unfold Rg.less
    rw [Rg.set_get]
    split
    · rename_i e
      obtain ⟨rfl, e1, e2, e3⟩ := e
      rcases hk with hk | hk
      · exact absurd ((mem_puts k [k, 33]).2 ⟨e3, by simp⟩) hk
      · cases hk
    · rfl
  fl := by
    intro _
    unfold Rg.less
    have h := Rg.set_fl (r.flags (negB (sA x (notU v) 1)) (sA x (notU v) 1 == 0) (cA x (notU v) 1) (vA x (notU v) 1)) d (sA x (notU v) 1)
    have h' := Rg.set_fl (m.flags (negB (sA x (notU v) 1)) (sA x (notU v) 1 == 0) (cA x (notU v) 1) (vA x (notU v) 1)) d (sA x (notU v) 1)
    exact ⟨h.1.trans h'.1.symm, h.2.1.trans h'.2.1.symm, h.2.2.1.trans h'.2.2.1.symm, h.2.2.2.trans h'.2.2.2.symm⟩
  nofl := fun h => absurd ((mem_puts 33 [d, 33]).2 ⟨by omega, by simp⟩) h
theorem frame_nil (r m : Rg) : FrameOK [] false r r m where
  wrote := by intro _ k _ _ hk; have := ((mem_puts k _).1 hk).2; cases this
  kept := fun _ _ _ _ => rfl
  fl := by intro hk; have := ((mem_puts 33 _).1 hk).2; cases this
  nofl := fun _ => ⟨rfl, rfl, rfl, rfl⟩
theorem frame_touch (T : List Int) (r m : Rg) (hT : 33 ∉ T) : FrameOK T true r r m where
  wrote := by intro h; cases h
  kept := fun _ _ _ _ => rfl
  fl := by intro hk; exact absurd ((mem_puts 33 _).1 hk).2 hT
  nofl := fun _ => ⟨rfl, rfl, rfl, rfl⟩
end Go.Proofs.Ytpjfjdncdiemlaa
