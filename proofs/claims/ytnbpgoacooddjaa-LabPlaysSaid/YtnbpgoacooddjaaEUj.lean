import Derived.Test.YtnbpgoacooddjaaEUm
import Derived.Test.YtnbpgoacooddjaaEBs
import Derived.Test.YtnbpgoacooddjaaFCkA
namespace Go.Proofs.Ytnbpgoacooddjaa.Fr
end Go.Proofs.Ytnbpgoacooddjaa.Fr
namespace Go.Proofs.Ytnbpgoacooddjaa.En
open Go.Proofs.Ytnbpgoacooddjaa.Fr
open Go.RowKit
set_option linter.unusedVariables false
def barV (i : Int) : Int := if i = 1 then 9 else if i = 2 then 10 else 11
theorem barS_lays (i : Int) : barS 3573758911 i = putS 3573758911 8 4 (barV i) := by
  unfold barS barV
  split
  · rfl
  · split
    · rfl
    · decide
/-- Where an op's fields lie. -/
def posL : List (List (Nat × Nat)) := [[(0, 16)], [], [(21, 2), (5, 16), (0, 5)], [(21, 2), (5, 16), (0, 5)], [(10, 12), (5, 5), (0, 5)], [(10, 12), (5, 5), (0, 5)], [(10, 12), (5, 5), (0, 5)], [(16, 5), (5, 5), (0, 5)], [(16, 5), (5, 5), (0, 5)], [(16, 5), (5, 5), (0, 5)], [(16, 5), (5, 5), (0, 5)], [(16, 5), (5, 5), (0, 5)], [(16, 5), (5, 5), (0, 5)], [(16, 5), (10, 5), (5, 5), (0, 5)], [(16, 5), (10, 5), (5, 5), (0, 5)], [(16, 5), (5, 5), (0, 5)], [(16, 5), (5, 5), (0, 5)], [(16, 5), (5, 5), (0, 5)], [(16, 5), (5, 5), (0, 5)], [(16, 5), (12, 4), (5, 5), (0, 5)], [(0, 26)], [(5, 19), (0, 4)], [(5, 19), (0, 5)], [(5, 19), (0, 5)], [(0, 26)], [(5, 5)], [(5, 5)], [(5, 5)], [(10, 12), (5, 5), (0, 5)], [(10, 12), (5, 5), (0, 5)], [(10, 12), (5, 5), (0, 5)], [(16, 5), (5, 5), (0, 5)], [(16, 5), (5, 5), (0, 5)], [(5, 5), (0, 5)], [(5, 5), (0, 5)], [(5, 5), (0, 5)], [(16, 5), (5, 5), (0, 5)], [(8, 4)], [], [], [(0, 5)], [(0, 5)], [(5, 16)]]
def pos (l : List (Nat × Nat × Int)) : List (Nat × Nat) := l.map fun f => (f.1, f.2.1)
def outside (P : List (Nat × Nat)) (i : Nat) : Bool := P.all fun f => decide (i < f.1) || decide (f.1 + f.2 ≤ i)
theorem sep_all : ((List.range 43).all fun o => (List.range 43).all fun p => o == p || (List.range 32).any fun i => outside (posL.getD o []) i && outside (posL.getD p []) i && ((baseL.getD o 0).toNat.testBit i != (baseL.getD p 0).toNat.testBit i)) = true := by decide +kernel
theorem fit_all : ((List.range 43).all fun o => (posL.getD o []).all fun f => decide (f.1 + f.2 ≤ 32) && decide (1 ≤ f.2)) = true := by decide +kernel
theorem base_all : ((List.range 43).all fun o => decide (0 ≤ baseL.getD o 0) && decide (baseL.getD o 0 < 4294967296)) = true := by decide +kernel
theorem fits_of (o : Nat) (ho : o < 43) (l : List (Nat × Nat × Int)) (hl : pos l = posL.getD o []) : fits l := fun f hf => by
  have h := List.all_eq_true.1 fit_all o (List.mem_range.2 ho)
  rw [← hl] at h
  have := List.all_eq_true.1 h (f.1, f.2.1) (List.mem_map.2 ⟨f, hf, rfl⟩)
  simpa using this
theorem out_of (l : List (Nat × Nat × Int)) (i : Nat) (h : outside (pos l) i = true) : ∀ f ∈ l, i < f.1 ∨ f.1 + f.2.1 ≤ i := fun f hf => by
  have := List.all_eq_true.1 h (f.1, f.2.1) (List.mem_map.2 ⟨f, hf, rfl⟩)
  simpa using this
theorem lays_field2 (lo n : Nat) (V : Int) (l : List (Nat × Nat × Int)) (X : Int) (hX : 0 ≤ X ∧ X < 4294967296) (hc : (decide (lo + n ≤ 32) && decide (1 ≤ n) && (pos l).all (fun g => decide (g.1 + g.2 ≤ 32) && decide (1 ≤ g.2) && (decide (g.1 + g.2 ≤ lo) || decide (lo + n ≤ g.1)))) = true) :
    (lays X ((lo, n, V) :: l)).toNat / 2 ^ lo % 2 ^ n = V.toNat % 2 ^ n := by
  simp only [Bool.and_eq_true, decide_eq_true_eq] at hc
  obtain ⟨⟨h1, h2⟩, h3⟩ := hc
  have h4 : ∀ g ∈ l, (g.1 + g.2.1 ≤ 32 ∧ 1 ≤ g.2.1) ∧ (g.1 + g.2.1 ≤ lo ∨ lo + n ≤ g.1) := fun g hg => by
    have := List.all_eq_true.1 h3 (g.1, g.2.1) (List.mem_map.2 ⟨g, hg, rfl⟩)
    simpa using this
  exact lays_field (lo, n, V) l X hX (fun x hx => by
    rcases List.mem_cons.1 hx with rfl | hx
    · exact ⟨h1, h2⟩
    · exact (h4 x hx).1) (fun g hg => (h4 g hg).2)
/-- Words of unlike ops are unlike. -/
theorem unlike_ops (o p : Nat) (ho : o < 43) (hp : p < 43) (l m : List (Nat × Nat × Int)) (hl : pos l = posL.getD o []) (hm : pos m = posL.getD p []) (h : lays (baseL.getD o 0) l = lays (baseL.getD p 0) m) : o = p := by
  have h1 := List.all_eq_true.1 (List.all_eq_true.1 sep_all o (List.mem_range.2 ho)) p (List.mem_range.2 hp)
  rw [Bool.or_eq_true] at h1
  rcases h1 with h1 | h1
  · simpa using h1
  · obtain ⟨i, _, hi⟩ := List.any_eq_true.1 h1
    simp only [Bool.and_eq_true] at hi
    obtain ⟨⟨i1, i2⟩, i3⟩ := hi
    have bo := List.all_eq_true.1 base_all o (List.mem_range.2 ho)
    have bp := List.all_eq_true.1 base_all p (List.mem_range.2 hp)
    simp only [Bool.and_eq_true, decide_eq_true_eq] at bo bp
    have e1 := lays_bit l _ bo (fits_of o ho l hl) i (out_of l i (by rw [hl]; exact i1))
    have e2 := lays_bit m _ bp (fits_of p hp m hm) i (out_of m i (by rw [hm]; exact i2))
    rw [h] at e1
    rw [e1] at e2
    rw [e2] at i3
    simp at i3
theorem inj_0 (d n m a c i d2 n2 m2 a2 c2 i2 : Int) (h : ok_0 d n m a c i = true) (h' : ok_0 d2 n2 m2 a2 c2 i2 = true) (e : (putS 0 0 16 i) = (putS 0 0 16 i2)) : d = d2 ∧ n = n2 ∧ m = m2 ∧ a = a2 ∧ c = c2 ∧ i = i2 := by
  simp only [ok_0, wi, Bool.and_eq_true, decide_eq_true_eq, beq_iff_eq] at h h'
  have f0 := lays_field2 0 16 i [] 0 (by decide : (0 : Int) ≤ 0 ∧ (0 : Int) < 4294967296) rfl
  have g0 := lays_field2 0 16 i2 [] 0 (by decide : (0 : Int) ≤ 0 ∧ (0 : Int) < 4294967296) rfl
  have q0 : (i : Int).toNat % 65536 = (i2 : Int).toNat % 65536 := by
    have e1 : (lays 0 ((0, 16, i) :: [])) = lays 0 ((0, 16, i2) :: []) := e
    rw [e1] at f0
    exact f0.symm.trans g0
  clear f0 g0
  clear e
  omega
theorem inj_1 (d n m a c i d2 n2 m2 a2 c2 i2 : Int) (h : ok_1 d n m a c i = true) (h' : ok_1 d2 n2 m2 a2 c2 i2 = true) (e : 3573751839 = 3573751839) : d = d2 ∧ n = n2 ∧ m = m2 ∧ a = a2 ∧ c = c2 ∧ i = i2 := by
  simp only [ok_1, Bool.and_eq_true, beq_iff_eq] at h h'
  clear e
  omega
theorem inj_2 (d n m a c i d2 n2 m2 a2 c2 i2 : Int) (h : ok_2 d n m a c i = true) (h' : ok_2 d2 n2 m2 a2 c2 i2 = true) (e : (putS (putS (putS 3531603968 21 2 m) 5 16 i) 0 5 d) = (putS (putS (putS 3531603968 21 2 m2) 5 16 i2) 0 5 d2)) : d = d2 ∧ n = n2 ∧ m = m2 ∧ a = a2 ∧ c = c2 ∧ i = i2 := by
  simp only [ok_2, wi, Bool.and_eq_true, decide_eq_true_eq, beq_iff_eq] at h h'
  have f0 := lays_field2 21 2 m [(5, 16, i), (0, 5, d)] 3531603968 (by decide : (0 : Int) ≤ 3531603968 ∧ (3531603968 : Int) < 4294967296) rfl
  have g0 := lays_field2 21 2 m2 [(5, 16, i2), (0, 5, d2)] 3531603968 (by decide : (0 : Int) ≤ 3531603968 ∧ (3531603968 : Int) < 4294967296) rfl
  have q0 : (m : Int).toNat % 4 = (m2 : Int).toNat % 4 := by
    have e1 : (lays 3531603968 ((21, 2, m) :: [(5, 16, i), (0, 5, d)])) = lays 3531603968 ((21, 2, m2) :: [(5, 16, i2), (0, 5, d2)]) := e
    rw [e1] at f0
    exact f0.symm.trans g0
  clear f0 g0
  have f1 := lays_field2 5 16 i [(0, 5, d)] (putS 3531603968 21 2 m) (putS_lt 3531603968 21 2 m (by decide : (0 : Int) ≤ 3531603968 ∧ (3531603968 : Int) < 4294967296).1 (by decide : (0 : Int) ≤ 3531603968 ∧ (3531603968 : Int) < 4294967296).2) rfl
  have g1 := lays_field2 5 16 i2 [(0, 5, d2)] (putS 3531603968 21 2 m2) (putS_lt 3531603968 21 2 m2 (by decide : (0 : Int) ≤ 3531603968 ∧ (3531603968 : Int) < 4294967296).1 (by decide : (0 : Int) ≤ 3531603968 ∧ (3531603968 : Int) < 4294967296).2) rfl
  have q1 : (i : Int).toNat % 65536 = (i2 : Int).toNat % 65536 := by
    have e1 : (lays (putS 3531603968 21 2 m) ((5, 16, i) :: [(0, 5, d)])) = lays (putS 3531603968 21 2 m2) ((5, 16, i2) :: [(0, 5, d2)]) := e
    rw [e1] at f1
    exact f1.symm.trans g1
  clear f1 g1
  have f2 := lays_field2 0 5 d [] (putS (putS 3531603968 21 2 m) 5 16 i) (putS_lt (putS 3531603968 21 2 m) 5 16 i (putS_lt 3531603968 21 2 m (by decide : (0 : Int) ≤ 3531603968 ∧ (3531603968 : Int) < 4294967296).1 (by decide : (0 : Int) ≤ 3531603968 ∧ (3531603968 : Int) < 4294967296).2).1 (putS_lt 3531603968 21 2 m (by decide : (0 : Int) ≤ 3531603968 ∧ (3531603968 : Int) < 4294967296).1 (by decide : (0 : Int) ≤ 3531603968 ∧ (3531603968 : Int) < 4294967296).2).2) rfl
  have g2 := lays_field2 0 5 d2 [] (putS (putS 3531603968 21 2 m2) 5 16 i2) (putS_lt (putS 3531603968 21 2 m2) 5 16 i2 (putS_lt 3531603968 21 2 m2 (by decide : (0 : Int) ≤ 3531603968 ∧ (3531603968 : Int) < 4294967296).1 (by decide : (0 : Int) ≤ 3531603968 ∧ (3531603968 : Int) < 4294967296).2).1 (putS_lt 3531603968 21 2 m2 (by decide : (0 : Int) ≤ 3531603968 ∧ (3531603968 : Int) < 4294967296).1 (by decide : (0 : Int) ≤ 3531603968 ∧ (3531603968 : Int) < 4294967296).2).2) rfl
  have q2 : (d : Int).toNat % 32 = (d2 : Int).toNat % 32 := by
    have e1 : (lays (putS (putS 3531603968 21 2 m) 5 16 i) ((0, 5, d) :: [])) = lays (putS (putS 3531603968 21 2 m2) 5 16 i2) ((0, 5, d2) :: []) := e
    rw [e1] at f2
    exact f2.symm.trans g2
  clear f2 g2
  clear e
  omega
theorem inj_3 (d n m a c i d2 n2 m2 a2 c2 i2 : Int) (h : ok_3 d n m a c i = true) (h' : ok_3 d2 n2 m2 a2 c2 i2 = true) (e : (putS (putS (putS 4068474880 21 2 m) 5 16 i) 0 5 d) = (putS (putS (putS 4068474880 21 2 m2) 5 16 i2) 0 5 d2)) : d = d2 ∧ n = n2 ∧ m = m2 ∧ a = a2 ∧ c = c2 ∧ i = i2 := by
  simp only [ok_3, wi, Bool.and_eq_true, decide_eq_true_eq, beq_iff_eq] at h h'
  have f0 := lays_field2 21 2 m [(5, 16, i), (0, 5, d)] 4068474880 (by decide : (0 : Int) ≤ 4068474880 ∧ (4068474880 : Int) < 4294967296) rfl
  have g0 := lays_field2 21 2 m2 [(5, 16, i2), (0, 5, d2)] 4068474880 (by decide : (0 : Int) ≤ 4068474880 ∧ (4068474880 : Int) < 4294967296) rfl
  have q0 : (m : Int).toNat % 4 = (m2 : Int).toNat % 4 := by
    have e1 : (lays 4068474880 ((21, 2, m) :: [(5, 16, i), (0, 5, d)])) = lays 4068474880 ((21, 2, m2) :: [(5, 16, i2), (0, 5, d2)]) := e
    rw [e1] at f0
    exact f0.symm.trans g0
  clear f0 g0
  have f1 := lays_field2 5 16 i [(0, 5, d)] (putS 4068474880 21 2 m) (putS_lt 4068474880 21 2 m (by decide : (0 : Int) ≤ 4068474880 ∧ (4068474880 : Int) < 4294967296).1 (by decide : (0 : Int) ≤ 4068474880 ∧ (4068474880 : Int) < 4294967296).2) rfl
  have g1 := lays_field2 5 16 i2 [(0, 5, d2)] (putS 4068474880 21 2 m2) (putS_lt 4068474880 21 2 m2 (by decide : (0 : Int) ≤ 4068474880 ∧ (4068474880 : Int) < 4294967296).1 (by decide : (0 : Int) ≤ 4068474880 ∧ (4068474880 : Int) < 4294967296).2) rfl
  have q1 : (i : Int).toNat % 65536 = (i2 : Int).toNat % 65536 := by
    have e1 : (lays (putS 4068474880 21 2 m) ((5, 16, i) :: [(0, 5, d)])) = lays (putS 4068474880 21 2 m2) ((5, 16, i2) :: [(0, 5, d2)]) := e
    rw [e1] at f1
    exact f1.symm.trans g1
  clear f1 g1
  have f2 := lays_field2 0 5 d [] (putS (putS 4068474880 21 2 m) 5 16 i) (putS_lt (putS 4068474880 21 2 m) 5 16 i (putS_lt 4068474880 21 2 m (by decide : (0 : Int) ≤ 4068474880 ∧ (4068474880 : Int) < 4294967296).1 (by decide : (0 : Int) ≤ 4068474880 ∧ (4068474880 : Int) < 4294967296).2).1 (putS_lt 4068474880 21 2 m (by decide : (0 : Int) ≤ 4068474880 ∧ (4068474880 : Int) < 4294967296).1 (by decide : (0 : Int) ≤ 4068474880 ∧ (4068474880 : Int) < 4294967296).2).2) rfl
  have g2 := lays_field2 0 5 d2 [] (putS (putS 4068474880 21 2 m2) 5 16 i2) (putS_lt (putS 4068474880 21 2 m2) 5 16 i2 (putS_lt 4068474880 21 2 m2 (by decide : (0 : Int) ≤ 4068474880 ∧ (4068474880 : Int) < 4294967296).1 (by decide : (0 : Int) ≤ 4068474880 ∧ (4068474880 : Int) < 4294967296).2).1 (putS_lt 4068474880 21 2 m2 (by decide : (0 : Int) ≤ 4068474880 ∧ (4068474880 : Int) < 4294967296).1 (by decide : (0 : Int) ≤ 4068474880 ∧ (4068474880 : Int) < 4294967296).2).2) rfl
  have q2 : (d : Int).toNat % 32 = (d2 : Int).toNat % 32 := by
    have e1 : (lays (putS (putS 4068474880 21 2 m) 5 16 i) ((0, 5, d) :: [])) = lays (putS (putS 4068474880 21 2 m2) 5 16 i2) ((0, 5, d2) :: []) := e
    rw [e1] at f2
    exact f2.symm.trans g2
  clear f2 g2
  clear e
  omega
theorem inj_4 (d n m a c i d2 n2 m2 a2 c2 i2 : Int) (h : ok_4 d n m a c i = true) (h' : ok_4 d2 n2 m2 a2 c2 i2 = true) (e : (putS (putS (putS 2432696320 10 12 i) 5 5 n) 0 5 d) = (putS (putS (putS 2432696320 10 12 i2) 5 5 n2) 0 5 d2)) : d = d2 ∧ n = n2 ∧ m = m2 ∧ a = a2 ∧ c = c2 ∧ i = i2 := by
  simp only [ok_4, wi, Bool.and_eq_true, decide_eq_true_eq, beq_iff_eq] at h h'
  have f0 := lays_field2 10 12 i [(5, 5, n), (0, 5, d)] 2432696320 (by decide : (0 : Int) ≤ 2432696320 ∧ (2432696320 : Int) < 4294967296) rfl
  have g0 := lays_field2 10 12 i2 [(5, 5, n2), (0, 5, d2)] 2432696320 (by decide : (0 : Int) ≤ 2432696320 ∧ (2432696320 : Int) < 4294967296) rfl
  have q0 : (i : Int).toNat % 4096 = (i2 : Int).toNat % 4096 := by
    have e1 : (lays 2432696320 ((10, 12, i) :: [(5, 5, n), (0, 5, d)])) = lays 2432696320 ((10, 12, i2) :: [(5, 5, n2), (0, 5, d2)]) := e
    rw [e1] at f0
    exact f0.symm.trans g0
  clear f0 g0
  have f1 := lays_field2 5 5 n [(0, 5, d)] (putS 2432696320 10 12 i) (putS_lt 2432696320 10 12 i (by decide : (0 : Int) ≤ 2432696320 ∧ (2432696320 : Int) < 4294967296).1 (by decide : (0 : Int) ≤ 2432696320 ∧ (2432696320 : Int) < 4294967296).2) rfl
  have g1 := lays_field2 5 5 n2 [(0, 5, d2)] (putS 2432696320 10 12 i2) (putS_lt 2432696320 10 12 i2 (by decide : (0 : Int) ≤ 2432696320 ∧ (2432696320 : Int) < 4294967296).1 (by decide : (0 : Int) ≤ 2432696320 ∧ (2432696320 : Int) < 4294967296).2) rfl
  have q1 : (n : Int).toNat % 32 = (n2 : Int).toNat % 32 := by
    have e1 : (lays (putS 2432696320 10 12 i) ((5, 5, n) :: [(0, 5, d)])) = lays (putS 2432696320 10 12 i2) ((5, 5, n2) :: [(0, 5, d2)]) := e
    rw [e1] at f1
    exact f1.symm.trans g1
  clear f1 g1
  have f2 := lays_field2 0 5 d [] (putS (putS 2432696320 10 12 i) 5 5 n) (putS_lt (putS 2432696320 10 12 i) 5 5 n (putS_lt 2432696320 10 12 i (by decide : (0 : Int) ≤ 2432696320 ∧ (2432696320 : Int) < 4294967296).1 (by decide : (0 : Int) ≤ 2432696320 ∧ (2432696320 : Int) < 4294967296).2).1 (putS_lt 2432696320 10 12 i (by decide : (0 : Int) ≤ 2432696320 ∧ (2432696320 : Int) < 4294967296).1 (by decide : (0 : Int) ≤ 2432696320 ∧ (2432696320 : Int) < 4294967296).2).2) rfl
  have g2 := lays_field2 0 5 d2 [] (putS (putS 2432696320 10 12 i2) 5 5 n2) (putS_lt (putS 2432696320 10 12 i2) 5 5 n2 (putS_lt 2432696320 10 12 i2 (by decide : (0 : Int) ≤ 2432696320 ∧ (2432696320 : Int) < 4294967296).1 (by decide : (0 : Int) ≤ 2432696320 ∧ (2432696320 : Int) < 4294967296).2).1 (putS_lt 2432696320 10 12 i2 (by decide : (0 : Int) ≤ 2432696320 ∧ (2432696320 : Int) < 4294967296).1 (by decide : (0 : Int) ≤ 2432696320 ∧ (2432696320 : Int) < 4294967296).2).2) rfl
  have q2 : (d : Int).toNat % 32 = (d2 : Int).toNat % 32 := by
    have e1 : (lays (putS (putS 2432696320 10 12 i) 5 5 n) ((0, 5, d) :: [])) = lays (putS (putS 2432696320 10 12 i2) 5 5 n2) ((0, 5, d2) :: []) := e
    rw [e1] at f2
    exact f2.symm.trans g2
  clear f2 g2
  clear e
  omega
theorem inj_5 (d n m a c i d2 n2 m2 a2 c2 i2 : Int) (h : ok_5 d n m a c i = true) (h' : ok_5 d2 n2 m2 a2 c2 i2 = true) (e : (putS (putS (putS 3506438144 10 12 i) 5 5 n) 0 5 d) = (putS (putS (putS 3506438144 10 12 i2) 5 5 n2) 0 5 d2)) : d = d2 ∧ n = n2 ∧ m = m2 ∧ a = a2 ∧ c = c2 ∧ i = i2 := by
  simp only [ok_5, wi, Bool.and_eq_true, decide_eq_true_eq, beq_iff_eq] at h h'
  have f0 := lays_field2 10 12 i [(5, 5, n), (0, 5, d)] 3506438144 (by decide : (0 : Int) ≤ 3506438144 ∧ (3506438144 : Int) < 4294967296) rfl
  have g0 := lays_field2 10 12 i2 [(5, 5, n2), (0, 5, d2)] 3506438144 (by decide : (0 : Int) ≤ 3506438144 ∧ (3506438144 : Int) < 4294967296) rfl
  have q0 : (i : Int).toNat % 4096 = (i2 : Int).toNat % 4096 := by
    have e1 : (lays 3506438144 ((10, 12, i) :: [(5, 5, n), (0, 5, d)])) = lays 3506438144 ((10, 12, i2) :: [(5, 5, n2), (0, 5, d2)]) := e
    rw [e1] at f0
    exact f0.symm.trans g0
  clear f0 g0
  have f1 := lays_field2 5 5 n [(0, 5, d)] (putS 3506438144 10 12 i) (putS_lt 3506438144 10 12 i (by decide : (0 : Int) ≤ 3506438144 ∧ (3506438144 : Int) < 4294967296).1 (by decide : (0 : Int) ≤ 3506438144 ∧ (3506438144 : Int) < 4294967296).2) rfl
  have g1 := lays_field2 5 5 n2 [(0, 5, d2)] (putS 3506438144 10 12 i2) (putS_lt 3506438144 10 12 i2 (by decide : (0 : Int) ≤ 3506438144 ∧ (3506438144 : Int) < 4294967296).1 (by decide : (0 : Int) ≤ 3506438144 ∧ (3506438144 : Int) < 4294967296).2) rfl
  have q1 : (n : Int).toNat % 32 = (n2 : Int).toNat % 32 := by
    have e1 : (lays (putS 3506438144 10 12 i) ((5, 5, n) :: [(0, 5, d)])) = lays (putS 3506438144 10 12 i2) ((5, 5, n2) :: [(0, 5, d2)]) := e
    rw [e1] at f1
    exact f1.symm.trans g1
  clear f1 g1
  have f2 := lays_field2 0 5 d [] (putS (putS 3506438144 10 12 i) 5 5 n) (putS_lt (putS 3506438144 10 12 i) 5 5 n (putS_lt 3506438144 10 12 i (by decide : (0 : Int) ≤ 3506438144 ∧ (3506438144 : Int) < 4294967296).1 (by decide : (0 : Int) ≤ 3506438144 ∧ (3506438144 : Int) < 4294967296).2).1 (putS_lt 3506438144 10 12 i (by decide : (0 : Int) ≤ 3506438144 ∧ (3506438144 : Int) < 4294967296).1 (by decide : (0 : Int) ≤ 3506438144 ∧ (3506438144 : Int) < 4294967296).2).2) rfl
  have g2 := lays_field2 0 5 d2 [] (putS (putS 3506438144 10 12 i2) 5 5 n2) (putS_lt (putS 3506438144 10 12 i2) 5 5 n2 (putS_lt 3506438144 10 12 i2 (by decide : (0 : Int) ≤ 3506438144 ∧ (3506438144 : Int) < 4294967296).1 (by decide : (0 : Int) ≤ 3506438144 ∧ (3506438144 : Int) < 4294967296).2).1 (putS_lt 3506438144 10 12 i2 (by decide : (0 : Int) ≤ 3506438144 ∧ (3506438144 : Int) < 4294967296).1 (by decide : (0 : Int) ≤ 3506438144 ∧ (3506438144 : Int) < 4294967296).2).2) rfl
  have q2 : (d : Int).toNat % 32 = (d2 : Int).toNat % 32 := by
    have e1 : (lays (putS (putS 3506438144 10 12 i) 5 5 n) ((0, 5, d) :: [])) = lays (putS (putS 3506438144 10 12 i2) 5 5 n2) ((0, 5, d2) :: []) := e
    rw [e1] at f2
    exact f2.symm.trans g2
  clear f2 g2
  clear e
  omega
theorem inj_6 (d n m a c i d2 n2 m2 a2 c2 i2 : Int) (h : ok_6 d n m a c i = true) (h' : ok_6 d2 n2 m2 a2 c2 i2 = true) (e : (putS (putS (putS 4043309056 10 12 i) 5 5 n) 0 5 d) = (putS (putS (putS 4043309056 10 12 i2) 5 5 n2) 0 5 d2)) : d = d2 ∧ n = n2 ∧ m = m2 ∧ a = a2 ∧ c = c2 ∧ i = i2 := by
  simp only [ok_6, wi, Bool.and_eq_true, decide_eq_true_eq, beq_iff_eq] at h h'
  have f0 := lays_field2 10 12 i [(5, 5, n), (0, 5, d)] 4043309056 (by decide : (0 : Int) ≤ 4043309056 ∧ (4043309056 : Int) < 4294967296) rfl
  have g0 := lays_field2 10 12 i2 [(5, 5, n2), (0, 5, d2)] 4043309056 (by decide : (0 : Int) ≤ 4043309056 ∧ (4043309056 : Int) < 4294967296) rfl
  have q0 : (i : Int).toNat % 4096 = (i2 : Int).toNat % 4096 := by
    have e1 : (lays 4043309056 ((10, 12, i) :: [(5, 5, n), (0, 5, d)])) = lays 4043309056 ((10, 12, i2) :: [(5, 5, n2), (0, 5, d2)]) := e
    rw [e1] at f0
    exact f0.symm.trans g0
  clear f0 g0
  have f1 := lays_field2 5 5 n [(0, 5, d)] (putS 4043309056 10 12 i) (putS_lt 4043309056 10 12 i (by decide : (0 : Int) ≤ 4043309056 ∧ (4043309056 : Int) < 4294967296).1 (by decide : (0 : Int) ≤ 4043309056 ∧ (4043309056 : Int) < 4294967296).2) rfl
  have g1 := lays_field2 5 5 n2 [(0, 5, d2)] (putS 4043309056 10 12 i2) (putS_lt 4043309056 10 12 i2 (by decide : (0 : Int) ≤ 4043309056 ∧ (4043309056 : Int) < 4294967296).1 (by decide : (0 : Int) ≤ 4043309056 ∧ (4043309056 : Int) < 4294967296).2) rfl
  have q1 : (n : Int).toNat % 32 = (n2 : Int).toNat % 32 := by
    have e1 : (lays (putS 4043309056 10 12 i) ((5, 5, n) :: [(0, 5, d)])) = lays (putS 4043309056 10 12 i2) ((5, 5, n2) :: [(0, 5, d2)]) := e
    rw [e1] at f1
    exact f1.symm.trans g1
  clear f1 g1
  have f2 := lays_field2 0 5 d [] (putS (putS 4043309056 10 12 i) 5 5 n) (putS_lt (putS 4043309056 10 12 i) 5 5 n (putS_lt 4043309056 10 12 i (by decide : (0 : Int) ≤ 4043309056 ∧ (4043309056 : Int) < 4294967296).1 (by decide : (0 : Int) ≤ 4043309056 ∧ (4043309056 : Int) < 4294967296).2).1 (putS_lt 4043309056 10 12 i (by decide : (0 : Int) ≤ 4043309056 ∧ (4043309056 : Int) < 4294967296).1 (by decide : (0 : Int) ≤ 4043309056 ∧ (4043309056 : Int) < 4294967296).2).2) rfl
  have g2 := lays_field2 0 5 d2 [] (putS (putS 4043309056 10 12 i2) 5 5 n2) (putS_lt (putS 4043309056 10 12 i2) 5 5 n2 (putS_lt 4043309056 10 12 i2 (by decide : (0 : Int) ≤ 4043309056 ∧ (4043309056 : Int) < 4294967296).1 (by decide : (0 : Int) ≤ 4043309056 ∧ (4043309056 : Int) < 4294967296).2).1 (putS_lt 4043309056 10 12 i2 (by decide : (0 : Int) ≤ 4043309056 ∧ (4043309056 : Int) < 4294967296).1 (by decide : (0 : Int) ≤ 4043309056 ∧ (4043309056 : Int) < 4294967296).2).2) rfl
  have q2 : (d : Int).toNat % 32 = (d2 : Int).toNat % 32 := by
    have e1 : (lays (putS (putS 4043309056 10 12 i) 5 5 n) ((0, 5, d) :: [])) = lays (putS (putS 4043309056 10 12 i2) 5 5 n2) ((0, 5, d2) :: []) := e
    rw [e1] at f2
    exact f2.symm.trans g2
  clear f2 g2
  clear e
  omega
theorem inj_7 (d n m a c i d2 n2 m2 a2 c2 i2 : Int) (h : ok_7 d n m a c i = true) (h' : ok_7 d2 n2 m2 a2 c2 i2 = true) (e : (putS (putS (putS 2332033024 16 5 m) 5 5 n) 0 5 d) = (putS (putS (putS 2332033024 16 5 m2) 5 5 n2) 0 5 d2)) : d = d2 ∧ n = n2 ∧ m = m2 ∧ a = a2 ∧ c = c2 ∧ i = i2 := by
  simp only [ok_7, wi, Bool.and_eq_true, decide_eq_true_eq, beq_iff_eq] at h h'
  have f0 := lays_field2 16 5 m [(5, 5, n), (0, 5, d)] 2332033024 (by decide : (0 : Int) ≤ 2332033024 ∧ (2332033024 : Int) < 4294967296) rfl
  have g0 := lays_field2 16 5 m2 [(5, 5, n2), (0, 5, d2)] 2332033024 (by decide : (0 : Int) ≤ 2332033024 ∧ (2332033024 : Int) < 4294967296) rfl
  have q0 : (m : Int).toNat % 32 = (m2 : Int).toNat % 32 := by
    have e1 : (lays 2332033024 ((16, 5, m) :: [(5, 5, n), (0, 5, d)])) = lays 2332033024 ((16, 5, m2) :: [(5, 5, n2), (0, 5, d2)]) := e
    rw [e1] at f0
    exact f0.symm.trans g0
  clear f0 g0
  have f1 := lays_field2 5 5 n [(0, 5, d)] (putS 2332033024 16 5 m) (putS_lt 2332033024 16 5 m (by decide : (0 : Int) ≤ 2332033024 ∧ (2332033024 : Int) < 4294967296).1 (by decide : (0 : Int) ≤ 2332033024 ∧ (2332033024 : Int) < 4294967296).2) rfl
  have g1 := lays_field2 5 5 n2 [(0, 5, d2)] (putS 2332033024 16 5 m2) (putS_lt 2332033024 16 5 m2 (by decide : (0 : Int) ≤ 2332033024 ∧ (2332033024 : Int) < 4294967296).1 (by decide : (0 : Int) ≤ 2332033024 ∧ (2332033024 : Int) < 4294967296).2) rfl
  have q1 : (n : Int).toNat % 32 = (n2 : Int).toNat % 32 := by
    have e1 : (lays (putS 2332033024 16 5 m) ((5, 5, n) :: [(0, 5, d)])) = lays (putS 2332033024 16 5 m2) ((5, 5, n2) :: [(0, 5, d2)]) := e
    rw [e1] at f1
    exact f1.symm.trans g1
  clear f1 g1
  have f2 := lays_field2 0 5 d [] (putS (putS 2332033024 16 5 m) 5 5 n) (putS_lt (putS 2332033024 16 5 m) 5 5 n (putS_lt 2332033024 16 5 m (by decide : (0 : Int) ≤ 2332033024 ∧ (2332033024 : Int) < 4294967296).1 (by decide : (0 : Int) ≤ 2332033024 ∧ (2332033024 : Int) < 4294967296).2).1 (putS_lt 2332033024 16 5 m (by decide : (0 : Int) ≤ 2332033024 ∧ (2332033024 : Int) < 4294967296).1 (by decide : (0 : Int) ≤ 2332033024 ∧ (2332033024 : Int) < 4294967296).2).2) rfl
  have g2 := lays_field2 0 5 d2 [] (putS (putS 2332033024 16 5 m2) 5 5 n2) (putS_lt (putS 2332033024 16 5 m2) 5 5 n2 (putS_lt 2332033024 16 5 m2 (by decide : (0 : Int) ≤ 2332033024 ∧ (2332033024 : Int) < 4294967296).1 (by decide : (0 : Int) ≤ 2332033024 ∧ (2332033024 : Int) < 4294967296).2).1 (putS_lt 2332033024 16 5 m2 (by decide : (0 : Int) ≤ 2332033024 ∧ (2332033024 : Int) < 4294967296).1 (by decide : (0 : Int) ≤ 2332033024 ∧ (2332033024 : Int) < 4294967296).2).2) rfl
  have q2 : (d : Int).toNat % 32 = (d2 : Int).toNat % 32 := by
    have e1 : (lays (putS (putS 2332033024 16 5 m) 5 5 n) ((0, 5, d) :: [])) = lays (putS (putS 2332033024 16 5 m2) 5 5 n2) ((0, 5, d2) :: []) := e
    rw [e1] at f2
    exact f2.symm.trans g2
  clear f2 g2
  clear e
  omega
theorem inj_8 (d n m a c i d2 n2 m2 a2 c2 i2 : Int) (h : ok_8 d n m a c i = true) (h' : ok_8 d2 n2 m2 a2 c2 i2 = true) (e : (putS (putS (putS 3405774848 16 5 m) 5 5 n) 0 5 d) = (putS (putS (putS 3405774848 16 5 m2) 5 5 n2) 0 5 d2)) : d = d2 ∧ n = n2 ∧ m = m2 ∧ a = a2 ∧ c = c2 ∧ i = i2 := by
  simp only [ok_8, wi, Bool.and_eq_true, decide_eq_true_eq, beq_iff_eq] at h h'
  have f0 := lays_field2 16 5 m [(5, 5, n), (0, 5, d)] 3405774848 (by decide : (0 : Int) ≤ 3405774848 ∧ (3405774848 : Int) < 4294967296) rfl
  have g0 := lays_field2 16 5 m2 [(5, 5, n2), (0, 5, d2)] 3405774848 (by decide : (0 : Int) ≤ 3405774848 ∧ (3405774848 : Int) < 4294967296) rfl
  have q0 : (m : Int).toNat % 32 = (m2 : Int).toNat % 32 := by
    have e1 : (lays 3405774848 ((16, 5, m) :: [(5, 5, n), (0, 5, d)])) = lays 3405774848 ((16, 5, m2) :: [(5, 5, n2), (0, 5, d2)]) := e
    rw [e1] at f0
    exact f0.symm.trans g0
  clear f0 g0
  have f1 := lays_field2 5 5 n [(0, 5, d)] (putS 3405774848 16 5 m) (putS_lt 3405774848 16 5 m (by decide : (0 : Int) ≤ 3405774848 ∧ (3405774848 : Int) < 4294967296).1 (by decide : (0 : Int) ≤ 3405774848 ∧ (3405774848 : Int) < 4294967296).2) rfl
  have g1 := lays_field2 5 5 n2 [(0, 5, d2)] (putS 3405774848 16 5 m2) (putS_lt 3405774848 16 5 m2 (by decide : (0 : Int) ≤ 3405774848 ∧ (3405774848 : Int) < 4294967296).1 (by decide : (0 : Int) ≤ 3405774848 ∧ (3405774848 : Int) < 4294967296).2) rfl
  have q1 : (n : Int).toNat % 32 = (n2 : Int).toNat % 32 := by
    have e1 : (lays (putS 3405774848 16 5 m) ((5, 5, n) :: [(0, 5, d)])) = lays (putS 3405774848 16 5 m2) ((5, 5, n2) :: [(0, 5, d2)]) := e
    rw [e1] at f1
    exact f1.symm.trans g1
  clear f1 g1
  have f2 := lays_field2 0 5 d [] (putS (putS 3405774848 16 5 m) 5 5 n) (putS_lt (putS 3405774848 16 5 m) 5 5 n (putS_lt 3405774848 16 5 m (by decide : (0 : Int) ≤ 3405774848 ∧ (3405774848 : Int) < 4294967296).1 (by decide : (0 : Int) ≤ 3405774848 ∧ (3405774848 : Int) < 4294967296).2).1 (putS_lt 3405774848 16 5 m (by decide : (0 : Int) ≤ 3405774848 ∧ (3405774848 : Int) < 4294967296).1 (by decide : (0 : Int) ≤ 3405774848 ∧ (3405774848 : Int) < 4294967296).2).2) rfl
  have g2 := lays_field2 0 5 d2 [] (putS (putS 3405774848 16 5 m2) 5 5 n2) (putS_lt (putS 3405774848 16 5 m2) 5 5 n2 (putS_lt 3405774848 16 5 m2 (by decide : (0 : Int) ≤ 3405774848 ∧ (3405774848 : Int) < 4294967296).1 (by decide : (0 : Int) ≤ 3405774848 ∧ (3405774848 : Int) < 4294967296).2).1 (putS_lt 3405774848 16 5 m2 (by decide : (0 : Int) ≤ 3405774848 ∧ (3405774848 : Int) < 4294967296).1 (by decide : (0 : Int) ≤ 3405774848 ∧ (3405774848 : Int) < 4294967296).2).2) rfl
  have q2 : (d : Int).toNat % 32 = (d2 : Int).toNat % 32 := by
    have e1 : (lays (putS (putS 3405774848 16 5 m) 5 5 n) ((0, 5, d) :: [])) = lays (putS (putS 3405774848 16 5 m2) 5 5 n2) ((0, 5, d2) :: []) := e
    rw [e1] at f2
    exact f2.symm.trans g2
  clear f2 g2
  clear e
  omega
theorem inj_9 (d n m a c i d2 n2 m2 a2 c2 i2 : Int) (h : ok_9 d n m a c i = true) (h' : ok_9 d2 n2 m2 a2 c2 i2 = true) (e : (putS (putS (putS 3942645760 16 5 m) 5 5 n) 0 5 d) = (putS (putS (putS 3942645760 16 5 m2) 5 5 n2) 0 5 d2)) : d = d2 ∧ n = n2 ∧ m = m2 ∧ a = a2 ∧ c = c2 ∧ i = i2 := by
  simp only [ok_9, wi, Bool.and_eq_true, decide_eq_true_eq, beq_iff_eq] at h h'
  have f0 := lays_field2 16 5 m [(5, 5, n), (0, 5, d)] 3942645760 (by decide : (0 : Int) ≤ 3942645760 ∧ (3942645760 : Int) < 4294967296) rfl
  have g0 := lays_field2 16 5 m2 [(5, 5, n2), (0, 5, d2)] 3942645760 (by decide : (0 : Int) ≤ 3942645760 ∧ (3942645760 : Int) < 4294967296) rfl
  have q0 : (m : Int).toNat % 32 = (m2 : Int).toNat % 32 := by
    have e1 : (lays 3942645760 ((16, 5, m) :: [(5, 5, n), (0, 5, d)])) = lays 3942645760 ((16, 5, m2) :: [(5, 5, n2), (0, 5, d2)]) := e
    rw [e1] at f0
    exact f0.symm.trans g0
  clear f0 g0
  have f1 := lays_field2 5 5 n [(0, 5, d)] (putS 3942645760 16 5 m) (putS_lt 3942645760 16 5 m (by decide : (0 : Int) ≤ 3942645760 ∧ (3942645760 : Int) < 4294967296).1 (by decide : (0 : Int) ≤ 3942645760 ∧ (3942645760 : Int) < 4294967296).2) rfl
  have g1 := lays_field2 5 5 n2 [(0, 5, d2)] (putS 3942645760 16 5 m2) (putS_lt 3942645760 16 5 m2 (by decide : (0 : Int) ≤ 3942645760 ∧ (3942645760 : Int) < 4294967296).1 (by decide : (0 : Int) ≤ 3942645760 ∧ (3942645760 : Int) < 4294967296).2) rfl
  have q1 : (n : Int).toNat % 32 = (n2 : Int).toNat % 32 := by
    have e1 : (lays (putS 3942645760 16 5 m) ((5, 5, n) :: [(0, 5, d)])) = lays (putS 3942645760 16 5 m2) ((5, 5, n2) :: [(0, 5, d2)]) := e
    rw [e1] at f1
    exact f1.symm.trans g1
  clear f1 g1
  have f2 := lays_field2 0 5 d [] (putS (putS 3942645760 16 5 m) 5 5 n) (putS_lt (putS 3942645760 16 5 m) 5 5 n (putS_lt 3942645760 16 5 m (by decide : (0 : Int) ≤ 3942645760 ∧ (3942645760 : Int) < 4294967296).1 (by decide : (0 : Int) ≤ 3942645760 ∧ (3942645760 : Int) < 4294967296).2).1 (putS_lt 3942645760 16 5 m (by decide : (0 : Int) ≤ 3942645760 ∧ (3942645760 : Int) < 4294967296).1 (by decide : (0 : Int) ≤ 3942645760 ∧ (3942645760 : Int) < 4294967296).2).2) rfl
  have g2 := lays_field2 0 5 d2 [] (putS (putS 3942645760 16 5 m2) 5 5 n2) (putS_lt (putS 3942645760 16 5 m2) 5 5 n2 (putS_lt 3942645760 16 5 m2 (by decide : (0 : Int) ≤ 3942645760 ∧ (3942645760 : Int) < 4294967296).1 (by decide : (0 : Int) ≤ 3942645760 ∧ (3942645760 : Int) < 4294967296).2).1 (putS_lt 3942645760 16 5 m2 (by decide : (0 : Int) ≤ 3942645760 ∧ (3942645760 : Int) < 4294967296).1 (by decide : (0 : Int) ≤ 3942645760 ∧ (3942645760 : Int) < 4294967296).2).2) rfl
  have q2 : (d : Int).toNat % 32 = (d2 : Int).toNat % 32 := by
    have e1 : (lays (putS (putS 3942645760 16 5 m) 5 5 n) ((0, 5, d) :: [])) = lays (putS (putS 3942645760 16 5 m2) 5 5 n2) ((0, 5, d2) :: []) := e
    rw [e1] at f2
    exact f2.symm.trans g2
  clear f2 g2
  clear e
  omega
theorem inj_10 (d n m a c i d2 n2 m2 a2 c2 i2 : Int) (h : ok_10 d n m a c i = true) (h' : ok_10 d2 n2 m2 a2 c2 i2 = true) (e : (putS (putS (putS 2315255808 16 5 m) 5 5 n) 0 5 d) = (putS (putS (putS 2315255808 16 5 m2) 5 5 n2) 0 5 d2)) : d = d2 ∧ n = n2 ∧ m = m2 ∧ a = a2 ∧ c = c2 ∧ i = i2 := by
  simp only [ok_10, wi, Bool.and_eq_true, decide_eq_true_eq, beq_iff_eq] at h h'
  have f0 := lays_field2 16 5 m [(5, 5, n), (0, 5, d)] 2315255808 (by decide : (0 : Int) ≤ 2315255808 ∧ (2315255808 : Int) < 4294967296) rfl
  have g0 := lays_field2 16 5 m2 [(5, 5, n2), (0, 5, d2)] 2315255808 (by decide : (0 : Int) ≤ 2315255808 ∧ (2315255808 : Int) < 4294967296) rfl
  have q0 : (m : Int).toNat % 32 = (m2 : Int).toNat % 32 := by
    have e1 : (lays 2315255808 ((16, 5, m) :: [(5, 5, n), (0, 5, d)])) = lays 2315255808 ((16, 5, m2) :: [(5, 5, n2), (0, 5, d2)]) := e
    rw [e1] at f0
    exact f0.symm.trans g0
  clear f0 g0
  have f1 := lays_field2 5 5 n [(0, 5, d)] (putS 2315255808 16 5 m) (putS_lt 2315255808 16 5 m (by decide : (0 : Int) ≤ 2315255808 ∧ (2315255808 : Int) < 4294967296).1 (by decide : (0 : Int) ≤ 2315255808 ∧ (2315255808 : Int) < 4294967296).2) rfl
  have g1 := lays_field2 5 5 n2 [(0, 5, d2)] (putS 2315255808 16 5 m2) (putS_lt 2315255808 16 5 m2 (by decide : (0 : Int) ≤ 2315255808 ∧ (2315255808 : Int) < 4294967296).1 (by decide : (0 : Int) ≤ 2315255808 ∧ (2315255808 : Int) < 4294967296).2) rfl
  have q1 : (n : Int).toNat % 32 = (n2 : Int).toNat % 32 := by
    have e1 : (lays (putS 2315255808 16 5 m) ((5, 5, n) :: [(0, 5, d)])) = lays (putS 2315255808 16 5 m2) ((5, 5, n2) :: [(0, 5, d2)]) := e
    rw [e1] at f1
    exact f1.symm.trans g1
  clear f1 g1
  have f2 := lays_field2 0 5 d [] (putS (putS 2315255808 16 5 m) 5 5 n) (putS_lt (putS 2315255808 16 5 m) 5 5 n (putS_lt 2315255808 16 5 m (by decide : (0 : Int) ≤ 2315255808 ∧ (2315255808 : Int) < 4294967296).1 (by decide : (0 : Int) ≤ 2315255808 ∧ (2315255808 : Int) < 4294967296).2).1 (putS_lt 2315255808 16 5 m (by decide : (0 : Int) ≤ 2315255808 ∧ (2315255808 : Int) < 4294967296).1 (by decide : (0 : Int) ≤ 2315255808 ∧ (2315255808 : Int) < 4294967296).2).2) rfl
  have g2 := lays_field2 0 5 d2 [] (putS (putS 2315255808 16 5 m2) 5 5 n2) (putS_lt (putS 2315255808 16 5 m2) 5 5 n2 (putS_lt 2315255808 16 5 m2 (by decide : (0 : Int) ≤ 2315255808 ∧ (2315255808 : Int) < 4294967296).1 (by decide : (0 : Int) ≤ 2315255808 ∧ (2315255808 : Int) < 4294967296).2).1 (putS_lt 2315255808 16 5 m2 (by decide : (0 : Int) ≤ 2315255808 ∧ (2315255808 : Int) < 4294967296).1 (by decide : (0 : Int) ≤ 2315255808 ∧ (2315255808 : Int) < 4294967296).2).2) rfl
  have q2 : (d : Int).toNat % 32 = (d2 : Int).toNat % 32 := by
    have e1 : (lays (putS (putS 2315255808 16 5 m) 5 5 n) ((0, 5, d) :: [])) = lays (putS (putS 2315255808 16 5 m2) 5 5 n2) ((0, 5, d2) :: []) := e
    rw [e1] at f2
    exact f2.symm.trans g2
  clear f2 g2
  clear e
  omega
theorem inj_11 (d n m a c i d2 n2 m2 a2 c2 i2 : Int) (h : ok_11 d n m a c i = true) (h' : ok_11 d2 n2 m2 a2 c2 i2 = true) (e : (putS (putS (putS 2852126720 16 5 m) 5 5 n) 0 5 d) = (putS (putS (putS 2852126720 16 5 m2) 5 5 n2) 0 5 d2)) : d = d2 ∧ n = n2 ∧ m = m2 ∧ a = a2 ∧ c = c2 ∧ i = i2 := by
  simp only [ok_11, wi, Bool.and_eq_true, decide_eq_true_eq, beq_iff_eq] at h h'
  have f0 := lays_field2 16 5 m [(5, 5, n), (0, 5, d)] 2852126720 (by decide : (0 : Int) ≤ 2852126720 ∧ (2852126720 : Int) < 4294967296) rfl
  have g0 := lays_field2 16 5 m2 [(5, 5, n2), (0, 5, d2)] 2852126720 (by decide : (0 : Int) ≤ 2852126720 ∧ (2852126720 : Int) < 4294967296) rfl
  have q0 : (m : Int).toNat % 32 = (m2 : Int).toNat % 32 := by
    have e1 : (lays 2852126720 ((16, 5, m) :: [(5, 5, n), (0, 5, d)])) = lays 2852126720 ((16, 5, m2) :: [(5, 5, n2), (0, 5, d2)]) := e
    rw [e1] at f0
    exact f0.symm.trans g0
  clear f0 g0
  have f1 := lays_field2 5 5 n [(0, 5, d)] (putS 2852126720 16 5 m) (putS_lt 2852126720 16 5 m (by decide : (0 : Int) ≤ 2852126720 ∧ (2852126720 : Int) < 4294967296).1 (by decide : (0 : Int) ≤ 2852126720 ∧ (2852126720 : Int) < 4294967296).2) rfl
  have g1 := lays_field2 5 5 n2 [(0, 5, d2)] (putS 2852126720 16 5 m2) (putS_lt 2852126720 16 5 m2 (by decide : (0 : Int) ≤ 2852126720 ∧ (2852126720 : Int) < 4294967296).1 (by decide : (0 : Int) ≤ 2852126720 ∧ (2852126720 : Int) < 4294967296).2) rfl
  have q1 : (n : Int).toNat % 32 = (n2 : Int).toNat % 32 := by
    have e1 : (lays (putS 2852126720 16 5 m) ((5, 5, n) :: [(0, 5, d)])) = lays (putS 2852126720 16 5 m2) ((5, 5, n2) :: [(0, 5, d2)]) := e
    rw [e1] at f1
    exact f1.symm.trans g1
  clear f1 g1
  have f2 := lays_field2 0 5 d [] (putS (putS 2852126720 16 5 m) 5 5 n) (putS_lt (putS 2852126720 16 5 m) 5 5 n (putS_lt 2852126720 16 5 m (by decide : (0 : Int) ≤ 2852126720 ∧ (2852126720 : Int) < 4294967296).1 (by decide : (0 : Int) ≤ 2852126720 ∧ (2852126720 : Int) < 4294967296).2).1 (putS_lt 2852126720 16 5 m (by decide : (0 : Int) ≤ 2852126720 ∧ (2852126720 : Int) < 4294967296).1 (by decide : (0 : Int) ≤ 2852126720 ∧ (2852126720 : Int) < 4294967296).2).2) rfl
  have g2 := lays_field2 0 5 d2 [] (putS (putS 2852126720 16 5 m2) 5 5 n2) (putS_lt (putS 2852126720 16 5 m2) 5 5 n2 (putS_lt 2852126720 16 5 m2 (by decide : (0 : Int) ≤ 2852126720 ∧ (2852126720 : Int) < 4294967296).1 (by decide : (0 : Int) ≤ 2852126720 ∧ (2852126720 : Int) < 4294967296).2).1 (putS_lt 2852126720 16 5 m2 (by decide : (0 : Int) ≤ 2852126720 ∧ (2852126720 : Int) < 4294967296).1 (by decide : (0 : Int) ≤ 2852126720 ∧ (2852126720 : Int) < 4294967296).2).2) rfl
  have q2 : (d : Int).toNat % 32 = (d2 : Int).toNat % 32 := by
    have e1 : (lays (putS (putS 2852126720 16 5 m) 5 5 n) ((0, 5, d) :: [])) = lays (putS (putS 2852126720 16 5 m2) 5 5 n2) ((0, 5, d2) :: []) := e
    rw [e1] at f2
    exact f2.symm.trans g2
  clear f2 g2
  clear e
  omega
theorem inj_12 (d n m a c i d2 n2 m2 a2 c2 i2 : Int) (h : ok_12 d n m a c i = true) (h' : ok_12 d2 n2 m2 a2 c2 i2 = true) (e : (putS (putS (putS 3388997632 16 5 m) 5 5 n) 0 5 d) = (putS (putS (putS 3388997632 16 5 m2) 5 5 n2) 0 5 d2)) : d = d2 ∧ n = n2 ∧ m = m2 ∧ a = a2 ∧ c = c2 ∧ i = i2 := by
  simp only [ok_12, wi, Bool.and_eq_true, decide_eq_true_eq, beq_iff_eq] at h h'
  have f0 := lays_field2 16 5 m [(5, 5, n), (0, 5, d)] 3388997632 (by decide : (0 : Int) ≤ 3388997632 ∧ (3388997632 : Int) < 4294967296) rfl
  have g0 := lays_field2 16 5 m2 [(5, 5, n2), (0, 5, d2)] 3388997632 (by decide : (0 : Int) ≤ 3388997632 ∧ (3388997632 : Int) < 4294967296) rfl
  have q0 : (m : Int).toNat % 32 = (m2 : Int).toNat % 32 := by
    have e1 : (lays 3388997632 ((16, 5, m) :: [(5, 5, n), (0, 5, d)])) = lays 3388997632 ((16, 5, m2) :: [(5, 5, n2), (0, 5, d2)]) := e
    rw [e1] at f0
    exact f0.symm.trans g0
  clear f0 g0
  have f1 := lays_field2 5 5 n [(0, 5, d)] (putS 3388997632 16 5 m) (putS_lt 3388997632 16 5 m (by decide : (0 : Int) ≤ 3388997632 ∧ (3388997632 : Int) < 4294967296).1 (by decide : (0 : Int) ≤ 3388997632 ∧ (3388997632 : Int) < 4294967296).2) rfl
  have g1 := lays_field2 5 5 n2 [(0, 5, d2)] (putS 3388997632 16 5 m2) (putS_lt 3388997632 16 5 m2 (by decide : (0 : Int) ≤ 3388997632 ∧ (3388997632 : Int) < 4294967296).1 (by decide : (0 : Int) ≤ 3388997632 ∧ (3388997632 : Int) < 4294967296).2) rfl
  have q1 : (n : Int).toNat % 32 = (n2 : Int).toNat % 32 := by
    have e1 : (lays (putS 3388997632 16 5 m) ((5, 5, n) :: [(0, 5, d)])) = lays (putS 3388997632 16 5 m2) ((5, 5, n2) :: [(0, 5, d2)]) := e
    rw [e1] at f1
    exact f1.symm.trans g1
  clear f1 g1
  have f2 := lays_field2 0 5 d [] (putS (putS 3388997632 16 5 m) 5 5 n) (putS_lt (putS 3388997632 16 5 m) 5 5 n (putS_lt 3388997632 16 5 m (by decide : (0 : Int) ≤ 3388997632 ∧ (3388997632 : Int) < 4294967296).1 (by decide : (0 : Int) ≤ 3388997632 ∧ (3388997632 : Int) < 4294967296).2).1 (putS_lt 3388997632 16 5 m (by decide : (0 : Int) ≤ 3388997632 ∧ (3388997632 : Int) < 4294967296).1 (by decide : (0 : Int) ≤ 3388997632 ∧ (3388997632 : Int) < 4294967296).2).2) rfl
  have g2 := lays_field2 0 5 d2 [] (putS (putS 3388997632 16 5 m2) 5 5 n2) (putS_lt (putS 3388997632 16 5 m2) 5 5 n2 (putS_lt 3388997632 16 5 m2 (by decide : (0 : Int) ≤ 3388997632 ∧ (3388997632 : Int) < 4294967296).1 (by decide : (0 : Int) ≤ 3388997632 ∧ (3388997632 : Int) < 4294967296).2).1 (putS_lt 3388997632 16 5 m2 (by decide : (0 : Int) ≤ 3388997632 ∧ (3388997632 : Int) < 4294967296).1 (by decide : (0 : Int) ≤ 3388997632 ∧ (3388997632 : Int) < 4294967296).2).2) rfl
  have q2 : (d : Int).toNat % 32 = (d2 : Int).toNat % 32 := by
    have e1 : (lays (putS (putS 3388997632 16 5 m) 5 5 n) ((0, 5, d) :: [])) = lays (putS (putS 3388997632 16 5 m2) 5 5 n2) ((0, 5, d2) :: []) := e
    rw [e1] at f2
    exact f2.symm.trans g2
  clear f2 g2
  clear e
  omega
theorem inj_13 (d n m a c i d2 n2 m2 a2 c2 i2 : Int) (h : ok_13 d n m a c i = true) (h' : ok_13 d2 n2 m2 a2 c2 i2 = true) (e : (putS (putS (putS (putS 2600468480 16 5 m) 10 5 a) 5 5 n) 0 5 d) = (putS (putS (putS (putS 2600468480 16 5 m2) 10 5 a2) 5 5 n2) 0 5 d2)) : d = d2 ∧ n = n2 ∧ m = m2 ∧ a = a2 ∧ c = c2 ∧ i = i2 := by
  simp only [ok_13, wi, Bool.and_eq_true, decide_eq_true_eq, beq_iff_eq] at h h'
  have f0 := lays_field2 16 5 m [(10, 5, a), (5, 5, n), (0, 5, d)] 2600468480 (by decide : (0 : Int) ≤ 2600468480 ∧ (2600468480 : Int) < 4294967296) rfl
  have g0 := lays_field2 16 5 m2 [(10, 5, a2), (5, 5, n2), (0, 5, d2)] 2600468480 (by decide : (0 : Int) ≤ 2600468480 ∧ (2600468480 : Int) < 4294967296) rfl
  have q0 : (m : Int).toNat % 32 = (m2 : Int).toNat % 32 := by
    have e1 : (lays 2600468480 ((16, 5, m) :: [(10, 5, a), (5, 5, n), (0, 5, d)])) = lays 2600468480 ((16, 5, m2) :: [(10, 5, a2), (5, 5, n2), (0, 5, d2)]) := e
    rw [e1] at f0
    exact f0.symm.trans g0
  clear f0 g0
  have f1 := lays_field2 10 5 a [(5, 5, n), (0, 5, d)] (putS 2600468480 16 5 m) (putS_lt 2600468480 16 5 m (by decide : (0 : Int) ≤ 2600468480 ∧ (2600468480 : Int) < 4294967296).1 (by decide : (0 : Int) ≤ 2600468480 ∧ (2600468480 : Int) < 4294967296).2) rfl
  have g1 := lays_field2 10 5 a2 [(5, 5, n2), (0, 5, d2)] (putS 2600468480 16 5 m2) (putS_lt 2600468480 16 5 m2 (by decide : (0 : Int) ≤ 2600468480 ∧ (2600468480 : Int) < 4294967296).1 (by decide : (0 : Int) ≤ 2600468480 ∧ (2600468480 : Int) < 4294967296).2) rfl
  have q1 : (a : Int).toNat % 32 = (a2 : Int).toNat % 32 := by
    have e1 : (lays (putS 2600468480 16 5 m) ((10, 5, a) :: [(5, 5, n), (0, 5, d)])) = lays (putS 2600468480 16 5 m2) ((10, 5, a2) :: [(5, 5, n2), (0, 5, d2)]) := e
    rw [e1] at f1
    exact f1.symm.trans g1
  clear f1 g1
  have f2 := lays_field2 5 5 n [(0, 5, d)] (putS (putS 2600468480 16 5 m) 10 5 a) (putS_lt (putS 2600468480 16 5 m) 10 5 a (putS_lt 2600468480 16 5 m (by decide : (0 : Int) ≤ 2600468480 ∧ (2600468480 : Int) < 4294967296).1 (by decide : (0 : Int) ≤ 2600468480 ∧ (2600468480 : Int) < 4294967296).2).1 (putS_lt 2600468480 16 5 m (by decide : (0 : Int) ≤ 2600468480 ∧ (2600468480 : Int) < 4294967296).1 (by decide : (0 : Int) ≤ 2600468480 ∧ (2600468480 : Int) < 4294967296).2).2) rfl
  have g2 := lays_field2 5 5 n2 [(0, 5, d2)] (putS (putS 2600468480 16 5 m2) 10 5 a2) (putS_lt (putS 2600468480 16 5 m2) 10 5 a2 (putS_lt 2600468480 16 5 m2 (by decide : (0 : Int) ≤ 2600468480 ∧ (2600468480 : Int) < 4294967296).1 (by decide : (0 : Int) ≤ 2600468480 ∧ (2600468480 : Int) < 4294967296).2).1 (putS_lt 2600468480 16 5 m2 (by decide : (0 : Int) ≤ 2600468480 ∧ (2600468480 : Int) < 4294967296).1 (by decide : (0 : Int) ≤ 2600468480 ∧ (2600468480 : Int) < 4294967296).2).2) rfl
  have q2 : (n : Int).toNat % 32 = (n2 : Int).toNat % 32 := by
    have e1 : (lays (putS (putS 2600468480 16 5 m) 10 5 a) ((5, 5, n) :: [(0, 5, d)])) = lays (putS (putS 2600468480 16 5 m2) 10 5 a2) ((5, 5, n2) :: [(0, 5, d2)]) := e
    rw [e1] at f2
    exact f2.symm.trans g2
  clear f2 g2
  have f3 := lays_field2 0 5 d [] (putS (putS (putS 2600468480 16 5 m) 10 5 a) 5 5 n) (putS_lt (putS (putS 2600468480 16 5 m) 10 5 a) 5 5 n (putS_lt (putS 2600468480 16 5 m) 10 5 a (putS_lt 2600468480 16 5 m (by decide : (0 : Int) ≤ 2600468480 ∧ (2600468480 : Int) < 4294967296).1 (by decide : (0 : Int) ≤ 2600468480 ∧ (2600468480 : Int) < 4294967296).2).1 (putS_lt 2600468480 16 5 m (by decide : (0 : Int) ≤ 2600468480 ∧ (2600468480 : Int) < 4294967296).1 (by decide : (0 : Int) ≤ 2600468480 ∧ (2600468480 : Int) < 4294967296).2).2).1 (putS_lt (putS 2600468480 16 5 m) 10 5 a (putS_lt 2600468480 16 5 m (by decide : (0 : Int) ≤ 2600468480 ∧ (2600468480 : Int) < 4294967296).1 (by decide : (0 : Int) ≤ 2600468480 ∧ (2600468480 : Int) < 4294967296).2).1 (putS_lt 2600468480 16 5 m (by decide : (0 : Int) ≤ 2600468480 ∧ (2600468480 : Int) < 4294967296).1 (by decide : (0 : Int) ≤ 2600468480 ∧ (2600468480 : Int) < 4294967296).2).2).2) rfl
  have g3 := lays_field2 0 5 d2 [] (putS (putS (putS 2600468480 16 5 m2) 10 5 a2) 5 5 n2) (putS_lt (putS (putS 2600468480 16 5 m2) 10 5 a2) 5 5 n2 (putS_lt (putS 2600468480 16 5 m2) 10 5 a2 (putS_lt 2600468480 16 5 m2 (by decide : (0 : Int) ≤ 2600468480 ∧ (2600468480 : Int) < 4294967296).1 (by decide : (0 : Int) ≤ 2600468480 ∧ (2600468480 : Int) < 4294967296).2).1 (putS_lt 2600468480 16 5 m2 (by decide : (0 : Int) ≤ 2600468480 ∧ (2600468480 : Int) < 4294967296).1 (by decide : (0 : Int) ≤ 2600468480 ∧ (2600468480 : Int) < 4294967296).2).2).1 (putS_lt (putS 2600468480 16 5 m2) 10 5 a2 (putS_lt 2600468480 16 5 m2 (by decide : (0 : Int) ≤ 2600468480 ∧ (2600468480 : Int) < 4294967296).1 (by decide : (0 : Int) ≤ 2600468480 ∧ (2600468480 : Int) < 4294967296).2).1 (putS_lt 2600468480 16 5 m2 (by decide : (0 : Int) ≤ 2600468480 ∧ (2600468480 : Int) < 4294967296).1 (by decide : (0 : Int) ≤ 2600468480 ∧ (2600468480 : Int) < 4294967296).2).2).2) rfl
  have q3 : (d : Int).toNat % 32 = (d2 : Int).toNat % 32 := by
    have e1 : (lays (putS (putS (putS 2600468480 16 5 m) 10 5 a) 5 5 n) ((0, 5, d) :: [])) = lays (putS (putS (putS 2600468480 16 5 m2) 10 5 a2) 5 5 n2) ((0, 5, d2) :: []) := e
    rw [e1] at f3
    exact f3.symm.trans g3
  clear f3 g3
  clear e
  omega
theorem inj_14 (d n m a c i d2 n2 m2 a2 c2 i2 : Int) (h : ok_14 d n m a c i = true) (h' : ok_14 d2 n2 m2 a2 c2 i2 = true) (e : (putS (putS (putS (putS 2600501248 16 5 m) 10 5 a) 5 5 n) 0 5 d) = (putS (putS (putS (putS 2600501248 16 5 m2) 10 5 a2) 5 5 n2) 0 5 d2)) : d = d2 ∧ n = n2 ∧ m = m2 ∧ a = a2 ∧ c = c2 ∧ i = i2 := by
  simp only [ok_14, wi, Bool.and_eq_true, decide_eq_true_eq, beq_iff_eq] at h h'
  have f0 := lays_field2 16 5 m [(10, 5, a), (5, 5, n), (0, 5, d)] 2600501248 (by decide : (0 : Int) ≤ 2600501248 ∧ (2600501248 : Int) < 4294967296) rfl
  have g0 := lays_field2 16 5 m2 [(10, 5, a2), (5, 5, n2), (0, 5, d2)] 2600501248 (by decide : (0 : Int) ≤ 2600501248 ∧ (2600501248 : Int) < 4294967296) rfl
  have q0 : (m : Int).toNat % 32 = (m2 : Int).toNat % 32 := by
    have e1 : (lays 2600501248 ((16, 5, m) :: [(10, 5, a), (5, 5, n), (0, 5, d)])) = lays 2600501248 ((16, 5, m2) :: [(10, 5, a2), (5, 5, n2), (0, 5, d2)]) := e
    rw [e1] at f0
    exact f0.symm.trans g0
  clear f0 g0
  have f1 := lays_field2 10 5 a [(5, 5, n), (0, 5, d)] (putS 2600501248 16 5 m) (putS_lt 2600501248 16 5 m (by decide : (0 : Int) ≤ 2600501248 ∧ (2600501248 : Int) < 4294967296).1 (by decide : (0 : Int) ≤ 2600501248 ∧ (2600501248 : Int) < 4294967296).2) rfl
  have g1 := lays_field2 10 5 a2 [(5, 5, n2), (0, 5, d2)] (putS 2600501248 16 5 m2) (putS_lt 2600501248 16 5 m2 (by decide : (0 : Int) ≤ 2600501248 ∧ (2600501248 : Int) < 4294967296).1 (by decide : (0 : Int) ≤ 2600501248 ∧ (2600501248 : Int) < 4294967296).2) rfl
  have q1 : (a : Int).toNat % 32 = (a2 : Int).toNat % 32 := by
    have e1 : (lays (putS 2600501248 16 5 m) ((10, 5, a) :: [(5, 5, n), (0, 5, d)])) = lays (putS 2600501248 16 5 m2) ((10, 5, a2) :: [(5, 5, n2), (0, 5, d2)]) := e
    rw [e1] at f1
    exact f1.symm.trans g1
  clear f1 g1
  have f2 := lays_field2 5 5 n [(0, 5, d)] (putS (putS 2600501248 16 5 m) 10 5 a) (putS_lt (putS 2600501248 16 5 m) 10 5 a (putS_lt 2600501248 16 5 m (by decide : (0 : Int) ≤ 2600501248 ∧ (2600501248 : Int) < 4294967296).1 (by decide : (0 : Int) ≤ 2600501248 ∧ (2600501248 : Int) < 4294967296).2).1 (putS_lt 2600501248 16 5 m (by decide : (0 : Int) ≤ 2600501248 ∧ (2600501248 : Int) < 4294967296).1 (by decide : (0 : Int) ≤ 2600501248 ∧ (2600501248 : Int) < 4294967296).2).2) rfl
  have g2 := lays_field2 5 5 n2 [(0, 5, d2)] (putS (putS 2600501248 16 5 m2) 10 5 a2) (putS_lt (putS 2600501248 16 5 m2) 10 5 a2 (putS_lt 2600501248 16 5 m2 (by decide : (0 : Int) ≤ 2600501248 ∧ (2600501248 : Int) < 4294967296).1 (by decide : (0 : Int) ≤ 2600501248 ∧ (2600501248 : Int) < 4294967296).2).1 (putS_lt 2600501248 16 5 m2 (by decide : (0 : Int) ≤ 2600501248 ∧ (2600501248 : Int) < 4294967296).1 (by decide : (0 : Int) ≤ 2600501248 ∧ (2600501248 : Int) < 4294967296).2).2) rfl
  have q2 : (n : Int).toNat % 32 = (n2 : Int).toNat % 32 := by
    have e1 : (lays (putS (putS 2600501248 16 5 m) 10 5 a) ((5, 5, n) :: [(0, 5, d)])) = lays (putS (putS 2600501248 16 5 m2) 10 5 a2) ((5, 5, n2) :: [(0, 5, d2)]) := e
    rw [e1] at f2
    exact f2.symm.trans g2
  clear f2 g2
  have f3 := lays_field2 0 5 d [] (putS (putS (putS 2600501248 16 5 m) 10 5 a) 5 5 n) (putS_lt (putS (putS 2600501248 16 5 m) 10 5 a) 5 5 n (putS_lt (putS 2600501248 16 5 m) 10 5 a (putS_lt 2600501248 16 5 m (by decide : (0 : Int) ≤ 2600501248 ∧ (2600501248 : Int) < 4294967296).1 (by decide : (0 : Int) ≤ 2600501248 ∧ (2600501248 : Int) < 4294967296).2).1 (putS_lt 2600501248 16 5 m (by decide : (0 : Int) ≤ 2600501248 ∧ (2600501248 : Int) < 4294967296).1 (by decide : (0 : Int) ≤ 2600501248 ∧ (2600501248 : Int) < 4294967296).2).2).1 (putS_lt (putS 2600501248 16 5 m) 10 5 a (putS_lt 2600501248 16 5 m (by decide : (0 : Int) ≤ 2600501248 ∧ (2600501248 : Int) < 4294967296).1 (by decide : (0 : Int) ≤ 2600501248 ∧ (2600501248 : Int) < 4294967296).2).1 (putS_lt 2600501248 16 5 m (by decide : (0 : Int) ≤ 2600501248 ∧ (2600501248 : Int) < 4294967296).1 (by decide : (0 : Int) ≤ 2600501248 ∧ (2600501248 : Int) < 4294967296).2).2).2) rfl
  have g3 := lays_field2 0 5 d2 [] (putS (putS (putS 2600501248 16 5 m2) 10 5 a2) 5 5 n2) (putS_lt (putS (putS 2600501248 16 5 m2) 10 5 a2) 5 5 n2 (putS_lt (putS 2600501248 16 5 m2) 10 5 a2 (putS_lt 2600501248 16 5 m2 (by decide : (0 : Int) ≤ 2600501248 ∧ (2600501248 : Int) < 4294967296).1 (by decide : (0 : Int) ≤ 2600501248 ∧ (2600501248 : Int) < 4294967296).2).1 (putS_lt 2600501248 16 5 m2 (by decide : (0 : Int) ≤ 2600501248 ∧ (2600501248 : Int) < 4294967296).1 (by decide : (0 : Int) ≤ 2600501248 ∧ (2600501248 : Int) < 4294967296).2).2).1 (putS_lt (putS 2600501248 16 5 m2) 10 5 a2 (putS_lt 2600501248 16 5 m2 (by decide : (0 : Int) ≤ 2600501248 ∧ (2600501248 : Int) < 4294967296).1 (by decide : (0 : Int) ≤ 2600501248 ∧ (2600501248 : Int) < 4294967296).2).1 (putS_lt 2600501248 16 5 m2 (by decide : (0 : Int) ≤ 2600501248 ∧ (2600501248 : Int) < 4294967296).1 (by decide : (0 : Int) ≤ 2600501248 ∧ (2600501248 : Int) < 4294967296).2).2).2) rfl
  have q3 : (d : Int).toNat % 32 = (d2 : Int).toNat % 32 := by
    have e1 : (lays (putS (putS (putS 2600501248 16 5 m) 10 5 a) 5 5 n) ((0, 5, d) :: [])) = lays (putS (putS (putS 2600501248 16 5 m2) 10 5 a2) 5 5 n2) ((0, 5, d2) :: []) := e
    rw [e1] at f3
    exact f3.symm.trans g3
  clear f3 g3
  clear e
  omega
theorem inj_15 (d n m a c i d2 n2 m2 a2 c2 i2 : Int) (h : ok_15 d n m a c i = true) (h' : ok_15 d2 n2 m2 a2 c2 i2 = true) (e : (putS (putS (putS 2596277248 16 5 m) 5 5 n) 0 5 d) = (putS (putS (putS 2596277248 16 5 m2) 5 5 n2) 0 5 d2)) : d = d2 ∧ n = n2 ∧ m = m2 ∧ a = a2 ∧ c = c2 ∧ i = i2 := by
  simp only [ok_15, wi, Bool.and_eq_true, decide_eq_true_eq, beq_iff_eq] at h h'
  have f0 := lays_field2 16 5 m [(5, 5, n), (0, 5, d)] 2596277248 (by decide : (0 : Int) ≤ 2596277248 ∧ (2596277248 : Int) < 4294967296) rfl
  have g0 := lays_field2 16 5 m2 [(5, 5, n2), (0, 5, d2)] 2596277248 (by decide : (0 : Int) ≤ 2596277248 ∧ (2596277248 : Int) < 4294967296) rfl
  have q0 : (m : Int).toNat % 32 = (m2 : Int).toNat % 32 := by
    have e1 : (lays 2596277248 ((16, 5, m) :: [(5, 5, n), (0, 5, d)])) = lays 2596277248 ((16, 5, m2) :: [(5, 5, n2), (0, 5, d2)]) := e
    rw [e1] at f0
    exact f0.symm.trans g0
  clear f0 g0
  have f1 := lays_field2 5 5 n [(0, 5, d)] (putS 2596277248 16 5 m) (putS_lt 2596277248 16 5 m (by decide : (0 : Int) ≤ 2596277248 ∧ (2596277248 : Int) < 4294967296).1 (by decide : (0 : Int) ≤ 2596277248 ∧ (2596277248 : Int) < 4294967296).2) rfl
  have g1 := lays_field2 5 5 n2 [(0, 5, d2)] (putS 2596277248 16 5 m2) (putS_lt 2596277248 16 5 m2 (by decide : (0 : Int) ≤ 2596277248 ∧ (2596277248 : Int) < 4294967296).1 (by decide : (0 : Int) ≤ 2596277248 ∧ (2596277248 : Int) < 4294967296).2) rfl
  have q1 : (n : Int).toNat % 32 = (n2 : Int).toNat % 32 := by
    have e1 : (lays (putS 2596277248 16 5 m) ((5, 5, n) :: [(0, 5, d)])) = lays (putS 2596277248 16 5 m2) ((5, 5, n2) :: [(0, 5, d2)]) := e
    rw [e1] at f1
    exact f1.symm.trans g1
  clear f1 g1
  have f2 := lays_field2 0 5 d [] (putS (putS 2596277248 16 5 m) 5 5 n) (putS_lt (putS 2596277248 16 5 m) 5 5 n (putS_lt 2596277248 16 5 m (by decide : (0 : Int) ≤ 2596277248 ∧ (2596277248 : Int) < 4294967296).1 (by decide : (0 : Int) ≤ 2596277248 ∧ (2596277248 : Int) < 4294967296).2).1 (putS_lt 2596277248 16 5 m (by decide : (0 : Int) ≤ 2596277248 ∧ (2596277248 : Int) < 4294967296).1 (by decide : (0 : Int) ≤ 2596277248 ∧ (2596277248 : Int) < 4294967296).2).2) rfl
  have g2 := lays_field2 0 5 d2 [] (putS (putS 2596277248 16 5 m2) 5 5 n2) (putS_lt (putS 2596277248 16 5 m2) 5 5 n2 (putS_lt 2596277248 16 5 m2 (by decide : (0 : Int) ≤ 2596277248 ∧ (2596277248 : Int) < 4294967296).1 (by decide : (0 : Int) ≤ 2596277248 ∧ (2596277248 : Int) < 4294967296).2).1 (putS_lt 2596277248 16 5 m2 (by decide : (0 : Int) ≤ 2596277248 ∧ (2596277248 : Int) < 4294967296).1 (by decide : (0 : Int) ≤ 2596277248 ∧ (2596277248 : Int) < 4294967296).2).2) rfl
  have q2 : (d : Int).toNat % 32 = (d2 : Int).toNat % 32 := by
    have e1 : (lays (putS (putS 2596277248 16 5 m) 5 5 n) ((0, 5, d) :: [])) = lays (putS (putS 2596277248 16 5 m2) 5 5 n2) ((0, 5, d2) :: []) := e
    rw [e1] at f2
    exact f2.symm.trans g2
  clear f2 g2
  clear e
  omega
theorem inj_16 (d n m a c i d2 n2 m2 a2 c2 i2 : Int) (h : ok_16 d n m a c i = true) (h' : ok_16 d2 n2 m2 a2 c2 i2 = true) (e : (putS (putS (putS 2596282368 16 5 m) 5 5 n) 0 5 d) = (putS (putS (putS 2596282368 16 5 m2) 5 5 n2) 0 5 d2)) : d = d2 ∧ n = n2 ∧ m = m2 ∧ a = a2 ∧ c = c2 ∧ i = i2 := by
  simp only [ok_16, wi, Bool.and_eq_true, decide_eq_true_eq, beq_iff_eq] at h h'
  have f0 := lays_field2 16 5 m [(5, 5, n), (0, 5, d)] 2596282368 (by decide : (0 : Int) ≤ 2596282368 ∧ (2596282368 : Int) < 4294967296) rfl
  have g0 := lays_field2 16 5 m2 [(5, 5, n2), (0, 5, d2)] 2596282368 (by decide : (0 : Int) ≤ 2596282368 ∧ (2596282368 : Int) < 4294967296) rfl
  have q0 : (m : Int).toNat % 32 = (m2 : Int).toNat % 32 := by
    have e1 : (lays 2596282368 ((16, 5, m) :: [(5, 5, n), (0, 5, d)])) = lays 2596282368 ((16, 5, m2) :: [(5, 5, n2), (0, 5, d2)]) := e
    rw [e1] at f0
    exact f0.symm.trans g0
  clear f0 g0
  have f1 := lays_field2 5 5 n [(0, 5, d)] (putS 2596282368 16 5 m) (putS_lt 2596282368 16 5 m (by decide : (0 : Int) ≤ 2596282368 ∧ (2596282368 : Int) < 4294967296).1 (by decide : (0 : Int) ≤ 2596282368 ∧ (2596282368 : Int) < 4294967296).2) rfl
  have g1 := lays_field2 5 5 n2 [(0, 5, d2)] (putS 2596282368 16 5 m2) (putS_lt 2596282368 16 5 m2 (by decide : (0 : Int) ≤ 2596282368 ∧ (2596282368 : Int) < 4294967296).1 (by decide : (0 : Int) ≤ 2596282368 ∧ (2596282368 : Int) < 4294967296).2) rfl
  have q1 : (n : Int).toNat % 32 = (n2 : Int).toNat % 32 := by
    have e1 : (lays (putS 2596282368 16 5 m) ((5, 5, n) :: [(0, 5, d)])) = lays (putS 2596282368 16 5 m2) ((5, 5, n2) :: [(0, 5, d2)]) := e
    rw [e1] at f1
    exact f1.symm.trans g1
  clear f1 g1
  have f2 := lays_field2 0 5 d [] (putS (putS 2596282368 16 5 m) 5 5 n) (putS_lt (putS 2596282368 16 5 m) 5 5 n (putS_lt 2596282368 16 5 m (by decide : (0 : Int) ≤ 2596282368 ∧ (2596282368 : Int) < 4294967296).1 (by decide : (0 : Int) ≤ 2596282368 ∧ (2596282368 : Int) < 4294967296).2).1 (putS_lt 2596282368 16 5 m (by decide : (0 : Int) ≤ 2596282368 ∧ (2596282368 : Int) < 4294967296).1 (by decide : (0 : Int) ≤ 2596282368 ∧ (2596282368 : Int) < 4294967296).2).2) rfl
  have g2 := lays_field2 0 5 d2 [] (putS (putS 2596282368 16 5 m2) 5 5 n2) (putS_lt (putS 2596282368 16 5 m2) 5 5 n2 (putS_lt 2596282368 16 5 m2 (by decide : (0 : Int) ≤ 2596282368 ∧ (2596282368 : Int) < 4294967296).1 (by decide : (0 : Int) ≤ 2596282368 ∧ (2596282368 : Int) < 4294967296).2).1 (putS_lt 2596282368 16 5 m2 (by decide : (0 : Int) ≤ 2596282368 ∧ (2596282368 : Int) < 4294967296).1 (by decide : (0 : Int) ≤ 2596282368 ∧ (2596282368 : Int) < 4294967296).2).2) rfl
  have q2 : (d : Int).toNat % 32 = (d2 : Int).toNat % 32 := by
    have e1 : (lays (putS (putS 2596282368 16 5 m) 5 5 n) ((0, 5, d) :: [])) = lays (putS (putS 2596282368 16 5 m2) 5 5 n2) ((0, 5, d2) :: []) := e
    rw [e1] at f2
    exact f2.symm.trans g2
  clear f2 g2
  clear e
  omega
theorem inj_17 (d n m a c i d2 n2 m2 a2 c2 i2 : Int) (h : ok_17 d n m a c i = true) (h' : ok_17 d2 n2 m2 a2 c2 i2 = true) (e : (putS (putS (putS 2596283392 16 5 m) 5 5 n) 0 5 d) = (putS (putS (putS 2596283392 16 5 m2) 5 5 n2) 0 5 d2)) : d = d2 ∧ n = n2 ∧ m = m2 ∧ a = a2 ∧ c = c2 ∧ i = i2 := by
  simp only [ok_17, wi, Bool.and_eq_true, decide_eq_true_eq, beq_iff_eq] at h h'
  have f0 := lays_field2 16 5 m [(5, 5, n), (0, 5, d)] 2596283392 (by decide : (0 : Int) ≤ 2596283392 ∧ (2596283392 : Int) < 4294967296) rfl
  have g0 := lays_field2 16 5 m2 [(5, 5, n2), (0, 5, d2)] 2596283392 (by decide : (0 : Int) ≤ 2596283392 ∧ (2596283392 : Int) < 4294967296) rfl
  have q0 : (m : Int).toNat % 32 = (m2 : Int).toNat % 32 := by
    have e1 : (lays 2596283392 ((16, 5, m) :: [(5, 5, n), (0, 5, d)])) = lays 2596283392 ((16, 5, m2) :: [(5, 5, n2), (0, 5, d2)]) := e
    rw [e1] at f0
    exact f0.symm.trans g0
  clear f0 g0
  have f1 := lays_field2 5 5 n [(0, 5, d)] (putS 2596283392 16 5 m) (putS_lt 2596283392 16 5 m (by decide : (0 : Int) ≤ 2596283392 ∧ (2596283392 : Int) < 4294967296).1 (by decide : (0 : Int) ≤ 2596283392 ∧ (2596283392 : Int) < 4294967296).2) rfl
  have g1 := lays_field2 5 5 n2 [(0, 5, d2)] (putS 2596283392 16 5 m2) (putS_lt 2596283392 16 5 m2 (by decide : (0 : Int) ≤ 2596283392 ∧ (2596283392 : Int) < 4294967296).1 (by decide : (0 : Int) ≤ 2596283392 ∧ (2596283392 : Int) < 4294967296).2) rfl
  have q1 : (n : Int).toNat % 32 = (n2 : Int).toNat % 32 := by
    have e1 : (lays (putS 2596283392 16 5 m) ((5, 5, n) :: [(0, 5, d)])) = lays (putS 2596283392 16 5 m2) ((5, 5, n2) :: [(0, 5, d2)]) := e
    rw [e1] at f1
    exact f1.symm.trans g1
  clear f1 g1
  have f2 := lays_field2 0 5 d [] (putS (putS 2596283392 16 5 m) 5 5 n) (putS_lt (putS 2596283392 16 5 m) 5 5 n (putS_lt 2596283392 16 5 m (by decide : (0 : Int) ≤ 2596283392 ∧ (2596283392 : Int) < 4294967296).1 (by decide : (0 : Int) ≤ 2596283392 ∧ (2596283392 : Int) < 4294967296).2).1 (putS_lt 2596283392 16 5 m (by decide : (0 : Int) ≤ 2596283392 ∧ (2596283392 : Int) < 4294967296).1 (by decide : (0 : Int) ≤ 2596283392 ∧ (2596283392 : Int) < 4294967296).2).2) rfl
  have g2 := lays_field2 0 5 d2 [] (putS (putS 2596283392 16 5 m2) 5 5 n2) (putS_lt (putS 2596283392 16 5 m2) 5 5 n2 (putS_lt 2596283392 16 5 m2 (by decide : (0 : Int) ≤ 2596283392 ∧ (2596283392 : Int) < 4294967296).1 (by decide : (0 : Int) ≤ 2596283392 ∧ (2596283392 : Int) < 4294967296).2).1 (putS_lt 2596283392 16 5 m2 (by decide : (0 : Int) ≤ 2596283392 ∧ (2596283392 : Int) < 4294967296).1 (by decide : (0 : Int) ≤ 2596283392 ∧ (2596283392 : Int) < 4294967296).2).2) rfl
  have q2 : (d : Int).toNat % 32 = (d2 : Int).toNat % 32 := by
    have e1 : (lays (putS (putS 2596283392 16 5 m) 5 5 n) ((0, 5, d) :: [])) = lays (putS (putS 2596283392 16 5 m2) 5 5 n2) ((0, 5, d2) :: []) := e
    rw [e1] at f2
    exact f2.symm.trans g2
  clear f2 g2
  clear e
  omega
theorem inj_18 (d n m a c i d2 n2 m2 a2 c2 i2 : Int) (h : ok_18 d n m a c i = true) (h' : ok_18 d2 n2 m2 a2 c2 i2 = true) (e : (putS (putS (putS 2596284416 16 5 m) 5 5 n) 0 5 d) = (putS (putS (putS 2596284416 16 5 m2) 5 5 n2) 0 5 d2)) : d = d2 ∧ n = n2 ∧ m = m2 ∧ a = a2 ∧ c = c2 ∧ i = i2 := by
  simp only [ok_18, wi, Bool.and_eq_true, decide_eq_true_eq, beq_iff_eq] at h h'
  have f0 := lays_field2 16 5 m [(5, 5, n), (0, 5, d)] 2596284416 (by decide : (0 : Int) ≤ 2596284416 ∧ (2596284416 : Int) < 4294967296) rfl
  have g0 := lays_field2 16 5 m2 [(5, 5, n2), (0, 5, d2)] 2596284416 (by decide : (0 : Int) ≤ 2596284416 ∧ (2596284416 : Int) < 4294967296) rfl
  have q0 : (m : Int).toNat % 32 = (m2 : Int).toNat % 32 := by
    have e1 : (lays 2596284416 ((16, 5, m) :: [(5, 5, n), (0, 5, d)])) = lays 2596284416 ((16, 5, m2) :: [(5, 5, n2), (0, 5, d2)]) := e
    rw [e1] at f0
    exact f0.symm.trans g0
  clear f0 g0
  have f1 := lays_field2 5 5 n [(0, 5, d)] (putS 2596284416 16 5 m) (putS_lt 2596284416 16 5 m (by decide : (0 : Int) ≤ 2596284416 ∧ (2596284416 : Int) < 4294967296).1 (by decide : (0 : Int) ≤ 2596284416 ∧ (2596284416 : Int) < 4294967296).2) rfl
  have g1 := lays_field2 5 5 n2 [(0, 5, d2)] (putS 2596284416 16 5 m2) (putS_lt 2596284416 16 5 m2 (by decide : (0 : Int) ≤ 2596284416 ∧ (2596284416 : Int) < 4294967296).1 (by decide : (0 : Int) ≤ 2596284416 ∧ (2596284416 : Int) < 4294967296).2) rfl
  have q1 : (n : Int).toNat % 32 = (n2 : Int).toNat % 32 := by
    have e1 : (lays (putS 2596284416 16 5 m) ((5, 5, n) :: [(0, 5, d)])) = lays (putS 2596284416 16 5 m2) ((5, 5, n2) :: [(0, 5, d2)]) := e
    rw [e1] at f1
    exact f1.symm.trans g1
  clear f1 g1
  have f2 := lays_field2 0 5 d [] (putS (putS 2596284416 16 5 m) 5 5 n) (putS_lt (putS 2596284416 16 5 m) 5 5 n (putS_lt 2596284416 16 5 m (by decide : (0 : Int) ≤ 2596284416 ∧ (2596284416 : Int) < 4294967296).1 (by decide : (0 : Int) ≤ 2596284416 ∧ (2596284416 : Int) < 4294967296).2).1 (putS_lt 2596284416 16 5 m (by decide : (0 : Int) ≤ 2596284416 ∧ (2596284416 : Int) < 4294967296).1 (by decide : (0 : Int) ≤ 2596284416 ∧ (2596284416 : Int) < 4294967296).2).2) rfl
  have g2 := lays_field2 0 5 d2 [] (putS (putS 2596284416 16 5 m2) 5 5 n2) (putS_lt (putS 2596284416 16 5 m2) 5 5 n2 (putS_lt 2596284416 16 5 m2 (by decide : (0 : Int) ≤ 2596284416 ∧ (2596284416 : Int) < 4294967296).1 (by decide : (0 : Int) ≤ 2596284416 ∧ (2596284416 : Int) < 4294967296).2).1 (putS_lt 2596284416 16 5 m2 (by decide : (0 : Int) ≤ 2596284416 ∧ (2596284416 : Int) < 4294967296).1 (by decide : (0 : Int) ≤ 2596284416 ∧ (2596284416 : Int) < 4294967296).2).2) rfl
  have q2 : (d : Int).toNat % 32 = (d2 : Int).toNat % 32 := by
    have e1 : (lays (putS (putS 2596284416 16 5 m) 5 5 n) ((0, 5, d) :: [])) = lays (putS (putS 2596284416 16 5 m2) 5 5 n2) ((0, 5, d2) :: []) := e
    rw [e1] at f2
    exact f2.symm.trans g2
  clear f2 g2
  clear e
  omega
theorem inj_19 (d n m a c i d2 n2 m2 a2 c2 i2 : Int) (h : ok_19 d n m a c i = true) (h' : ok_19 d2 n2 m2 a2 c2 i2 = true) (e : (putS (putS (putS (putS 2592080896 16 5 m) 12 4 c) 5 5 n) 0 5 d) = (putS (putS (putS (putS 2592080896 16 5 m2) 12 4 c2) 5 5 n2) 0 5 d2)) : d = d2 ∧ n = n2 ∧ m = m2 ∧ a = a2 ∧ c = c2 ∧ i = i2 := by
  simp only [ok_19, wi, Bool.and_eq_true, decide_eq_true_eq, beq_iff_eq] at h h'
  have f0 := lays_field2 16 5 m [(12, 4, c), (5, 5, n), (0, 5, d)] 2592080896 (by decide : (0 : Int) ≤ 2592080896 ∧ (2592080896 : Int) < 4294967296) rfl
  have g0 := lays_field2 16 5 m2 [(12, 4, c2), (5, 5, n2), (0, 5, d2)] 2592080896 (by decide : (0 : Int) ≤ 2592080896 ∧ (2592080896 : Int) < 4294967296) rfl
  have q0 : (m : Int).toNat % 32 = (m2 : Int).toNat % 32 := by
    have e1 : (lays 2592080896 ((16, 5, m) :: [(12, 4, c), (5, 5, n), (0, 5, d)])) = lays 2592080896 ((16, 5, m2) :: [(12, 4, c2), (5, 5, n2), (0, 5, d2)]) := e
    rw [e1] at f0
    exact f0.symm.trans g0
  clear f0 g0
  have f1 := lays_field2 12 4 c [(5, 5, n), (0, 5, d)] (putS 2592080896 16 5 m) (putS_lt 2592080896 16 5 m (by decide : (0 : Int) ≤ 2592080896 ∧ (2592080896 : Int) < 4294967296).1 (by decide : (0 : Int) ≤ 2592080896 ∧ (2592080896 : Int) < 4294967296).2) rfl
  have g1 := lays_field2 12 4 c2 [(5, 5, n2), (0, 5, d2)] (putS 2592080896 16 5 m2) (putS_lt 2592080896 16 5 m2 (by decide : (0 : Int) ≤ 2592080896 ∧ (2592080896 : Int) < 4294967296).1 (by decide : (0 : Int) ≤ 2592080896 ∧ (2592080896 : Int) < 4294967296).2) rfl
  have q1 : (c : Int).toNat % 16 = (c2 : Int).toNat % 16 := by
    have e1 : (lays (putS 2592080896 16 5 m) ((12, 4, c) :: [(5, 5, n), (0, 5, d)])) = lays (putS 2592080896 16 5 m2) ((12, 4, c2) :: [(5, 5, n2), (0, 5, d2)]) := e
    rw [e1] at f1
    exact f1.symm.trans g1
  clear f1 g1
  have f2 := lays_field2 5 5 n [(0, 5, d)] (putS (putS 2592080896 16 5 m) 12 4 c) (putS_lt (putS 2592080896 16 5 m) 12 4 c (putS_lt 2592080896 16 5 m (by decide : (0 : Int) ≤ 2592080896 ∧ (2592080896 : Int) < 4294967296).1 (by decide : (0 : Int) ≤ 2592080896 ∧ (2592080896 : Int) < 4294967296).2).1 (putS_lt 2592080896 16 5 m (by decide : (0 : Int) ≤ 2592080896 ∧ (2592080896 : Int) < 4294967296).1 (by decide : (0 : Int) ≤ 2592080896 ∧ (2592080896 : Int) < 4294967296).2).2) rfl
  have g2 := lays_field2 5 5 n2 [(0, 5, d2)] (putS (putS 2592080896 16 5 m2) 12 4 c2) (putS_lt (putS 2592080896 16 5 m2) 12 4 c2 (putS_lt 2592080896 16 5 m2 (by decide : (0 : Int) ≤ 2592080896 ∧ (2592080896 : Int) < 4294967296).1 (by decide : (0 : Int) ≤ 2592080896 ∧ (2592080896 : Int) < 4294967296).2).1 (putS_lt 2592080896 16 5 m2 (by decide : (0 : Int) ≤ 2592080896 ∧ (2592080896 : Int) < 4294967296).1 (by decide : (0 : Int) ≤ 2592080896 ∧ (2592080896 : Int) < 4294967296).2).2) rfl
  have q2 : (n : Int).toNat % 32 = (n2 : Int).toNat % 32 := by
    have e1 : (lays (putS (putS 2592080896 16 5 m) 12 4 c) ((5, 5, n) :: [(0, 5, d)])) = lays (putS (putS 2592080896 16 5 m2) 12 4 c2) ((5, 5, n2) :: [(0, 5, d2)]) := e
    rw [e1] at f2
    exact f2.symm.trans g2
  clear f2 g2
  have f3 := lays_field2 0 5 d [] (putS (putS (putS 2592080896 16 5 m) 12 4 c) 5 5 n) (putS_lt (putS (putS 2592080896 16 5 m) 12 4 c) 5 5 n (putS_lt (putS 2592080896 16 5 m) 12 4 c (putS_lt 2592080896 16 5 m (by decide : (0 : Int) ≤ 2592080896 ∧ (2592080896 : Int) < 4294967296).1 (by decide : (0 : Int) ≤ 2592080896 ∧ (2592080896 : Int) < 4294967296).2).1 (putS_lt 2592080896 16 5 m (by decide : (0 : Int) ≤ 2592080896 ∧ (2592080896 : Int) < 4294967296).1 (by decide : (0 : Int) ≤ 2592080896 ∧ (2592080896 : Int) < 4294967296).2).2).1 (putS_lt (putS 2592080896 16 5 m) 12 4 c (putS_lt 2592080896 16 5 m (by decide : (0 : Int) ≤ 2592080896 ∧ (2592080896 : Int) < 4294967296).1 (by decide : (0 : Int) ≤ 2592080896 ∧ (2592080896 : Int) < 4294967296).2).1 (putS_lt 2592080896 16 5 m (by decide : (0 : Int) ≤ 2592080896 ∧ (2592080896 : Int) < 4294967296).1 (by decide : (0 : Int) ≤ 2592080896 ∧ (2592080896 : Int) < 4294967296).2).2).2) rfl
  have g3 := lays_field2 0 5 d2 [] (putS (putS (putS 2592080896 16 5 m2) 12 4 c2) 5 5 n2) (putS_lt (putS (putS 2592080896 16 5 m2) 12 4 c2) 5 5 n2 (putS_lt (putS 2592080896 16 5 m2) 12 4 c2 (putS_lt 2592080896 16 5 m2 (by decide : (0 : Int) ≤ 2592080896 ∧ (2592080896 : Int) < 4294967296).1 (by decide : (0 : Int) ≤ 2592080896 ∧ (2592080896 : Int) < 4294967296).2).1 (putS_lt 2592080896 16 5 m2 (by decide : (0 : Int) ≤ 2592080896 ∧ (2592080896 : Int) < 4294967296).1 (by decide : (0 : Int) ≤ 2592080896 ∧ (2592080896 : Int) < 4294967296).2).2).1 (putS_lt (putS 2592080896 16 5 m2) 12 4 c2 (putS_lt 2592080896 16 5 m2 (by decide : (0 : Int) ≤ 2592080896 ∧ (2592080896 : Int) < 4294967296).1 (by decide : (0 : Int) ≤ 2592080896 ∧ (2592080896 : Int) < 4294967296).2).1 (putS_lt 2592080896 16 5 m2 (by decide : (0 : Int) ≤ 2592080896 ∧ (2592080896 : Int) < 4294967296).1 (by decide : (0 : Int) ≤ 2592080896 ∧ (2592080896 : Int) < 4294967296).2).2).2) rfl
  have q3 : (d : Int).toNat % 32 = (d2 : Int).toNat % 32 := by
    have e1 : (lays (putS (putS (putS 2592080896 16 5 m) 12 4 c) 5 5 n) ((0, 5, d) :: [])) = lays (putS (putS (putS 2592080896 16 5 m2) 12 4 c2) 5 5 n2) ((0, 5, d2) :: []) := e
    rw [e1] at f3
    exact f3.symm.trans g3
  clear f3 g3
  clear e
  omega
theorem inj_20 (d n m a c i d2 n2 m2 a2 c2 i2 : Int) (h : ok_20 d n m a c i = true) (h' : ok_20 d2 n2 m2 a2 c2 i2 = true) (e : (putS 335544320 0 26 (i / 4 % 4294967296)) = (putS 335544320 0 26 (i2 / 4 % 4294967296))) : d = d2 ∧ n = n2 ∧ m = m2 ∧ a = a2 ∧ c = c2 ∧ i = i2 := by
  simp only [ok_20, wi, wm, Bool.and_eq_true, decide_eq_true_eq, beq_iff_eq] at h h'
  have f0 := lays_field2 0 26 (i / 4 % 4294967296) [] 335544320 (by decide : (0 : Int) ≤ 335544320 ∧ (335544320 : Int) < 4294967296) rfl
  have g0 := lays_field2 0 26 (i2 / 4 % 4294967296) [] 335544320 (by decide : (0 : Int) ≤ 335544320 ∧ (335544320 : Int) < 4294967296) rfl
  have q0 : ((i / 4 % 4294967296) : Int).toNat % 67108864 = ((i2 / 4 % 4294967296) : Int).toNat % 67108864 := by
    have e1 : (lays 335544320 ((0, 26, (i / 4 % 4294967296)) :: [])) = lays 335544320 ((0, 26, (i2 / 4 % 4294967296)) :: []) := e
    rw [e1] at f0
    exact f0.symm.trans g0
  clear f0 g0
  clear e
  omega
theorem inj_21 (d n m a c i d2 n2 m2 a2 c2 i2 : Int) (h : ok_21 d n m a c i = true) (h' : ok_21 d2 n2 m2 a2 c2 i2 = true) (e : (putS (putS 1409286144 5 19 (i / 4 % 4294967296)) 0 4 c) = (putS (putS 1409286144 5 19 (i2 / 4 % 4294967296)) 0 4 c2)) : d = d2 ∧ n = n2 ∧ m = m2 ∧ a = a2 ∧ c = c2 ∧ i = i2 := by
  simp only [ok_21, wi, wm, Bool.and_eq_true, decide_eq_true_eq, beq_iff_eq] at h h'
  have f0 := lays_field2 5 19 (i / 4 % 4294967296) [(0, 4, c)] 1409286144 (by decide : (0 : Int) ≤ 1409286144 ∧ (1409286144 : Int) < 4294967296) rfl
  have g0 := lays_field2 5 19 (i2 / 4 % 4294967296) [(0, 4, c2)] 1409286144 (by decide : (0 : Int) ≤ 1409286144 ∧ (1409286144 : Int) < 4294967296) rfl
  have q0 : ((i / 4 % 4294967296) : Int).toNat % 524288 = ((i2 / 4 % 4294967296) : Int).toNat % 524288 := by
    have e1 : (lays 1409286144 ((5, 19, (i / 4 % 4294967296)) :: [(0, 4, c)])) = lays 1409286144 ((5, 19, (i2 / 4 % 4294967296)) :: [(0, 4, c2)]) := e
    rw [e1] at f0
    exact f0.symm.trans g0
  clear f0 g0
  have f1 := lays_field2 0 4 c [] (putS 1409286144 5 19 (i / 4 % 4294967296)) (putS_lt 1409286144 5 19 (i / 4 % 4294967296) (by decide : (0 : Int) ≤ 1409286144 ∧ (1409286144 : Int) < 4294967296).1 (by decide : (0 : Int) ≤ 1409286144 ∧ (1409286144 : Int) < 4294967296).2) rfl
  have g1 := lays_field2 0 4 c2 [] (putS 1409286144 5 19 (i2 / 4 % 4294967296)) (putS_lt 1409286144 5 19 (i2 / 4 % 4294967296) (by decide : (0 : Int) ≤ 1409286144 ∧ (1409286144 : Int) < 4294967296).1 (by decide : (0 : Int) ≤ 1409286144 ∧ (1409286144 : Int) < 4294967296).2) rfl
  have q1 : (c : Int).toNat % 16 = (c2 : Int).toNat % 16 := by
    have e1 : (lays (putS 1409286144 5 19 (i / 4 % 4294967296)) ((0, 4, c) :: [])) = lays (putS 1409286144 5 19 (i2 / 4 % 4294967296)) ((0, 4, c2) :: []) := e
    rw [e1] at f1
    exact f1.symm.trans g1
  clear f1 g1
  clear e
  omega
theorem inj_22 (d n m a c i d2 n2 m2 a2 c2 i2 : Int) (h : ok_22 d n m a c i = true) (h' : ok_22 d2 n2 m2 a2 c2 i2 = true) (e : (putS (putS 3019898880 5 19 (i / 4 % 4294967296)) 0 5 d) = (putS (putS 3019898880 5 19 (i2 / 4 % 4294967296)) 0 5 d2)) : d = d2 ∧ n = n2 ∧ m = m2 ∧ a = a2 ∧ c = c2 ∧ i = i2 := by
  simp only [ok_22, wi, wm, Bool.and_eq_true, decide_eq_true_eq, beq_iff_eq] at h h'
  have f0 := lays_field2 5 19 (i / 4 % 4294967296) [(0, 5, d)] 3019898880 (by decide : (0 : Int) ≤ 3019898880 ∧ (3019898880 : Int) < 4294967296) rfl
  have g0 := lays_field2 5 19 (i2 / 4 % 4294967296) [(0, 5, d2)] 3019898880 (by decide : (0 : Int) ≤ 3019898880 ∧ (3019898880 : Int) < 4294967296) rfl
  have q0 : ((i / 4 % 4294967296) : Int).toNat % 524288 = ((i2 / 4 % 4294967296) : Int).toNat % 524288 := by
    have e1 : (lays 3019898880 ((5, 19, (i / 4 % 4294967296)) :: [(0, 5, d)])) = lays 3019898880 ((5, 19, (i2 / 4 % 4294967296)) :: [(0, 5, d2)]) := e
    rw [e1] at f0
    exact f0.symm.trans g0
  clear f0 g0
  have f1 := lays_field2 0 5 d [] (putS 3019898880 5 19 (i / 4 % 4294967296)) (putS_lt 3019898880 5 19 (i / 4 % 4294967296) (by decide : (0 : Int) ≤ 3019898880 ∧ (3019898880 : Int) < 4294967296).1 (by decide : (0 : Int) ≤ 3019898880 ∧ (3019898880 : Int) < 4294967296).2) rfl
  have g1 := lays_field2 0 5 d2 [] (putS 3019898880 5 19 (i2 / 4 % 4294967296)) (putS_lt 3019898880 5 19 (i2 / 4 % 4294967296) (by decide : (0 : Int) ≤ 3019898880 ∧ (3019898880 : Int) < 4294967296).1 (by decide : (0 : Int) ≤ 3019898880 ∧ (3019898880 : Int) < 4294967296).2) rfl
  have q1 : (d : Int).toNat % 32 = (d2 : Int).toNat % 32 := by
    have e1 : (lays (putS 3019898880 5 19 (i / 4 % 4294967296)) ((0, 5, d) :: [])) = lays (putS 3019898880 5 19 (i2 / 4 % 4294967296)) ((0, 5, d2) :: []) := e
    rw [e1] at f1
    exact f1.symm.trans g1
  clear f1 g1
  clear e
  omega
theorem inj_23 (d n m a c i d2 n2 m2 a2 c2 i2 : Int) (h : ok_23 d n m a c i = true) (h' : ok_23 d2 n2 m2 a2 c2 i2 = true) (e : (putS (putS 3036676096 5 19 (i / 4 % 4294967296)) 0 5 d) = (putS (putS 3036676096 5 19 (i2 / 4 % 4294967296)) 0 5 d2)) : d = d2 ∧ n = n2 ∧ m = m2 ∧ a = a2 ∧ c = c2 ∧ i = i2 := by
  simp only [ok_23, wi, wm, Bool.and_eq_true, decide_eq_true_eq, beq_iff_eq] at h h'
  have f0 := lays_field2 5 19 (i / 4 % 4294967296) [(0, 5, d)] 3036676096 (by decide : (0 : Int) ≤ 3036676096 ∧ (3036676096 : Int) < 4294967296) rfl
  have g0 := lays_field2 5 19 (i2 / 4 % 4294967296) [(0, 5, d2)] 3036676096 (by decide : (0 : Int) ≤ 3036676096 ∧ (3036676096 : Int) < 4294967296) rfl
  have q0 : ((i / 4 % 4294967296) : Int).toNat % 524288 = ((i2 / 4 % 4294967296) : Int).toNat % 524288 := by
    have e1 : (lays 3036676096 ((5, 19, (i / 4 % 4294967296)) :: [(0, 5, d)])) = lays 3036676096 ((5, 19, (i2 / 4 % 4294967296)) :: [(0, 5, d2)]) := e
    rw [e1] at f0
    exact f0.symm.trans g0
  clear f0 g0
  have f1 := lays_field2 0 5 d [] (putS 3036676096 5 19 (i / 4 % 4294967296)) (putS_lt 3036676096 5 19 (i / 4 % 4294967296) (by decide : (0 : Int) ≤ 3036676096 ∧ (3036676096 : Int) < 4294967296).1 (by decide : (0 : Int) ≤ 3036676096 ∧ (3036676096 : Int) < 4294967296).2) rfl
  have g1 := lays_field2 0 5 d2 [] (putS 3036676096 5 19 (i2 / 4 % 4294967296)) (putS_lt 3036676096 5 19 (i2 / 4 % 4294967296) (by decide : (0 : Int) ≤ 3036676096 ∧ (3036676096 : Int) < 4294967296).1 (by decide : (0 : Int) ≤ 3036676096 ∧ (3036676096 : Int) < 4294967296).2) rfl
  have q1 : (d : Int).toNat % 32 = (d2 : Int).toNat % 32 := by
    have e1 : (lays (putS 3036676096 5 19 (i / 4 % 4294967296)) ((0, 5, d) :: [])) = lays (putS 3036676096 5 19 (i2 / 4 % 4294967296)) ((0, 5, d2) :: []) := e
    rw [e1] at f1
    exact f1.symm.trans g1
  clear f1 g1
  clear e
  omega
theorem inj_24 (d n m a c i d2 n2 m2 a2 c2 i2 : Int) (h : ok_24 d n m a c i = true) (h' : ok_24 d2 n2 m2 a2 c2 i2 = true) (e : (putS 2483027968 0 26 (i / 4 % 4294967296)) = (putS 2483027968 0 26 (i2 / 4 % 4294967296))) : d = d2 ∧ n = n2 ∧ m = m2 ∧ a = a2 ∧ c = c2 ∧ i = i2 := by
  simp only [ok_24, wi, wm, Bool.and_eq_true, decide_eq_true_eq, beq_iff_eq] at h h'
  have f0 := lays_field2 0 26 (i / 4 % 4294967296) [] 2483027968 (by decide : (0 : Int) ≤ 2483027968 ∧ (2483027968 : Int) < 4294967296) rfl
  have g0 := lays_field2 0 26 (i2 / 4 % 4294967296) [] 2483027968 (by decide : (0 : Int) ≤ 2483027968 ∧ (2483027968 : Int) < 4294967296) rfl
  have q0 : ((i / 4 % 4294967296) : Int).toNat % 67108864 = ((i2 / 4 % 4294967296) : Int).toNat % 67108864 := by
    have e1 : (lays 2483027968 ((0, 26, (i / 4 % 4294967296)) :: [])) = lays 2483027968 ((0, 26, (i2 / 4 % 4294967296)) :: []) := e
    rw [e1] at f0
    exact f0.symm.trans g0
  clear f0 g0
  clear e
  omega
theorem inj_25 (d n m a c i d2 n2 m2 a2 c2 i2 : Int) (h : ok_25 d n m a c i = true) (h' : ok_25 d2 n2 m2 a2 c2 i2 = true) (e : (putS 3592355840 5 5 n) = (putS 3592355840 5 5 n2)) : d = d2 ∧ n = n2 ∧ m = m2 ∧ a = a2 ∧ c = c2 ∧ i = i2 := by
  simp only [ok_25, wi, Bool.and_eq_true, decide_eq_true_eq, beq_iff_eq] at h h'
  have f0 := lays_field2 5 5 n [] 3592355840 (by decide : (0 : Int) ≤ 3592355840 ∧ (3592355840 : Int) < 4294967296) rfl
  have g0 := lays_field2 5 5 n2 [] 3592355840 (by decide : (0 : Int) ≤ 3592355840 ∧ (3592355840 : Int) < 4294967296) rfl
  have q0 : (n : Int).toNat % 32 = (n2 : Int).toNat % 32 := by
    have e1 : (lays 3592355840 ((5, 5, n) :: [])) = lays 3592355840 ((5, 5, n2) :: []) := e
    rw [e1] at f0
    exact f0.symm.trans g0
  clear f0 g0
  clear e
  omega
theorem inj_26 (d n m a c i d2 n2 m2 a2 c2 i2 : Int) (h : ok_26 d n m a c i = true) (h' : ok_26 d2 n2 m2 a2 c2 i2 = true) (e : (putS 3594452992 5 5 n) = (putS 3594452992 5 5 n2)) : d = d2 ∧ n = n2 ∧ m = m2 ∧ a = a2 ∧ c = c2 ∧ i = i2 := by
  simp only [ok_26, wi, Bool.and_eq_true, decide_eq_true_eq, beq_iff_eq] at h h'
  have f0 := lays_field2 5 5 n [] 3594452992 (by decide : (0 : Int) ≤ 3594452992 ∧ (3594452992 : Int) < 4294967296) rfl
  have g0 := lays_field2 5 5 n2 [] 3594452992 (by decide : (0 : Int) ≤ 3594452992 ∧ (3594452992 : Int) < 4294967296) rfl
  have q0 : (n : Int).toNat % 32 = (n2 : Int).toNat % 32 := by
    have e1 : (lays 3594452992 ((5, 5, n) :: [])) = lays 3594452992 ((5, 5, n2) :: []) := e
    rw [e1] at f0
    exact f0.symm.trans g0
  clear f0 g0
  clear e
  omega
theorem inj_27 (d n m a c i d2 n2 m2 a2 c2 i2 : Int) (h : ok_27 d n m a c i = true) (h' : ok_27 d2 n2 m2 a2 c2 i2 = true) (e : (putS 3596550144 5 5 n) = (putS 3596550144 5 5 n2)) : d = d2 ∧ n = n2 ∧ m = m2 ∧ a = a2 ∧ c = c2 ∧ i = i2 := by
  simp only [ok_27, wi, Bool.and_eq_true, decide_eq_true_eq, beq_iff_eq] at h h'
  have f0 := lays_field2 5 5 n [] 3596550144 (by decide : (0 : Int) ≤ 3596550144 ∧ (3596550144 : Int) < 4294967296) rfl
  have g0 := lays_field2 5 5 n2 [] 3596550144 (by decide : (0 : Int) ≤ 3596550144 ∧ (3596550144 : Int) < 4294967296) rfl
  have q0 : (n : Int).toNat % 32 = (n2 : Int).toNat % 32 := by
    have e1 : (lays 3596550144 ((5, 5, n) :: [])) = lays 3596550144 ((5, 5, n2) :: []) := e
    rw [e1] at f0
    exact f0.symm.trans g0
  clear f0 g0
  clear e
  omega
theorem inj_28 (d n m a c i d2 n2 m2 a2 c2 i2 : Int) (h : ok_28 d n m a c i = true) (h' : ok_28 d2 n2 m2 a2 c2 i2 = true) (e : (putS (putS (putS 4181721088 10 12 (i / 8)) 5 5 n) 0 5 d) = (putS (putS (putS 4181721088 10 12 (i2 / 8)) 5 5 n2) 0 5 d2)) : d = d2 ∧ n = n2 ∧ m = m2 ∧ a = a2 ∧ c = c2 ∧ i = i2 := by
  simp only [ok_28, wi, wm, Bool.and_eq_true, decide_eq_true_eq, beq_iff_eq] at h h'
  have f0 := lays_field2 10 12 (i / 8) [(5, 5, n), (0, 5, d)] 4181721088 (by decide : (0 : Int) ≤ 4181721088 ∧ (4181721088 : Int) < 4294967296) rfl
  have g0 := lays_field2 10 12 (i2 / 8) [(5, 5, n2), (0, 5, d2)] 4181721088 (by decide : (0 : Int) ≤ 4181721088 ∧ (4181721088 : Int) < 4294967296) rfl
  have q0 : ((i / 8) : Int).toNat % 4096 = ((i2 / 8) : Int).toNat % 4096 := by
    have e1 : (lays 4181721088 ((10, 12, (i / 8)) :: [(5, 5, n), (0, 5, d)])) = lays 4181721088 ((10, 12, (i2 / 8)) :: [(5, 5, n2), (0, 5, d2)]) := e
    rw [e1] at f0
    exact f0.symm.trans g0
  clear f0 g0
  have f1 := lays_field2 5 5 n [(0, 5, d)] (putS 4181721088 10 12 (i / 8)) (putS_lt 4181721088 10 12 (i / 8) (by decide : (0 : Int) ≤ 4181721088 ∧ (4181721088 : Int) < 4294967296).1 (by decide : (0 : Int) ≤ 4181721088 ∧ (4181721088 : Int) < 4294967296).2) rfl
  have g1 := lays_field2 5 5 n2 [(0, 5, d2)] (putS 4181721088 10 12 (i2 / 8)) (putS_lt 4181721088 10 12 (i2 / 8) (by decide : (0 : Int) ≤ 4181721088 ∧ (4181721088 : Int) < 4294967296).1 (by decide : (0 : Int) ≤ 4181721088 ∧ (4181721088 : Int) < 4294967296).2) rfl
  have q1 : (n : Int).toNat % 32 = (n2 : Int).toNat % 32 := by
    have e1 : (lays (putS 4181721088 10 12 (i / 8)) ((5, 5, n) :: [(0, 5, d)])) = lays (putS 4181721088 10 12 (i2 / 8)) ((5, 5, n2) :: [(0, 5, d2)]) := e
    rw [e1] at f1
    exact f1.symm.trans g1
  clear f1 g1
  have f2 := lays_field2 0 5 d [] (putS (putS 4181721088 10 12 (i / 8)) 5 5 n) (putS_lt (putS 4181721088 10 12 (i / 8)) 5 5 n (putS_lt 4181721088 10 12 (i / 8) (by decide : (0 : Int) ≤ 4181721088 ∧ (4181721088 : Int) < 4294967296).1 (by decide : (0 : Int) ≤ 4181721088 ∧ (4181721088 : Int) < 4294967296).2).1 (putS_lt 4181721088 10 12 (i / 8) (by decide : (0 : Int) ≤ 4181721088 ∧ (4181721088 : Int) < 4294967296).1 (by decide : (0 : Int) ≤ 4181721088 ∧ (4181721088 : Int) < 4294967296).2).2) rfl
  have g2 := lays_field2 0 5 d2 [] (putS (putS 4181721088 10 12 (i2 / 8)) 5 5 n2) (putS_lt (putS 4181721088 10 12 (i2 / 8)) 5 5 n2 (putS_lt 4181721088 10 12 (i2 / 8) (by decide : (0 : Int) ≤ 4181721088 ∧ (4181721088 : Int) < 4294967296).1 (by decide : (0 : Int) ≤ 4181721088 ∧ (4181721088 : Int) < 4294967296).2).1 (putS_lt 4181721088 10 12 (i2 / 8) (by decide : (0 : Int) ≤ 4181721088 ∧ (4181721088 : Int) < 4294967296).1 (by decide : (0 : Int) ≤ 4181721088 ∧ (4181721088 : Int) < 4294967296).2).2) rfl
  have q2 : (d : Int).toNat % 32 = (d2 : Int).toNat % 32 := by
    have e1 : (lays (putS (putS 4181721088 10 12 (i / 8)) 5 5 n) ((0, 5, d) :: [])) = lays (putS (putS 4181721088 10 12 (i2 / 8)) 5 5 n2) ((0, 5, d2) :: []) := e
    rw [e1] at f2
    exact f2.symm.trans g2
  clear f2 g2
  clear e
  omega
theorem inj_29 (d n m a c i d2 n2 m2 a2 c2 i2 : Int) (h : ok_29 d n m a c i = true) (h' : ok_29 d2 n2 m2 a2 c2 i2 = true) (e : (putS (putS (putS 4177526784 10 12 (i / 8)) 5 5 n) 0 5 d) = (putS (putS (putS 4177526784 10 12 (i2 / 8)) 5 5 n2) 0 5 d2)) : d = d2 ∧ n = n2 ∧ m = m2 ∧ a = a2 ∧ c = c2 ∧ i = i2 := by
  simp only [ok_29, wi, wm, Bool.and_eq_true, decide_eq_true_eq, beq_iff_eq] at h h'
  have f0 := lays_field2 10 12 (i / 8) [(5, 5, n), (0, 5, d)] 4177526784 (by decide : (0 : Int) ≤ 4177526784 ∧ (4177526784 : Int) < 4294967296) rfl
  have g0 := lays_field2 10 12 (i2 / 8) [(5, 5, n2), (0, 5, d2)] 4177526784 (by decide : (0 : Int) ≤ 4177526784 ∧ (4177526784 : Int) < 4294967296) rfl
  have q0 : ((i / 8) : Int).toNat % 4096 = ((i2 / 8) : Int).toNat % 4096 := by
    have e1 : (lays 4177526784 ((10, 12, (i / 8)) :: [(5, 5, n), (0, 5, d)])) = lays 4177526784 ((10, 12, (i2 / 8)) :: [(5, 5, n2), (0, 5, d2)]) := e
    rw [e1] at f0
    exact f0.symm.trans g0
  clear f0 g0
  have f1 := lays_field2 5 5 n [(0, 5, d)] (putS 4177526784 10 12 (i / 8)) (putS_lt 4177526784 10 12 (i / 8) (by decide : (0 : Int) ≤ 4177526784 ∧ (4177526784 : Int) < 4294967296).1 (by decide : (0 : Int) ≤ 4177526784 ∧ (4177526784 : Int) < 4294967296).2) rfl
  have g1 := lays_field2 5 5 n2 [(0, 5, d2)] (putS 4177526784 10 12 (i2 / 8)) (putS_lt 4177526784 10 12 (i2 / 8) (by decide : (0 : Int) ≤ 4177526784 ∧ (4177526784 : Int) < 4294967296).1 (by decide : (0 : Int) ≤ 4177526784 ∧ (4177526784 : Int) < 4294967296).2) rfl
  have q1 : (n : Int).toNat % 32 = (n2 : Int).toNat % 32 := by
    have e1 : (lays (putS 4177526784 10 12 (i / 8)) ((5, 5, n) :: [(0, 5, d)])) = lays (putS 4177526784 10 12 (i2 / 8)) ((5, 5, n2) :: [(0, 5, d2)]) := e
    rw [e1] at f1
    exact f1.symm.trans g1
  clear f1 g1
  have f2 := lays_field2 0 5 d [] (putS (putS 4177526784 10 12 (i / 8)) 5 5 n) (putS_lt (putS 4177526784 10 12 (i / 8)) 5 5 n (putS_lt 4177526784 10 12 (i / 8) (by decide : (0 : Int) ≤ 4177526784 ∧ (4177526784 : Int) < 4294967296).1 (by decide : (0 : Int) ≤ 4177526784 ∧ (4177526784 : Int) < 4294967296).2).1 (putS_lt 4177526784 10 12 (i / 8) (by decide : (0 : Int) ≤ 4177526784 ∧ (4177526784 : Int) < 4294967296).1 (by decide : (0 : Int) ≤ 4177526784 ∧ (4177526784 : Int) < 4294967296).2).2) rfl
  have g2 := lays_field2 0 5 d2 [] (putS (putS 4177526784 10 12 (i2 / 8)) 5 5 n2) (putS_lt (putS 4177526784 10 12 (i2 / 8)) 5 5 n2 (putS_lt 4177526784 10 12 (i2 / 8) (by decide : (0 : Int) ≤ 4177526784 ∧ (4177526784 : Int) < 4294967296).1 (by decide : (0 : Int) ≤ 4177526784 ∧ (4177526784 : Int) < 4294967296).2).1 (putS_lt 4177526784 10 12 (i2 / 8) (by decide : (0 : Int) ≤ 4177526784 ∧ (4177526784 : Int) < 4294967296).1 (by decide : (0 : Int) ≤ 4177526784 ∧ (4177526784 : Int) < 4294967296).2).2) rfl
  have q2 : (d : Int).toNat % 32 = (d2 : Int).toNat % 32 := by
    have e1 : (lays (putS (putS 4177526784 10 12 (i / 8)) 5 5 n) ((0, 5, d) :: [])) = lays (putS (putS 4177526784 10 12 (i2 / 8)) 5 5 n2) ((0, 5, d2) :: []) := e
    rw [e1] at f2
    exact f2.symm.trans g2
  clear f2 g2
  clear e
  omega
theorem inj_30 (d n m a c i d2 n2 m2 a2 c2 i2 : Int) (h : ok_30 d n m a c i = true) (h' : ok_30 d2 n2 m2 a2 c2 i2 = true) (e : (putS (putS (putS 960495616 10 12 i) 5 5 n) 0 5 d) = (putS (putS (putS 960495616 10 12 i2) 5 5 n2) 0 5 d2)) : d = d2 ∧ n = n2 ∧ m = m2 ∧ a = a2 ∧ c = c2 ∧ i = i2 := by
  simp only [ok_30, wi, Bool.and_eq_true, decide_eq_true_eq, beq_iff_eq] at h h'
  have f0 := lays_field2 10 12 i [(5, 5, n), (0, 5, d)] 960495616 (by decide : (0 : Int) ≤ 960495616 ∧ (960495616 : Int) < 4294967296) rfl
  have g0 := lays_field2 10 12 i2 [(5, 5, n2), (0, 5, d2)] 960495616 (by decide : (0 : Int) ≤ 960495616 ∧ (960495616 : Int) < 4294967296) rfl
  have q0 : (i : Int).toNat % 4096 = (i2 : Int).toNat % 4096 := by
    have e1 : (lays 960495616 ((10, 12, i) :: [(5, 5, n), (0, 5, d)])) = lays 960495616 ((10, 12, i2) :: [(5, 5, n2), (0, 5, d2)]) := e
    rw [e1] at f0
    exact f0.symm.trans g0
  clear f0 g0
  have f1 := lays_field2 5 5 n [(0, 5, d)] (putS 960495616 10 12 i) (putS_lt 960495616 10 12 i (by decide : (0 : Int) ≤ 960495616 ∧ (960495616 : Int) < 4294967296).1 (by decide : (0 : Int) ≤ 960495616 ∧ (960495616 : Int) < 4294967296).2) rfl
  have g1 := lays_field2 5 5 n2 [(0, 5, d2)] (putS 960495616 10 12 i2) (putS_lt 960495616 10 12 i2 (by decide : (0 : Int) ≤ 960495616 ∧ (960495616 : Int) < 4294967296).1 (by decide : (0 : Int) ≤ 960495616 ∧ (960495616 : Int) < 4294967296).2) rfl
  have q1 : (n : Int).toNat % 32 = (n2 : Int).toNat % 32 := by
    have e1 : (lays (putS 960495616 10 12 i) ((5, 5, n) :: [(0, 5, d)])) = lays (putS 960495616 10 12 i2) ((5, 5, n2) :: [(0, 5, d2)]) := e
    rw [e1] at f1
    exact f1.symm.trans g1
  clear f1 g1
  have f2 := lays_field2 0 5 d [] (putS (putS 960495616 10 12 i) 5 5 n) (putS_lt (putS 960495616 10 12 i) 5 5 n (putS_lt 960495616 10 12 i (by decide : (0 : Int) ≤ 960495616 ∧ (960495616 : Int) < 4294967296).1 (by decide : (0 : Int) ≤ 960495616 ∧ (960495616 : Int) < 4294967296).2).1 (putS_lt 960495616 10 12 i (by decide : (0 : Int) ≤ 960495616 ∧ (960495616 : Int) < 4294967296).1 (by decide : (0 : Int) ≤ 960495616 ∧ (960495616 : Int) < 4294967296).2).2) rfl
  have g2 := lays_field2 0 5 d2 [] (putS (putS 960495616 10 12 i2) 5 5 n2) (putS_lt (putS 960495616 10 12 i2) 5 5 n2 (putS_lt 960495616 10 12 i2 (by decide : (0 : Int) ≤ 960495616 ∧ (960495616 : Int) < 4294967296).1 (by decide : (0 : Int) ≤ 960495616 ∧ (960495616 : Int) < 4294967296).2).1 (putS_lt 960495616 10 12 i2 (by decide : (0 : Int) ≤ 960495616 ∧ (960495616 : Int) < 4294967296).1 (by decide : (0 : Int) ≤ 960495616 ∧ (960495616 : Int) < 4294967296).2).2) rfl
  have q2 : (d : Int).toNat % 32 = (d2 : Int).toNat % 32 := by
    have e1 : (lays (putS (putS 960495616 10 12 i) 5 5 n) ((0, 5, d) :: [])) = lays (putS (putS 960495616 10 12 i2) 5 5 n2) ((0, 5, d2) :: []) := e
    rw [e1] at f2
    exact f2.symm.trans g2
  clear f2 g2
  clear e
  omega
theorem inj_31 (d n m a c i d2 n2 m2 a2 c2 i2 : Int) (h : ok_31 d n m a c i = true) (h' : ok_31 d2 n2 m2 a2 c2 i2 = true) (e : (putS (putS (putS 4167071744 16 5 m) 5 5 n) 0 5 d) = (putS (putS (putS 4167071744 16 5 m2) 5 5 n2) 0 5 d2)) : d = d2 ∧ n = n2 ∧ m = m2 ∧ a = a2 ∧ c = c2 ∧ i = i2 := by
  simp only [ok_31, wi, Bool.and_eq_true, decide_eq_true_eq, beq_iff_eq] at h h'
  have f0 := lays_field2 16 5 m [(5, 5, n), (0, 5, d)] 4167071744 (by decide : (0 : Int) ≤ 4167071744 ∧ (4167071744 : Int) < 4294967296) rfl
  have g0 := lays_field2 16 5 m2 [(5, 5, n2), (0, 5, d2)] 4167071744 (by decide : (0 : Int) ≤ 4167071744 ∧ (4167071744 : Int) < 4294967296) rfl
  have q0 : (m : Int).toNat % 32 = (m2 : Int).toNat % 32 := by
    have e1 : (lays 4167071744 ((16, 5, m) :: [(5, 5, n), (0, 5, d)])) = lays 4167071744 ((16, 5, m2) :: [(5, 5, n2), (0, 5, d2)]) := e
    rw [e1] at f0
    exact f0.symm.trans g0
  clear f0 g0
  have f1 := lays_field2 5 5 n [(0, 5, d)] (putS 4167071744 16 5 m) (putS_lt 4167071744 16 5 m (by decide : (0 : Int) ≤ 4167071744 ∧ (4167071744 : Int) < 4294967296).1 (by decide : (0 : Int) ≤ 4167071744 ∧ (4167071744 : Int) < 4294967296).2) rfl
  have g1 := lays_field2 5 5 n2 [(0, 5, d2)] (putS 4167071744 16 5 m2) (putS_lt 4167071744 16 5 m2 (by decide : (0 : Int) ≤ 4167071744 ∧ (4167071744 : Int) < 4294967296).1 (by decide : (0 : Int) ≤ 4167071744 ∧ (4167071744 : Int) < 4294967296).2) rfl
  have q1 : (n : Int).toNat % 32 = (n2 : Int).toNat % 32 := by
    have e1 : (lays (putS 4167071744 16 5 m) ((5, 5, n) :: [(0, 5, d)])) = lays (putS 4167071744 16 5 m2) ((5, 5, n2) :: [(0, 5, d2)]) := e
    rw [e1] at f1
    exact f1.symm.trans g1
  clear f1 g1
  have f2 := lays_field2 0 5 d [] (putS (putS 4167071744 16 5 m) 5 5 n) (putS_lt (putS 4167071744 16 5 m) 5 5 n (putS_lt 4167071744 16 5 m (by decide : (0 : Int) ≤ 4167071744 ∧ (4167071744 : Int) < 4294967296).1 (by decide : (0 : Int) ≤ 4167071744 ∧ (4167071744 : Int) < 4294967296).2).1 (putS_lt 4167071744 16 5 m (by decide : (0 : Int) ≤ 4167071744 ∧ (4167071744 : Int) < 4294967296).1 (by decide : (0 : Int) ≤ 4167071744 ∧ (4167071744 : Int) < 4294967296).2).2) rfl
  have g2 := lays_field2 0 5 d2 [] (putS (putS 4167071744 16 5 m2) 5 5 n2) (putS_lt (putS 4167071744 16 5 m2) 5 5 n2 (putS_lt 4167071744 16 5 m2 (by decide : (0 : Int) ≤ 4167071744 ∧ (4167071744 : Int) < 4294967296).1 (by decide : (0 : Int) ≤ 4167071744 ∧ (4167071744 : Int) < 4294967296).2).1 (putS_lt 4167071744 16 5 m2 (by decide : (0 : Int) ≤ 4167071744 ∧ (4167071744 : Int) < 4294967296).1 (by decide : (0 : Int) ≤ 4167071744 ∧ (4167071744 : Int) < 4294967296).2).2) rfl
  have q2 : (d : Int).toNat % 32 = (d2 : Int).toNat % 32 := by
    have e1 : (lays (putS (putS 4167071744 16 5 m) 5 5 n) ((0, 5, d) :: [])) = lays (putS (putS 4167071744 16 5 m2) 5 5 n2) ((0, 5, d2) :: []) := e
    rw [e1] at f2
    exact f2.symm.trans g2
  clear f2 g2
  clear e
  omega
theorem inj_32 (d n m a c i d2 n2 m2 a2 c2 i2 : Int) (h : ok_32 d n m a c i = true) (h' : ok_32 d2 n2 m2 a2 c2 i2 = true) (e : (putS (putS (putS 4162877440 16 5 m) 5 5 n) 0 5 d) = (putS (putS (putS 4162877440 16 5 m2) 5 5 n2) 0 5 d2)) : d = d2 ∧ n = n2 ∧ m = m2 ∧ a = a2 ∧ c = c2 ∧ i = i2 := by
  simp only [ok_32, wi, Bool.and_eq_true, decide_eq_true_eq, beq_iff_eq] at h h'
  have f0 := lays_field2 16 5 m [(5, 5, n), (0, 5, d)] 4162877440 (by decide : (0 : Int) ≤ 4162877440 ∧ (4162877440 : Int) < 4294967296) rfl
  have g0 := lays_field2 16 5 m2 [(5, 5, n2), (0, 5, d2)] 4162877440 (by decide : (0 : Int) ≤ 4162877440 ∧ (4162877440 : Int) < 4294967296) rfl
  have q0 : (m : Int).toNat % 32 = (m2 : Int).toNat % 32 := by
    have e1 : (lays 4162877440 ((16, 5, m) :: [(5, 5, n), (0, 5, d)])) = lays 4162877440 ((16, 5, m2) :: [(5, 5, n2), (0, 5, d2)]) := e
    rw [e1] at f0
    exact f0.symm.trans g0
  clear f0 g0
  have f1 := lays_field2 5 5 n [(0, 5, d)] (putS 4162877440 16 5 m) (putS_lt 4162877440 16 5 m (by decide : (0 : Int) ≤ 4162877440 ∧ (4162877440 : Int) < 4294967296).1 (by decide : (0 : Int) ≤ 4162877440 ∧ (4162877440 : Int) < 4294967296).2) rfl
  have g1 := lays_field2 5 5 n2 [(0, 5, d2)] (putS 4162877440 16 5 m2) (putS_lt 4162877440 16 5 m2 (by decide : (0 : Int) ≤ 4162877440 ∧ (4162877440 : Int) < 4294967296).1 (by decide : (0 : Int) ≤ 4162877440 ∧ (4162877440 : Int) < 4294967296).2) rfl
  have q1 : (n : Int).toNat % 32 = (n2 : Int).toNat % 32 := by
    have e1 : (lays (putS 4162877440 16 5 m) ((5, 5, n) :: [(0, 5, d)])) = lays (putS 4162877440 16 5 m2) ((5, 5, n2) :: [(0, 5, d2)]) := e
    rw [e1] at f1
    exact f1.symm.trans g1
  clear f1 g1
  have f2 := lays_field2 0 5 d [] (putS (putS 4162877440 16 5 m) 5 5 n) (putS_lt (putS 4162877440 16 5 m) 5 5 n (putS_lt 4162877440 16 5 m (by decide : (0 : Int) ≤ 4162877440 ∧ (4162877440 : Int) < 4294967296).1 (by decide : (0 : Int) ≤ 4162877440 ∧ (4162877440 : Int) < 4294967296).2).1 (putS_lt 4162877440 16 5 m (by decide : (0 : Int) ≤ 4162877440 ∧ (4162877440 : Int) < 4294967296).1 (by decide : (0 : Int) ≤ 4162877440 ∧ (4162877440 : Int) < 4294967296).2).2) rfl
  have g2 := lays_field2 0 5 d2 [] (putS (putS 4162877440 16 5 m2) 5 5 n2) (putS_lt (putS 4162877440 16 5 m2) 5 5 n2 (putS_lt 4162877440 16 5 m2 (by decide : (0 : Int) ≤ 4162877440 ∧ (4162877440 : Int) < 4294967296).1 (by decide : (0 : Int) ≤ 4162877440 ∧ (4162877440 : Int) < 4294967296).2).1 (putS_lt 4162877440 16 5 m2 (by decide : (0 : Int) ≤ 4162877440 ∧ (4162877440 : Int) < 4294967296).1 (by decide : (0 : Int) ≤ 4162877440 ∧ (4162877440 : Int) < 4294967296).2).2) rfl
  have q2 : (d : Int).toNat % 32 = (d2 : Int).toNat % 32 := by
    have e1 : (lays (putS (putS 4162877440 16 5 m) 5 5 n) ((0, 5, d) :: [])) = lays (putS (putS 4162877440 16 5 m2) 5 5 n2) ((0, 5, d2) :: []) := e
    rw [e1] at f2
    exact f2.symm.trans g2
  clear f2 g2
  clear e
  omega
theorem inj_33 (d n m a c i d2 n2 m2 a2 c2 i2 : Int) (h : ok_33 d n m a c i = true) (h' : ok_33 d2 n2 m2 a2 c2 i2 = true) (e : (putS (putS 3370122240 5 5 n) 0 5 d) = (putS (putS 3370122240 5 5 n2) 0 5 d2)) : d = d2 ∧ n = n2 ∧ m = m2 ∧ a = a2 ∧ c = c2 ∧ i = i2 := by
  simp only [ok_33, wi, Bool.and_eq_true, decide_eq_true_eq, beq_iff_eq] at h h'
  have f0 := lays_field2 5 5 n [(0, 5, d)] 3370122240 (by decide : (0 : Int) ≤ 3370122240 ∧ (3370122240 : Int) < 4294967296) rfl
  have g0 := lays_field2 5 5 n2 [(0, 5, d2)] 3370122240 (by decide : (0 : Int) ≤ 3370122240 ∧ (3370122240 : Int) < 4294967296) rfl
  have q0 : (n : Int).toNat % 32 = (n2 : Int).toNat % 32 := by
    have e1 : (lays 3370122240 ((5, 5, n) :: [(0, 5, d)])) = lays 3370122240 ((5, 5, n2) :: [(0, 5, d2)]) := e
    rw [e1] at f0
    exact f0.symm.trans g0
  clear f0 g0
  have f1 := lays_field2 0 5 d [] (putS 3370122240 5 5 n) (putS_lt 3370122240 5 5 n (by decide : (0 : Int) ≤ 3370122240 ∧ (3370122240 : Int) < 4294967296).1 (by decide : (0 : Int) ≤ 3370122240 ∧ (3370122240 : Int) < 4294967296).2) rfl
  have g1 := lays_field2 0 5 d2 [] (putS 3370122240 5 5 n2) (putS_lt 3370122240 5 5 n2 (by decide : (0 : Int) ≤ 3370122240 ∧ (3370122240 : Int) < 4294967296).1 (by decide : (0 : Int) ≤ 3370122240 ∧ (3370122240 : Int) < 4294967296).2) rfl
  have q1 : (d : Int).toNat % 32 = (d2 : Int).toNat % 32 := by
    have e1 : (lays (putS 3370122240 5 5 n) ((0, 5, d) :: [])) = lays (putS 3370122240 5 5 n2) ((0, 5, d2) :: []) := e
    rw [e1] at f1
    exact f1.symm.trans g1
  clear f1 g1
  clear e
  omega
theorem inj_34 (d n m a c i d2 n2 m2 a2 c2 i2 : Int) (h : ok_34 d n m a c i = true) (h' : ok_34 d2 n2 m2 a2 c2 i2 = true) (e : (putS (putS 3365927936 5 5 n) 0 5 d) = (putS (putS 3365927936 5 5 n2) 0 5 d2)) : d = d2 ∧ n = n2 ∧ m = m2 ∧ a = a2 ∧ c = c2 ∧ i = i2 := by
  simp only [ok_34, wi, Bool.and_eq_true, decide_eq_true_eq, beq_iff_eq] at h h'
  have f0 := lays_field2 5 5 n [(0, 5, d)] 3365927936 (by decide : (0 : Int) ≤ 3365927936 ∧ (3365927936 : Int) < 4294967296) rfl
  have g0 := lays_field2 5 5 n2 [(0, 5, d2)] 3365927936 (by decide : (0 : Int) ≤ 3365927936 ∧ (3365927936 : Int) < 4294967296) rfl
  have q0 : (n : Int).toNat % 32 = (n2 : Int).toNat % 32 := by
    have e1 : (lays 3365927936 ((5, 5, n) :: [(0, 5, d)])) = lays 3365927936 ((5, 5, n2) :: [(0, 5, d2)]) := e
    rw [e1] at f0
    exact f0.symm.trans g0
  clear f0 g0
  have f1 := lays_field2 0 5 d [] (putS 3365927936 5 5 n) (putS_lt 3365927936 5 5 n (by decide : (0 : Int) ≤ 3365927936 ∧ (3365927936 : Int) < 4294967296).1 (by decide : (0 : Int) ≤ 3365927936 ∧ (3365927936 : Int) < 4294967296).2) rfl
  have g1 := lays_field2 0 5 d2 [] (putS 3365927936 5 5 n2) (putS_lt 3365927936 5 5 n2 (by decide : (0 : Int) ≤ 3365927936 ∧ (3365927936 : Int) < 4294967296).1 (by decide : (0 : Int) ≤ 3365927936 ∧ (3365927936 : Int) < 4294967296).2) rfl
  have q1 : (d : Int).toNat % 32 = (d2 : Int).toNat % 32 := by
    have e1 : (lays (putS 3365927936 5 5 n) ((0, 5, d) :: [])) = lays (putS 3365927936 5 5 n2) ((0, 5, d2) :: []) := e
    rw [e1] at f1
    exact f1.symm.trans g1
  clear f1 g1
  clear e
  omega
theorem inj_35 (d n m a c i d2 n2 m2 a2 c2 i2 : Int) (h : ok_35 d n m a c i = true) (h' : ok_35 d2 n2 m2 a2 c2 i2 = true) (e : (putS (putS 3361700864 5 5 n) 0 5 d) = (putS (putS 3361700864 5 5 n2) 0 5 d2)) : d = d2 ∧ n = n2 ∧ m = m2 ∧ a = a2 ∧ c = c2 ∧ i = i2 := by
  simp only [ok_35, wi, Bool.and_eq_true, decide_eq_true_eq, beq_iff_eq] at h h'
  have f0 := lays_field2 5 5 n [(0, 5, d)] 3361700864 (by decide : (0 : Int) ≤ 3361700864 ∧ (3361700864 : Int) < 4294967296) rfl
  have g0 := lays_field2 5 5 n2 [(0, 5, d2)] 3361700864 (by decide : (0 : Int) ≤ 3361700864 ∧ (3361700864 : Int) < 4294967296) rfl
  have q0 : (n : Int).toNat % 32 = (n2 : Int).toNat % 32 := by
    have e1 : (lays 3361700864 ((5, 5, n) :: [(0, 5, d)])) = lays 3361700864 ((5, 5, n2) :: [(0, 5, d2)]) := e
    rw [e1] at f0
    exact f0.symm.trans g0
  clear f0 g0
  have f1 := lays_field2 0 5 d [] (putS 3361700864 5 5 n) (putS_lt 3361700864 5 5 n (by decide : (0 : Int) ≤ 3361700864 ∧ (3361700864 : Int) < 4294967296).1 (by decide : (0 : Int) ≤ 3361700864 ∧ (3361700864 : Int) < 4294967296).2) rfl
  have g1 := lays_field2 0 5 d2 [] (putS 3361700864 5 5 n2) (putS_lt 3361700864 5 5 n2 (by decide : (0 : Int) ≤ 3361700864 ∧ (3361700864 : Int) < 4294967296).1 (by decide : (0 : Int) ≤ 3361700864 ∧ (3361700864 : Int) < 4294967296).2) rfl
  have q1 : (d : Int).toNat % 32 = (d2 : Int).toNat % 32 := by
    have e1 : (lays (putS 3361700864 5 5 n) ((0, 5, d) :: [])) = lays (putS 3361700864 5 5 n2) ((0, 5, d2) :: []) := e
    rw [e1] at f1
    exact f1.symm.trans g1
  clear f1 g1
  clear e
  omega
theorem inj_36 (d n m a c i d2 n2 m2 a2 c2 i2 : Int) (h : ok_36 d n m a c i = true) (h' : ok_36 d2 n2 m2 a2 c2 i2 = true) (e : (putS (putS (putS 3355474944 16 5 d) 5 5 n) 0 5 m) = (putS (putS (putS 3355474944 16 5 d2) 5 5 n2) 0 5 m2)) : d = d2 ∧ n = n2 ∧ m = m2 ∧ a = a2 ∧ c = c2 ∧ i = i2 := by
  simp only [ok_36, wi, Bool.and_eq_true, decide_eq_true_eq, beq_iff_eq] at h h'
  have f0 := lays_field2 16 5 d [(5, 5, n), (0, 5, m)] 3355474944 (by decide : (0 : Int) ≤ 3355474944 ∧ (3355474944 : Int) < 4294967296) rfl
  have g0 := lays_field2 16 5 d2 [(5, 5, n2), (0, 5, m2)] 3355474944 (by decide : (0 : Int) ≤ 3355474944 ∧ (3355474944 : Int) < 4294967296) rfl
  have q0 : (d : Int).toNat % 32 = (d2 : Int).toNat % 32 := by
    have e1 : (lays 3355474944 ((16, 5, d) :: [(5, 5, n), (0, 5, m)])) = lays 3355474944 ((16, 5, d2) :: [(5, 5, n2), (0, 5, m2)]) := e
    rw [e1] at f0
    exact f0.symm.trans g0
  clear f0 g0
  have f1 := lays_field2 5 5 n [(0, 5, m)] (putS 3355474944 16 5 d) (putS_lt 3355474944 16 5 d (by decide : (0 : Int) ≤ 3355474944 ∧ (3355474944 : Int) < 4294967296).1 (by decide : (0 : Int) ≤ 3355474944 ∧ (3355474944 : Int) < 4294967296).2) rfl
  have g1 := lays_field2 5 5 n2 [(0, 5, m2)] (putS 3355474944 16 5 d2) (putS_lt 3355474944 16 5 d2 (by decide : (0 : Int) ≤ 3355474944 ∧ (3355474944 : Int) < 4294967296).1 (by decide : (0 : Int) ≤ 3355474944 ∧ (3355474944 : Int) < 4294967296).2) rfl
  have q1 : (n : Int).toNat % 32 = (n2 : Int).toNat % 32 := by
    have e1 : (lays (putS 3355474944 16 5 d) ((5, 5, n) :: [(0, 5, m)])) = lays (putS 3355474944 16 5 d2) ((5, 5, n2) :: [(0, 5, m2)]) := e
    rw [e1] at f1
    exact f1.symm.trans g1
  clear f1 g1
  have f2 := lays_field2 0 5 m [] (putS (putS 3355474944 16 5 d) 5 5 n) (putS_lt (putS 3355474944 16 5 d) 5 5 n (putS_lt 3355474944 16 5 d (by decide : (0 : Int) ≤ 3355474944 ∧ (3355474944 : Int) < 4294967296).1 (by decide : (0 : Int) ≤ 3355474944 ∧ (3355474944 : Int) < 4294967296).2).1 (putS_lt 3355474944 16 5 d (by decide : (0 : Int) ≤ 3355474944 ∧ (3355474944 : Int) < 4294967296).1 (by decide : (0 : Int) ≤ 3355474944 ∧ (3355474944 : Int) < 4294967296).2).2) rfl
  have g2 := lays_field2 0 5 m2 [] (putS (putS 3355474944 16 5 d2) 5 5 n2) (putS_lt (putS 3355474944 16 5 d2) 5 5 n2 (putS_lt 3355474944 16 5 d2 (by decide : (0 : Int) ≤ 3355474944 ∧ (3355474944 : Int) < 4294967296).1 (by decide : (0 : Int) ≤ 3355474944 ∧ (3355474944 : Int) < 4294967296).2).1 (putS_lt 3355474944 16 5 d2 (by decide : (0 : Int) ≤ 3355474944 ∧ (3355474944 : Int) < 4294967296).1 (by decide : (0 : Int) ≤ 3355474944 ∧ (3355474944 : Int) < 4294967296).2).2) rfl
  have q2 : (m : Int).toNat % 32 = (m2 : Int).toNat % 32 := by
    have e1 : (lays (putS (putS 3355474944 16 5 d) 5 5 n) ((0, 5, m) :: [])) = lays (putS (putS 3355474944 16 5 d2) 5 5 n2) ((0, 5, m2) :: []) := e
    rw [e1] at f2
    exact f2.symm.trans g2
  clear f2 g2
  clear e
  omega
theorem inj_37 (d n m a c i d2 n2 m2 a2 c2 i2 : Int) (h : ok_37 d n m a c i = true) (h' : ok_37 d2 n2 m2 a2 c2 i2 = true) (e : (putS 3573758911 8 4 (barV i)) = (putS 3573758911 8 4 (barV i2))) : d = d2 ∧ n = n2 ∧ m = m2 ∧ a = a2 ∧ c = c2 ∧ i = i2 := by
  simp only [ok_37, wi, Bool.and_eq_true, decide_eq_true_eq, beq_iff_eq] at h h'
  have f0 := lays_field2 8 4 (barV i) [] 3573758911 (by decide : (0 : Int) ≤ 3573758911 ∧ (3573758911 : Int) < 4294967296) rfl
  have g0 := lays_field2 8 4 (barV i2) [] 3573758911 (by decide : (0 : Int) ≤ 3573758911 ∧ (3573758911 : Int) < 4294967296) rfl
  have q0 : ((barV i) : Int).toNat % 16 = ((barV i2) : Int).toNat % 16 := by
    have e1 : (lays 3573758911 ((8, 4, (barV i)) :: [])) = lays 3573758911 ((8, 4, (barV i2)) :: []) := e
    rw [e1] at f0
    exact f0.symm.trans g0
  clear f0 g0
  clear e
  have hb : ∀ x : Int, 0 ≤ x ∧ x ≤ 2 → (x = 0 ∧ (barV x).toNat % 16 = 11) ∨ (x = 1 ∧ (barV x).toNat % 16 = 9) ∨ (x = 2 ∧ (barV x).toNat % 16 = 10) := fun x hx => by
    have : x = 0 ∨ x = 1 ∨ x = 2 := by omega
    rcases this with rfl | rfl | rfl <;> simp [barV]
  have b1 := hb i (by omega)
  have b2 := hb i2 (by omega)
  omega
theorem inj_38 (d n m a c i d2 n2 m2 a2 c2 i2 : Int) (h : ok_38 d n m a c i = true) (h' : ok_38 d2 n2 m2 a2 c2 i2 = true) (e : 3573758879 = 3573758879) : d = d2 ∧ n = n2 ∧ m = m2 ∧ a = a2 ∧ c = c2 ∧ i = i2 := by
  simp only [ok_38, Bool.and_eq_true, beq_iff_eq] at h h'
  clear e
  omega
theorem inj_39 (d n m a c i d2 n2 m2 a2 c2 i2 : Int) (h : ok_39 d n m a c i = true) (h' : ok_39 d2 n2 m2 a2 c2 i2 = true) (e : 3573759967 = 3573759967) : d = d2 ∧ n = n2 ∧ m = m2 ∧ a = a2 ∧ c = c2 ∧ i = i2 := by
  simp only [ok_39, Bool.and_eq_true, beq_iff_eq] at h h'
  clear e
  omega
theorem inj_40 (d n m a c i d2 n2 m2 a2 c2 i2 : Int) (h : ok_40 d n m a c i = true) (h' : ok_40 d2 n2 m2 a2 c2 i2 = true) (e : (putS 3574299424 0 5 n) = (putS 3574299424 0 5 n2)) : d = d2 ∧ n = n2 ∧ m = m2 ∧ a = a2 ∧ c = c2 ∧ i = i2 := by
  simp only [ok_40, wi, Bool.and_eq_true, decide_eq_true_eq, beq_iff_eq] at h h'
  have f0 := lays_field2 0 5 n [] 3574299424 (by decide : (0 : Int) ≤ 3574299424 ∧ (3574299424 : Int) < 4294967296) rfl
  have g0 := lays_field2 0 5 n2 [] 3574299424 (by decide : (0 : Int) ≤ 3574299424 ∧ (3574299424 : Int) < 4294967296) rfl
  have q0 : (n : Int).toNat % 32 = (n2 : Int).toNat % 32 := by
    have e1 : (lays 3574299424 ((0, 5, n) :: [])) = lays 3574299424 ((0, 5, n2) :: []) := e
    rw [e1] at f0
    exact f0.symm.trans g0
  clear f0 g0
  clear e
  omega
theorem inj_41 (d n m a c i d2 n2 m2 a2 c2 i2 : Int) (h : ok_41 d n m a c i = true) (h' : ok_41 d2 n2 m2 a2 c2 i2 = true) (e : (putS 3574297888 0 5 n) = (putS 3574297888 0 5 n2)) : d = d2 ∧ n = n2 ∧ m = m2 ∧ a = a2 ∧ c = c2 ∧ i = i2 := by
  simp only [ok_41, wi, Bool.and_eq_true, decide_eq_true_eq, beq_iff_eq] at h h'
  have f0 := lays_field2 0 5 n [] 3574297888 (by decide : (0 : Int) ≤ 3574297888 ∧ (3574297888 : Int) < 4294967296) rfl
  have g0 := lays_field2 0 5 n2 [] 3574297888 (by decide : (0 : Int) ≤ 3574297888 ∧ (3574297888 : Int) < 4294967296) rfl
  have q0 : (n : Int).toNat % 32 = (n2 : Int).toNat % 32 := by
    have e1 : (lays 3574297888 ((0, 5, n) :: [])) = lays 3574297888 ((0, 5, n2) :: []) := e
    rw [e1] at f0
    exact f0.symm.trans g0
  clear f0 g0
  clear e
  omega
theorem inj_42 (d n m a c i d2 n2 m2 a2 c2 i2 : Int) (h : ok_42 d n m a c i = true) (h' : ok_42 d2 n2 m2 a2 c2 i2 = true) (e : (putS 3556769793 5 16 i) = (putS 3556769793 5 16 i2)) : d = d2 ∧ n = n2 ∧ m = m2 ∧ a = a2 ∧ c = c2 ∧ i = i2 := by
  simp only [ok_42, wi, Bool.and_eq_true, decide_eq_true_eq, beq_iff_eq] at h h'
  have f0 := lays_field2 5 16 i [] 3556769793 (by decide : (0 : Int) ≤ 3556769793 ∧ (3556769793 : Int) < 4294967296) rfl
  have g0 := lays_field2 5 16 i2 [] 3556769793 (by decide : (0 : Int) ≤ 3556769793 ∧ (3556769793 : Int) < 4294967296) rfl
  have q0 : (i : Int).toNat % 65536 = (i2 : Int).toNat % 65536 := by
    have e1 : (lays 3556769793 ((5, 16, i) :: [])) = lays 3556769793 ((5, 16, i2) :: []) := e
    rw [e1] at f0
    exact f0.symm.trans g0
  clear f0 g0
  clear e
  omega
end Go.Proofs.Ytnbpgoacooddjaa.En
