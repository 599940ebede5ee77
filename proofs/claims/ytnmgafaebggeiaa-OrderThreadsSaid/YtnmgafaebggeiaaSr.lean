import Derived.Test.YtnmgafaebggeiaaSp
namespace Go.Proofs.Ytnmgafaebggeiaa.St
open Go.ChangeShapes Go.WideShapes Go.ChangeAt Go.RowKit Go.Maps
set_option linter.unusedVariables false
/-! ### Clocks hang on the order of At alone -/
/-- An event at another time. -/
def Ev.moved (e : Ev) (t : Int) : Ev := { e with tm := t }
def movX (by_ sp : Int) (X : Nat → Ev) (i : Nat) : Ev := (X i).moved ((X i).tm * sp + by_)
theorem rows_mov (by_ sp : Int) (X : Nat → Ev) (n : Nat) : rowsOf (movX by_ sp X) n = rowsOf X n := rfl
theorem plain_congr {F G : Fx} (hr : G.rows = F.rows) (hs : G.sy = F.sy) (k : Nat) : ∀ (n : Nat) (S : St), S.plain G k n = S.plain F k n
  | 0, _ => rfl
  | n + 1, S => by
    unfold St.plain
    rw [hr, hs]
    split
    · split
      · rfl
      · exact plain_congr hr hs k n _
    · rfl
theorem pl_congr {F G : Fx} (hr : G.rows = F.rows) (hs : G.sy = F.sy) (k : Nat) (S : St) : S.pl G k = S.pl F k := by
  unfold St.pl
  rw [plain_congr hr hs, hr]
theorem stamp_congr {F : Fx} {G : Fx} (hr : G.rows = F.rows) (hs : G.sy = F.sy) (hX : ∀ i, ∃ t, G.X i = (F.X i).moved t) (i k : Nat) (S : St) : S.stamp G i k = S.stamp F i k := by
  obtain ⟨t, ht⟩ := hX i
  unfold St.stamp
  rw [ht, hr, hs, plain_congr hr hs]
  rfl
theorem next_congr {F : Fx} {G : Fx} (hr : G.rows = F.rows) (hs : G.sy = F.sy) (hX : ∀ i, ∃ t, G.X i = (F.X i).moved t) (i : Nat) (S : St) : S.next G i = S.next F i := by
  unfold St.next
  rw [stamp_congr hr hs hX, pl_congr hr hs]
  obtain ⟨t, ht⟩ := hX i
  rw [ht]
  rfl
theorem fin_congr {F : Fx} {G : Fx} (hr : G.rows = F.rows) (hs : G.sy = F.sy) (hX : ∀ i, ∃ t, G.X i = (F.X i).moved t) (l : List Nat) : St.fin G l = St.fin F l := by
  have e1 : St.next G = St.next F := by
    funext S i
    exact next_congr hr hs hX i S
  have e2 : St.pl G = St.pl F := by
    funext S k
    exact pl_congr hr hs k S
  unfold St.fin St.ups
  rw [e1, e2]
theorem mono_mov {sp by_ x y : Int} (h : 1 ≤ sp) : x * sp + by_ < y * sp + by_ ↔ x < y := by
  constructor
  · intro hh
    by_cases h1 : x < y
    · exact h1
    · have := Int.mul_le_mul_of_nonneg_right (show y ≤ x by omega) (show (0 : Int) ≤ sp by omega)
      omega
  · intro hh
    have := Int.mul_lt_mul_of_pos_right hh (show (0 : Int) < sp by omega)
    omega
theorem tm_mov (n : Nat) (by_ sp : Int) (X : Nat → Ev) (i : Nat) : (FX n n (movX by_ sp X)).tm i = (FX n n X).tm i * sp + by_ := rfl
theorem syl_mov (n : Nat) (by_ sp : Int) (X : Nat → Ev) (k : Nat) : (FX n n (movX by_ sp X)).syl k = (FX n n X).syl k := rfl
theorem good_mov {n : Nat} {by_ sp : Int} {X : Nat → Ev} (h : 1 ≤ sp) : (FX n n (movX by_ sp X)).good ↔ (FX n n X).good := by
  unfold Fx.good Fx.rise
  simp only [tm_mov, mono_mov h]
  rw [syl_mov]
  have e : ∀ x y : Int, x * sp + by_ ≠ y * sp + by_ ↔ x ≠ y := fun x y => by
    have h1 := mono_mov (by_ := by_) (x := x) (y := y) h
    have h2 := mono_mov (by_ := by_) (x := y) (y := x) h
    omega
  simp only [e]
  rfl
theorem sorted_unique {f : Nat → Int} : ∀ {l m : List Nat}, l.Perm m → l.Pairwise (fun i j => f i < f j) → m.Pairwise (fun i j => f i < f j) → l = m := fun {l m} hp hl hm =>
  List.Perm.eq_of_pairwise (fun a b _ _ h1 h2 => by omega) hl hm hp
theorem fin_mov {n : Nat} {by_ sp : Int} {X : Nat → Ev} (h : 1 ≤ sp) {l m : List Nat} (h1 : l.Perm ((FX n n X).syl 4)) (h2 : l.Pairwise fun i j => (FX n n X).tm i < (FX n n X).tm j)
    (h3 : m.Perm ((FX n n (movX by_ sp X)).syl 4)) (h4 : m.Pairwise fun i j => (FX n n (movX by_ sp X)).tm i < (FX n n (movX by_ sp X)).tm j) : St.fin (FX n n (movX by_ sp X)) m = St.fin (FX n n X) l := by
  simp only [tm_mov, mono_mov h] at h4
  rw [syl_mov] at h3
  rw [sorted_unique (h3.trans h1.symm) h4 h2]
  exact fin_congr (F := FX n n X) (G := FX n n (movX by_ sp X)) rfl rfl (fun i => ⟨(X i).tm * sp + by_, rfl⟩) l
end Go.Proofs.Ytnmgafaebggeiaa.St
