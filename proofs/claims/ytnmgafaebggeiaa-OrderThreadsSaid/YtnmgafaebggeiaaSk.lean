import Derived.Test.YtnmgafaebggeiaaSj
import Derived.Lib.Small
namespace Go.Proofs.Ytnmgafaebggeiaa.St
open Go.ChangeShapes Go.WideShapes Go.ChangeAt Go.RowKit Go.Maps
set_option linter.unusedVariables false
/-! ### The sort's closure -/
theorem nan_c (x : Int) (w : World) : Calls Try.prog 37 #[.int .i64 x] w fun e w' => e = .returned (.bool false) ∧ w' = w := by
  have h : (x != x) = false := by simp
  go_enter Try.func37, Try.ntmps37
  go_wp2
  go_ret
  exact ⟨by first | rfl | simp [h], rfl⟩
theorem cmp_c (x y : Int) (w : World) : Calls Try.prog 33 #[.int .i64 x, .int .i64 y] w fun e w' => e = .returned (.int .i64 (Lib.compareInt x y)) ∧ w' = w := by
  by_cases h1 : x < y
  · have d1 : decide (x < y) = true := decide_eq_true h1
    rw [show Lib.compareInt x y = -1 by unfold Lib.compareInt; rw [if_pos h1]]
    go_enter Try.func33, Try.ntmps33
    go_wp2_with (first | (go_at_call 37; refine (nan_c _ _).mono ?_; rintro e w1 ⟨rfl, rfl⟩))
    go_ret
    exact ⟨rfl, rfl⟩
  · have d1 : decide (x < y) = false := decide_eq_false h1
    by_cases h2 : x > y
    · have d2 : decide (y < x) = true := decide_eq_true h2
      rw [show Lib.compareInt x y = 1 by unfold Lib.compareInt; rw [if_neg h1, if_pos h2]]
      clear h1 h2
      go_enter Try.func33, Try.ntmps33
      go_wp2_with (first | (go_at_call 37; refine (nan_c _ _).mono ?_; rintro e w1 ⟨rfl, rfl⟩))
      go_ret
      exact ⟨rfl, rfl⟩
    · have d2 : decide (y < x) = false := decide_eq_false h2
      rw [show Lib.compareInt x y = 0 by unfold Lib.compareInt; rw [if_neg h1, if_neg h2]]
      clear h1 h2
      go_enter Try.func33, Try.ntmps33
      go_wp2_with (first | (go_at_call 37; refine (nan_c _ _).mono ?_; rintro e w1 ⟨rfl, rfl⟩))
      go_ret
      exact ⟨rfl, rfl⟩
set_option maxRecDepth 100000 in
set_option maxHeartbeats 4000000 in
theorem clo_c {W : World} {c s eb eo N ec i j : Nat} {x y : Int} (h0 : W.cell? ⟨c, 0, none⟩ = some (.pointer (some ⟨s, 0, none⟩))) (h1 : W.cell? ⟨s, 0, none⟩ = some (.slice (some ⟨eb, eo, none⟩) N ec)) (hi : i < N) (hj : j < N)
    (h2 : W.cell? ⟨eb, eo + i * 9 + 8, none⟩ = some (.int .i64 x)) (h3 : W.cell? ⟨eb, eo + j * 9 + 8, none⟩ = some (.int .i64 y)) :
    Calls Try.prog 32 #[.int .i64 i, .int .i64 j, .pointer (some ⟨c, 0, none⟩)] W fun e w' => e = .returned (.int .i64 (Lib.compareInt x y)) ∧ ∃ q, w' = W.drewN q := by
  have g1 : (i : Int) < N := by omega
  have g2 : (0 : Int) ≤ i := by omega
  have g3 : (j : Int) < N := by omega
  have g4 : (0 : Int) ≤ j := by omega
  clear hi hj
  have HC : Hid (∀ w, Calls Try.prog 33 #[.int .i64 x, .int .i64 y] w fun e w' => e = .returned (.int .i64 (Lib.compareInt x y)) ∧ w' = w) := Lib.hid (cmp_c x y)
  generalize Lib.compareInt x y = z at HC ⊢
  go_enter Try.func32, Try.ntmps32
  go_wp2
  go_quiet ((go_at_call 33; exact Calls.quiet_of_same (HC.out _)))
  go_wp2
  go_ret
  exact ⟨rfl, _, rfl⟩
/-! ### The syncs, in words -/
def Fx.tm (F : Fx) (i : Nat) : Int := (F.X i).tm
/-- The syncs of the first rows, row by row. -/
def Fx.syl (F : Fx) (r : Nat) : List Nat := ((List.range r).flatMap F.rows).filter F.sy
theorem Fx.syl_step (F : Fx) (r : Nat) : F.syl (r + 1) = F.syl r ++ (F.rows r).filter F.sy := by
  unfold Fx.syl
  rw [List.range_succ, List.flatMap_append, List.filter_append]
  simp
/-- At rises along a row's syncs. -/
def Fx.rise (F : Fx) (k : Nat) : Prop := ((F.rows k).filter F.sy).Pairwise fun i j => F.tm i < F.tm j
/-- What Stamp asks of At. -/
def Fx.good (F : Fx) : Prop := (∀ k, k < 4 → F.rise k) ∧ (F.syl 4).Pairwise fun i j => F.tm i ≠ F.tm j
/-- The sort's contract. -/
def SortLaw : Prop := ∀ (W : World) (P : Pc) (F : Fx) (S : St) (c base n : Nat) (v : Value) (l : List Nat), SmC W P F S → W.cell? ⟨c, 0, none⟩ = some (.pointer (some ⟨P.s, 0, none⟩)) → c < W.heap.size → W.ownsRow base 3 1 v n (intL l) → P.s < base → c < base → P.eb < base → (∀ i ∈ l, i < F.N) → l.length ≤ 1000 →
  Calls Try.prog 31 #[v, .func (.func 32) #[] #[.pointer (some ⟨c, 0, none⟩)]] W fun r W' => r = .returned (.tuple #[]) ∧ ∃ l', l'.Perm l ∧ l'.Pairwise (fun i j => ¬ F.tm j < F.tm i) ∧ W'.ownsRow base 3 1 v n (intL l') ∧ W.grownBy W' v.ownBlock
end Go.Proofs.Ytnmgafaebggeiaa.St
