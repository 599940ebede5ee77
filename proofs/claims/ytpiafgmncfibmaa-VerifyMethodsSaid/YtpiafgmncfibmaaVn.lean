import Derived.Laws.BitsLemmas
import Derived.IntWalk
import Derived.Laws.BitsAllLaws
import Derived.Deep.DrawnRows
import Derived.Test.YtpiafgmncfibmaaVe
import Derived.Test.YtpiafgmncfibmaaVk
import Derived.Test.YtpiafgmncfibmaaRows
import Derived.WalkKit
import Derived.ProofKit
import Derived.OpenShut
import Derived.Deep.QuietTactic
import Derived.BigQuiet
import Derived.Outline
import Derived.WalkSmall
import Derived.WalkLawsBesides
import Derived.WalkSpells
import Derived.BigGuardPart
import Derived.RegionTactic
import Derived.Deep.RegionHeld3
import Derived.Lib.Hide
import Derived.Deep.MidRow
import Derived.Below
import Derived.Deep.RegionWith
import Derived.Deep.OwnRows
import Derived.Deep.AppendLies
import Derived.Deep.RegionLaw
import Derived.Deep.CutBlock
import Derived.Deep.DeepCutAuto
namespace Go.Proofs.Ytpiafgmncfibmaa.Vf
open Go.ChangeShapes Go.WideShapes Go.ChangeAt Go.RowKit
set_option linter.unusedVariables false

theorem NewInts.of (l : List Int) (w : World) : NewInts l w (.returned (.slice (some ⟨w.heap.size, 0, none⟩) l.length l.length)) (w.alloc (.cells (l.map (.int .i64)).toArray 3)) := by
  refine ⟨_, _, rfl, .inr ⟨_, 0, rfl, by simp, fun i hi => ?_⟩, Nat.le_refl _, fun p hp => by injection hp with hp; subst hp; exact Nat.le_refl _, (Below.refl _ _).alloc (Nat.le_refl _) _⟩
  rw [Nat.zero_add, (Bx.new w _ 3).cell]
  rw [List.getElem?_toArray, List.getElem?_map, getD_eq hi]; rfl
theorem NewInts.nil0 (w : World) : NewInts [] w (.returned (.slice none 0 0)) w := ⟨none, 0, rfl, .inl rfl, Nat.le_refl _, fun p hp => (by cases hp), Below.refl _ _⟩
theorem NewInts.from {l : List Int} {w w1 w' : World} {e : Ending} (h : NewInts l w1 e w') (hb : Below w.heap.size w w1) : NewInts l w e w' := by
  obtain ⟨a, c, h1, h2, h3, h4, h5⟩ := h
  exact ⟨a, c, h1, h2, h3, fun p hp => Nat.le_trans hb.size (h4 p hp), hb.trans (h5.mono hb.size)⟩
theorem isIn_c (n : Int) (c : Nat) (w : World) : Calls Try.prog 96 #[.int .i64 n, .int .i64 c] w fun e w' => e = .returned (.bool (isIn n c)) ∧ w' = w := by
  by_cases h0 : 0 ≤ n
  · have d0 : decide (0 ≤ n) = true := decide_eq_true h0
    by_cases h1 : n < c
    · have d1 : decide (n < (c : Int)) = true := decide_eq_true h1
      have hr : isIn n c = true := decide_eq_true ⟨h0, h1⟩
      rw [hr]
      clear h0 h1 hr
      go_enter Try.func96, Try.ntmps96
      go_wp2
      go_ret
      exact ⟨rfl, rfl⟩
    · have d1 : decide (n < (c : Int)) = false := decide_eq_false h1
      have hr : isIn n c = false := decide_eq_false (fun h => h1 h.2)
      rw [hr]
      clear h0 h1 hr
      go_enter Try.func96, Try.ntmps96
      go_wp2
      go_ret
      exact ⟨rfl, rfl⟩
  · have d0 : decide (0 ≤ n) = false := decide_eq_false h0
    have hr : isIn n c = false := decide_eq_false (fun h => h0 h.1)
    rw [hr]
    clear h0 hr
    go_enter Try.func96, Try.ntmps96
    go_wp2
    go_ret
    exact ⟨rfl, rfl⟩
theorem isMethod_c (P : Pg) (A : Ad) (m : Int) (w : World) : Calls Try.prog 68 #[.agg (P.cells A), .int .i64 m] w fun e w' => e = .returned (.bool (isIn m P.nm)) ∧ Below w.heap.size w w' := by
  show Calls Try.prog 68 #[.agg #[.slice A.pa P.np A.pc, .slice A.ca P.nc A.cc, .slice A.ma P.nm A.mc], .int .i64 m] w _
  generalize P.nm = c
  by_cases h0 : 0 ≤ m
  · have d0 : decide (0 ≤ m) = true := decide_eq_true h0
    by_cases h1 : m < c
    · have d1 : decide (m < (c : Int)) = true := decide_eq_true h1
      have hr : isIn m c = true := decide_eq_true ⟨h0, h1⟩
      rw [hr]
      clear h0 h1 hr
      go_enter Try.func68, Try.ntmps68
      go_wp2
      go_ret
      exact ⟨rfl, (Below.refl _ _).alloc (Nat.le_refl _) _⟩
    · have d1 : decide (m < (c : Int)) = false := decide_eq_false h1
      have hr : isIn m c = false := decide_eq_false (fun h => h1 h.2)
      rw [hr]
      clear h0 h1 hr
      go_enter Try.func68, Try.ntmps68
      go_wp2
      go_ret
      exact ⟨rfl, (Below.refl _ _).alloc (Nat.le_refl _) _⟩
  · have d0 : decide (0 ≤ m) = false := decide_eq_false h0
    have hr : isIn m c = false := decide_eq_false (fun h => h0 h.1)
    rw [hr]
    clear h0 hr
    go_enter Try.func68, Try.ntmps68
    go_wp2
    go_ret
    exact ⟨rfl, (Below.refl _ _).alloc (Nat.le_refl _) _⟩
theorem isSum_c (c : Nat) (w : World) (hc : c < 256) : Calls Try.prog 100 #[.int .i64 c] w fun e w' => e = .returned (.bool (isSum c)) ∧ w' = w := by
  have hr : isSum c = decide (9 ≤ c ∧ c ≤ 19 ∨ c = 21 ∨ c = 22) := rfl
  by_cases h9 : 9 ≤ c
  · by_cases h19 : c ≤ 19
    · rw [hr, decide_eq_true (.inl ⟨h9, h19⟩)]
      have d0 : decide ((9 : Int) ≤ (c : Int)) = true := decide_eq_true (by omega)
      have d1 : decide ((c : Int) ≤ 19) = true := decide_eq_true (by omega)
      clear hr h9 h19
      go_enter Try.func100, Try.ntmps100
      go_wp2
      go_ret
      exact ⟨rfl, rfl⟩
    · by_cases h21 : c = 21
      · subst h21
        rw [hr]
        clear hr
        go_enter Try.func100, Try.ntmps100
        go_wp2
        go_ret
        exact ⟨rfl, rfl⟩
      · by_cases h22 : c = 22
        · subst h22
          rw [hr]
          clear hr
          go_enter Try.func100, Try.ntmps100
          go_wp2
          go_ret
          exact ⟨rfl, rfl⟩
        · rw [hr, decide_eq_false (by omega)]
          have d0 : decide ((9 : Int) ≤ (c : Int)) = true := decide_eq_true (by omega)
          have d1 : decide ((c : Int) ≤ 19) = false := decide_eq_false (by omega)
          have d2 : ((c : Int) == 21) = false := by simpa using (show ¬ (c : Int) = 21 by omega)
          have d3 : ((c : Int) == 22) = false := by simpa using (show ¬ (c : Int) = 22 by omega)
          clear hr h9 h19 h21 h22
          go_enter Try.func100, Try.ntmps100
          go_wp2
          go_ret
          exact ⟨rfl, rfl⟩
  · rw [hr, decide_eq_false (by omega)]
    have d0 : decide ((9 : Int) ≤ (c : Int)) = false := decide_eq_false (by omega)
    have d2 : ((c : Int) == 21) = false := by simpa using (show ¬ (c : Int) = 21 by omega)
    have d3 : ((c : Int) == 22) = false := by simpa using (show ¬ (c : Int) = 22 by omega)
    clear hr h9
    go_enter Try.func100, Try.ntmps100
    go_wp2
    go_ret
    exact ⟨rfl, rfl⟩
theorem jumps_c (c : Nat) (w : World) : Calls Try.prog 117 #[.int .i64 c] w fun e w' => e = .returned (.bool (jumpB c)) ∧ w' = w := by
  have hr : jumpB c = decide (c = 25 ∨ c = 26) := rfl
  by_cases h : c = 25
  · subst h
    go_enter Try.func117, Try.ntmps117
    go_wp2
    go_ret
    exact ⟨rfl, rfl⟩
  by_cases h2 : c = 26
  · subst h2
    go_enter Try.func117, Try.ntmps117
    go_wp2
    go_ret
    exact ⟨rfl, rfl⟩
  rw [hr, decide_eq_false (by omega)]
  have d2 : ((c : Int) == 25) = false := by simpa using (show ¬ (c : Int) = 25 by omega)
  have d3 : ((c : Int) == 26) = false := by simpa using (show ¬ (c : Int) = 26 by omega)
  clear hr h h2
  go_enter Try.func117, Try.ntmps117
  go_wp2
  go_ret
  exact ⟨rfl, rfl⟩
def retB (c : Nat) : Bool := decide (c = 28)
theorem returns_c (c : Nat) (w : World) : Calls Try.prog 128 #[.int .i64 c] w fun e w' => e = .returned (.bool (retB c)) ∧ w' = w := by
  have hr : retB c = decide (c = 28) := rfl
  by_cases h : c = 28
  · subst h
    go_enter Try.func128, Try.ntmps128
    go_wp2
    go_ret
    exact ⟨rfl, rfl⟩
  rw [hr, decide_eq_false (by omega)]
  have d2 : ((c : Int) == 28) = false := by simpa using (show ¬ (c : Int) = 28 by omega)
  clear hr h
  go_enter Try.func128, Try.ntmps128
  go_wp2
  go_ret
  exact ⟨rfl, rfl⟩
theorem goesOn_c (c : Nat) (w : World) : Calls Try.prog 129 #[.int .i64 c] w fun e w' => e = .returned (.bool (onB c)) ∧ w' = w := by
  have hr : onB c = decide (c ≠ 25 ∧ c ≠ 28) := rfl
  by_cases h : c = 25
  · subst h
    go_enter Try.func129, Try.ntmps129
    go_wp2
    go_ret
    exact ⟨rfl, rfl⟩
  by_cases h2 : c = 28
  · subst h2
    go_enter Try.func129, Try.ntmps129
    go_wp2
    go_ret
    exact ⟨rfl, rfl⟩
  rw [hr, decide_eq_true ⟨h, h2⟩]
  have d2 : ((c : Int) != 25) = true := by simpa using (show ¬ (c : Int) = 25 by omega)
  have d3 : ((c : Int) != 28) = true := by simpa using (show ¬ (c : Int) = 28 by omega)
  clear hr h h2
  go_enter Try.func129, Try.ntmps129
  go_wp2
  go_ret
  exact ⟨rfl, rfl⟩
theorem valueOf_c (r : Int) (w : World) : Calls Try.prog 99 #[.int .i64 r] w (NewInts (valL r) w) := by
  have hr : valL r = if r = 0 then [] else [r] := rfl
  by_cases h : r = 0
  · subst h
    go_enter Try.func99, Try.ntmps99
    go_wp2
    go_ret
    exact NewInts.nil0 w
  rw [hr, if_neg h]
  have d2 : (r == 0) = false := by simpa using h
  clear hr h
  go_enter Try.func99, Try.ntmps99
  go_wp2
  go_ret
  exact NewInts.of [r] w
/-- A method's five cells. -/
def Pg.meth (P : Pg) (A : Ad) (i : Nat) : Array Value := #[.slice (A.ppa i) (P.pn i) (A.ppc i), .int .i64 (P.rt i), .slice (A.lla i) (P.ln i) (A.llc i), .int .i64 (P.sk i), .slice (A.cda i) (P.cn i) (A.cdc i)]
theorem isThreads_c (P : Pg) (A : Ad) (i : Nat) (w : World) (h : RowA w P A i) (hn : P.pn i ≤ Big) : Calls Try.prog 97 #[.agg (Pg.meth P A i)] w fun e w' => e = .returned (.bool (thr P i)) ∧ Below w.heap.size w w' := by
  show Calls Try.prog 97 #[.agg #[.slice (A.ppa i) (P.pn i) (A.ppc i), .int .i64 (P.rt i), .slice (A.lla i) (P.ln i) (A.llc i), .int .i64 (P.sk i), .slice (A.cda i) (P.cn i) (A.cdc i)]] w _
  have hr : thr P i = decide (P.pn i = 1 ∧ P.pt i 0 = 2 ∧ P.rt i = 0) := rfl
  by_cases h1 : P.pn i = 1
  · obtain ⟨b, o, ha, hb, hc⟩ := h.resolve_left (by omega)
    have c0 : w.cell? ⟨b, o, none⟩ = some (.int .i64 (P.pt i 0)) := hc 0 (by omega)
    clear hc h hn
    rw [hr]
    have HR : Hid (P.pn i = 1) := Lib.hid h1
    rw [ha, h1]
    clear ha h1 hr
    generalize P.pt i 0 = x at c0 ⊢
    generalize P.rt i = r
    by_cases h2 : x = 2
    · subst h2
      by_cases h3 : r = 0
      · subst h3
        go_enter Try.func97, Try.ntmps97
        go_wp2
        go_ret
        exact ⟨rfl, (Below.refl _ _).alloc (Nat.le_refl _) _⟩
      · have d3 : (r == 0) = false := by simpa using h3
        rw [decide_eq_false (by omega)]
        clear h3
        go_enter Try.func97, Try.ntmps97
        go_wp2
        go_ret
        exact ⟨rfl, (Below.refl _ _).alloc (Nat.le_refl _) _⟩
    · have d3 : (x == 2) = false := by simpa using h2
      rw [decide_eq_false (by omega)]
      clear h2
      go_enter Try.func97, Try.ntmps97
      go_wp2
      go_ret
      exact ⟨rfl, (Below.refl _ _).alloc (Nat.le_refl _) _⟩
  · have d3 : ((P.pn i : Int) == 1) = false := by simpa using (show ¬ (P.pn i : Int) = 1 by omega)
    rw [hr, decide_eq_false (by omega)]
    clear hr h
    generalize P.pn i = x at d3 h1 hn ⊢
    generalize P.rt i = r
    generalize P.ln i = l
    generalize P.cn i = cn
    generalize P.sk i = sk
    clear h1 hn
    go_enter Try.func97, Try.ntmps97
    go_wp2
    go_ret
    exact ⟨rfl, (Below.refl _ _).alloc (Nat.le_refl _) _⟩
theorem local_c (P : Pg) (A : Ad) (i k : Nat) (w : World) (h : RowA w P A i) (hl : RowL w P A i) (hn : P.pn i ≤ Big) (hk : k < P.pn i + P.ln i) (hm : P.ln i ≤ Big) : Calls Try.prog 98 #[.agg (Pg.meth P A i), .int .i64 k] w fun e w' => e = .returned (.int .i64 (loc P i k)) ∧ Below w.heap.size w w' := by
  show Calls Try.prog 98 #[.agg #[.slice (A.ppa i) (P.pn i) (A.ppc i), .int .i64 (P.rt i), .slice (A.lla i) (P.ln i) (A.llc i), .int .i64 (P.sk i), .slice (A.cda i) (P.cn i) (A.cdc i)], .int .i64 k] w _
  have hr : loc P i k = if k < P.pn i then P.pt i k else P.lt i (k - P.pn i) := rfl
  unfold Big at hn hm
  by_cases h1 : k < P.pn i
  · obtain ⟨b, o, ha, hb, hc⟩ := h.resolve_left (by omega)
    have c0 : w.cell? ⟨b, o + k, none⟩ = some (.int .i64 (P.pt i k)) := hc k h1
    rw [hr, if_pos h1]
    clear hc h hl hr
    rw [ha]
    clear ha
    generalize P.pt i k = x at c0 ⊢
    generalize P.pn i = pn at h1 hn hk ⊢
    have d1 : decide ((k : Int) < (pn : Int)) = true := decide_eq_true (by omega)
    have hne : b ≠ w.heap.size := by omega
    go_enter Try.func98, Try.ntmps98
    go_wp2
    go_ret
    exact ⟨rfl, (Below.refl _ _).alloc (Nat.le_refl _) _⟩
  · obtain ⟨b, o, ha, hb, hc⟩ := hl.resolve_left (by omega)
    have c0 : w.cell? ⟨b, o + (k - P.pn i), none⟩ = some (.int .i64 (P.lt i (k - P.pn i))) := hc (k - P.pn i) (by omega)
    rw [hr, if_neg h1]
    clear hc h hl hr
    rw [ha]
    clear ha
    generalize P.lt i (k - P.pn i) = x at c0 ⊢
    generalize P.pn i = pn at h1 hn hk c0 ⊢
    generalize P.ln i = ln at hk hm ⊢
    obtain ⟨j, hj⟩ : ∃ j, k = pn + j := ⟨k - pn, by omega⟩
    have c1 : w.cell? ⟨b, o + j, none⟩ = some (.int .i64 x) := by rw [show j = k - pn by omega]; exact c0
    subst hj
    clear c0
    have d1 : decide (((pn + j : Nat) : Int) < (pn : Int)) = false := decide_eq_false (by omega)
    have d2 : (((pn + j : Nat) : Int) - (pn : Int)) = (j : Int) := by omega
    have hne : b ≠ w.heap.size := by omega
    have hjl : (j : Int) < ln := by omega
    go_enter Try.func98, Try.ntmps98
    go_wp2
    go_ret
    exact ⟨rfl, (Below.refl _ _).alloc (Nat.le_refl _) _⟩
end Go.Proofs.Ytpiafgmncfibmaa.Vf
