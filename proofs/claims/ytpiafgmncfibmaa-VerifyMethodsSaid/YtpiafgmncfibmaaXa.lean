import Derived.Laws.BitsLemmas
import Derived.IntWalk
import Derived.Laws.BitsAllLaws
import Derived.Deep.DrawnRows
import Derived.Test.YtpiafgmncfibmaaVx
import Derived.Test.YtpiafgmncfibmaaRows
import Derived.WalkKit
import Derived.ProofKit
import Derived.OpenShut
import Derived.Deep.QuietTactic
import Derived.BigQuiet
import Derived.Outline
import Derived.WalkSmall
import Derived.WalkLawsBesides
import Derived.WalkSpells
import Derived.BigGuardPart
import Derived.RegionTactic
import Derived.Deep.RegionHeld3
import Derived.Lib.Hide
import Derived.Deep.MidRow
import Derived.Below
import Derived.Deep.RegionWith
import Derived.Deep.OwnRows
import Derived.Deep.AppendLies
import Derived.Deep.RegionLaw
import Derived.Deep.CutBlock
import Derived.Deep.DeepCutAuto
namespace Go.Proofs.Ytpiafgmncfibmaa.Vf
open Go.ChangeShapes Go.WideShapes Go.ChangeAt Go.RowKit
set_option linter.unusedVariables false

/-! ### The document's side: bytecodes -/
theorem getD_mem' {l : List Int} {q : Nat} (h : q < l.length) : l.getD q 0 ∈ l := by
  rw [List.getD_eq_getElem?_getD, List.getElem?_eq_getElem h]
  exact List.getElem_mem h
theorem in_c (n : Int) (c : Nat) (w : World) : Calls Try.prog 87 #[.int .i64 n, .int .i64 c] w fun e w' => e = .returned (.bool (isIn n c)) ∧ w' = w := by
  by_cases h0 : 0 ≤ n
  · have d0 : decide (0 ≤ n) = true := decide_eq_true h0
    by_cases h1 : n < c
    · have d1 : decide (n < (c : Int)) = true := decide_eq_true h1
      have hr : isIn n c = true := decide_eq_true ⟨h0, h1⟩
      rw [hr]
      clear h0 h1 hr
      go_enter Try.func87, Try.ntmps87
      go_wp2
      go_ret
      exact ⟨rfl, rfl⟩
    · have d1 : decide (n < (c : Int)) = false := decide_eq_false h1
      have hr : isIn n c = false := decide_eq_false (fun h => h1 h.2)
      rw [hr]
      clear h0 h1 hr
      go_enter Try.func87, Try.ntmps87
      go_wp2
      go_ret
      exact ⟨rfl, rfl⟩
  · have d0 : decide (0 ≤ n) = false := decide_eq_false h0
    have hr : isIn n c = false := decide_eq_false (fun h => h0 h.1)
    rw [hr]
    clear h0 hr
    go_enter Try.func87, Try.ntmps87
    go_wp2
    go_ret
    exact ⟨rfl, rfl⟩
/-- The letters of a bytecode's operands. -/
def opS (k : Nat) : Array UInt8 := if k = 0 then #[] else if k = 2 then #[115] else if k = 3 then #[111] else if k = 4 then #[117, 117] else #[117]
set_option maxRecDepth 100000 in
set_option maxHeartbeats 4000000 in
theorem operands_c (c : Nat) (hc : c < 41) (w : World) : Calls Try.prog 112 #[.int .i64 c] w fun e w' => e = .returned (.string ⟨opS (kindO c)⟩) ∧ w' = w :=
  match c, hc with
  | 0, _ => by
    go_enter Try.func112, Try.ntmps112
    go_wp2
    go_ret
    exact ⟨rfl, rfl⟩
  | 1, _ => by
    go_enter Try.func112, Try.ntmps112
    go_wp2
    go_ret
    exact ⟨rfl, rfl⟩
  | 2, _ => by
    go_enter Try.func112, Try.ntmps112
    go_wp2
    go_ret
    exact ⟨rfl, rfl⟩
  | 3, _ => by
    go_enter Try.func112, Try.ntmps112
    go_wp2
    go_ret
    exact ⟨rfl, rfl⟩
  | 4, _ => by
    go_enter Try.func112, Try.ntmps112
    go_wp2
    go_ret
    exact ⟨rfl, rfl⟩
  | 5, _ => by
    go_enter Try.func112, Try.ntmps112
    go_wp2
    go_ret
    exact ⟨rfl, rfl⟩
  | 6, _ => by
    go_enter Try.func112, Try.ntmps112
    go_wp2
    go_ret
    exact ⟨rfl, rfl⟩
  | 7, _ => by
    go_enter Try.func112, Try.ntmps112
    go_wp2
    go_ret
    exact ⟨rfl, rfl⟩
  | 8, _ => by
    go_enter Try.func112, Try.ntmps112
    go_wp2
    go_ret
    exact ⟨rfl, rfl⟩
  | 9, _ => by
    go_enter Try.func112, Try.ntmps112
    go_wp2
    go_ret
    exact ⟨rfl, rfl⟩
  | 10, _ => by
    go_enter Try.func112, Try.ntmps112
    go_wp2
    go_ret
    exact ⟨rfl, rfl⟩
  | 11, _ => by
    go_enter Try.func112, Try.ntmps112
    go_wp2
    go_ret
    exact ⟨rfl, rfl⟩
  | 12, _ => by
    go_enter Try.func112, Try.ntmps112
    go_wp2
    go_ret
    exact ⟨rfl, rfl⟩
  | 13, _ => by
    go_enter Try.func112, Try.ntmps112
    go_wp2
    go_ret
    exact ⟨rfl, rfl⟩
  | 14, _ => by
    go_enter Try.func112, Try.ntmps112
    go_wp2
    go_ret
    exact ⟨rfl, rfl⟩
  | 15, _ => by
    go_enter Try.func112, Try.ntmps112
    go_wp2
    go_ret
    exact ⟨rfl, rfl⟩
  | 16, _ => by
    go_enter Try.func112, Try.ntmps112
    go_wp2
    go_ret
    exact ⟨rfl, rfl⟩
  | 17, _ => by
    go_enter Try.func112, Try.ntmps112
    go_wp2
    go_ret
    exact ⟨rfl, rfl⟩
  | 18, _ => by
    go_enter Try.func112, Try.ntmps112
    go_wp2
    go_ret
    exact ⟨rfl, rfl⟩
  | 19, _ => by
    go_enter Try.func112, Try.ntmps112
    go_wp2
    go_ret
    exact ⟨rfl, rfl⟩
  | 20, _ => by
    go_enter Try.func112, Try.ntmps112
    go_wp2
    go_ret
    exact ⟨rfl, rfl⟩
  | 21, _ => by
    go_enter Try.func112, Try.ntmps112
    go_wp2
    go_ret
    exact ⟨rfl, rfl⟩
  | 22, _ => by
    go_enter Try.func112, Try.ntmps112
    go_wp2
    go_ret
    exact ⟨rfl, rfl⟩
  | 23, _ => by
    go_enter Try.func112, Try.ntmps112
    go_wp2
    go_ret
    exact ⟨rfl, rfl⟩
  | 24, _ => by
    go_enter Try.func112, Try.ntmps112
    go_wp2
    go_ret
    exact ⟨rfl, rfl⟩
  | 25, _ => by
    go_enter Try.func112, Try.ntmps112
    go_wp2
    go_ret
    exact ⟨rfl, rfl⟩
  | 26, _ => by
    go_enter Try.func112, Try.ntmps112
    go_wp2
    go_ret
    exact ⟨rfl, rfl⟩
  | 27, _ => by
    go_enter Try.func112, Try.ntmps112
    go_wp2
    go_ret
    exact ⟨rfl, rfl⟩
  | 28, _ => by
    go_enter Try.func112, Try.ntmps112
    go_wp2
    go_ret
    exact ⟨rfl, rfl⟩
  | 29, _ => by
    go_enter Try.func112, Try.ntmps112
    go_wp2
    go_ret
    exact ⟨rfl, rfl⟩
  | 30, _ => by
    go_enter Try.func112, Try.ntmps112
    go_wp2
    go_ret
    exact ⟨rfl, rfl⟩
  | 31, _ => by
    go_enter Try.func112, Try.ntmps112
    go_wp2
    go_ret
    exact ⟨rfl, rfl⟩
  | 32, _ => by
    go_enter Try.func112, Try.ntmps112
    go_wp2
    go_ret
    exact ⟨rfl, rfl⟩
  | 33, _ => by
    go_enter Try.func112, Try.ntmps112
    go_wp2
    go_ret
    exact ⟨rfl, rfl⟩
  | 34, _ => by
    go_enter Try.func112, Try.ntmps112
    go_wp2
    go_ret
    exact ⟨rfl, rfl⟩
  | 35, _ => by
    go_enter Try.func112, Try.ntmps112
    go_wp2
    go_ret
    exact ⟨rfl, rfl⟩
  | 36, _ => by
    go_enter Try.func112, Try.ntmps112
    go_wp2
    go_ret
    exact ⟨rfl, rfl⟩
  | 37, _ => by
    go_enter Try.func112, Try.ntmps112
    go_wp2
    go_ret
    exact ⟨rfl, rfl⟩
  | 38, _ => by
    go_enter Try.func112, Try.ntmps112
    go_wp2
    go_ret
    exact ⟨rfl, rfl⟩
  | 39, _ => by
    go_enter Try.func112, Try.ntmps112
    go_wp2
    go_ret
    exact ⟨rfl, rfl⟩
  | 40, _ => by
    go_enter Try.func112, Try.ntmps112
    go_wp2
    go_ret
    exact ⟨rfl, rfl⟩
  | c + 41, h => absurd h (by omega)
theorem kindO_cases (c : Int) : kindO c = 0 ∨ kindO c = 1 ∨ kindO c = 2 ∨ kindO c = 3 ∨ kindO c = 4 := by
  unfold kindO
  repeat' split
  all_goals simp
set_option maxRecDepth 100000 in
theorem size_c (c : Nat) (hc : c < 41) (w : World) : Calls Try.prog 111 #[.int .i64 c] w fun e w' => e = .returned (.int .i64 (szK (kindO c) : Nat)) ∧ w' = w := by
  have HO := Lib.hid (operands_c c hc)
  have hk := kindO_cases c
  generalize kindO c = k at HO hk ⊢
  clear hc
  rcases hk with rfl | rfl | rfl | rfl | rfl
  · have HO2 : Hid (∀ w, Calls Try.prog 112 #[.int .i64 c] w fun e w' => e = .returned (.string ⟨#[]⟩) ∧ w' = w) := Lib.hid HO.out
    clear HO
    go_enter Try.func111, Try.ntmps111
    go_wp2_with (go_at_call 112; refine (HO2.out _).mono ?_; rintro e w1 ⟨rfl, rfl⟩)
    all_goals go_ret
    all_goals exact ⟨rfl, rfl⟩
  · have HO2 : Hid (∀ w, Calls Try.prog 112 #[.int .i64 c] w fun e w' => e = .returned (.string ⟨#[117]⟩) ∧ w' = w) := Lib.hid HO.out
    clear HO
    go_enter Try.func111, Try.ntmps111
    go_wp2_with (go_at_call 112; refine (HO2.out _).mono ?_; rintro e w1 ⟨rfl, rfl⟩)
    all_goals go_ret
    all_goals exact ⟨rfl, rfl⟩
  · have HO2 : Hid (∀ w, Calls Try.prog 112 #[.int .i64 c] w fun e w' => e = .returned (.string ⟨#[115]⟩) ∧ w' = w) := Lib.hid HO.out
    clear HO
    go_enter Try.func111, Try.ntmps111
    go_wp2_with (go_at_call 112; refine (HO2.out _).mono ?_; rintro e w1 ⟨rfl, rfl⟩)
    all_goals go_ret
    all_goals exact ⟨rfl, rfl⟩
  · have HO2 : Hid (∀ w, Calls Try.prog 112 #[.int .i64 c] w fun e w' => e = .returned (.string ⟨#[111]⟩) ∧ w' = w) := Lib.hid HO.out
    clear HO
    go_enter Try.func111, Try.ntmps111
    go_wp2_with (go_at_call 112; refine (HO2.out _).mono ?_; rintro e w1 ⟨rfl, rfl⟩)
    all_goals go_ret
    all_goals exact ⟨rfl, rfl⟩
  · have HO2 : Hid (∀ w, Calls Try.prog 112 #[.int .i64 c] w fun e w' => e = .returned (.string ⟨#[117, 117]⟩) ∧ w' = w) := Lib.hid HO.out
    clear HO
    go_enter Try.func111, Try.ntmps111
    go_wp2_with (go_at_call 112; refine (HO2.out _).mono ?_; rintro e w1 ⟨rfl, rfl⟩)
    all_goals go_ret
    all_goals exact ⟨rfl, rfl⟩
theorem begins_r (l : List Int) (a : Option Addr) (ca : Nat) (p : Int) (w : World) (hI : Ints w a l) (hl : l.length ≤ 100000) : Calls Try.prog 91 #[.slice a l.length ca, .int .i64 p] w fun e w' => e = .returned (.bool (decide (p ∈ l))) ∧ Below w.heap.size w w' := by
  have HI := Lib.hid hI
  generalize hn : l.length = n at hl ⊢
  have HN := Lib.hid hn
  clear hI hn
  go_enter Try.func91, Try.ntmps91
  go_wp2_with fail
  go_loopw [5] (fun i wr => ∃ k : Nat, k ≤ n ∧ i = .int .i64 k ∧ Hid (Below w.heap.size w wr) ∧ Hid (∀ j, j < k → l.getD j 0 ≠ p)) (fun i _ => n - (intOf i).toNat)
  case atStart => exact ⟨0, Nat.zero_le _, rfl, Lib.hid (Below.refl _ _), Lib.hid fun j hj => absurd hj (Nat.not_lt_zero j)⟩
  case round =>
    obtain ⟨k, hk, rfl, HW, HZ⟩ := hrel
    by_cases hkn : k < n
    · have hki : (k : Int) < n := by omega
      obtain ⟨b1, o1, rfl, hb1, hc1⟩ := (HI.out.kept (Kept.of HW.out)).at (by rw [HN.out]; omega)
      have y1 : wr.cell? ⟨b1, o1 + k, none⟩ = some (.int .i64 (l.getD k 0)) := hc1 k (by rw [HN.out]; exact hkn)
      clear hc1
      by_cases hz : l.getD k 0 = p
      · have HM : Hid (decide (p ∈ l) = true) := Lib.hid (decide_eq_true (by rw [← hz]; exact getD_mem' (by rw [HN.out]; exact hkn)))
        rw [hz] at y1
        clear hz
        go_wp2
        go_ret
        exact ⟨by rw [HM.out]; rfl, HW.out⟩
      · have hzn := Lib.hid hz
        generalize l.getD k 0 = z at y1 hz
        have dz : (z == p) = false := by simpa using hz
        clear hz
        go_wp2
        exact ⟨⟨k + 1, by omega, by go_num, HW, Lib.hid fun j hj => by
          by_cases hjk : j = k
          · subst hjk; exact hzn.out
          · exact HZ.out j (by omega)⟩, by simp [intOf]; omega⟩
    · have HM : Hid (decide (p ∈ l) = false) := Lib.hid (decide_eq_false (fun hm => by
        obtain ⟨j, hj, he⟩ := List.getElem_of_mem hm
        refine HZ.out j (by have := HN.out; omega) ?_
        rw [List.getD_eq_getElem?_getD, List.getElem?_eq_getElem hj]
        exact he))
      go_wp2
      go_ret
      exact ⟨by rw [HM.out]; rfl, HW.out⟩
end Go.Proofs.Ytpiafgmncfibmaa.Vf
