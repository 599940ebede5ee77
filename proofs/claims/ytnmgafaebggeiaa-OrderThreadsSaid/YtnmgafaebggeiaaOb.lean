import Derived.Test.YtnmgafaebggeiaaOa
import Derived.ChangeKeysEq
import Derived.WalkKit
import Derived.ProofKit
import Derived.OpenShut
import Derived.Deep.QuietTactic
import Derived.BigQuiet
import Derived.Outline
import Derived.WalkSmall
import Derived.WalkLawsBesides
import Derived.WalkSpells
import Derived.BigGuardPart
import Derived.RegionTactic
import Derived.Deep.RegionHeld3
import Derived.Lib.Hide
import Derived.Below
import Derived.Deep.RegionWith
import Derived.Deep.RegionLaw
namespace Go.Proofs.Ytnmgafaebggeiaa
open Go.ChangeShapes Go.WideShapes Go.ChangeAt Go.RowKit
set_option linter.unusedVariables false
def tkV (a0 a1 a2 a3 t : Int) : Value := ck (if t = 0 then wrap64 (a0 + 1) else a0) (if t = 1 then wrap64 (a1 + 1) else a1) (if t = 2 then wrap64 (a2 + 1) else a2) (if t = 3 then wrap64 (a3 + 1) else a3)
theorem thr_y (t : Int) (h1 : 0 ≤ t) (h2 : t < 4) (w : World) : Calls Try.prog 21 #[.int .i64 t] w fun e w' => e = .returned (.bool true) ∧ w' = w := by
  have d1 : decide (0 ≤ t) = true := decide_eq_true h1
  have d2 : decide (t < 4) = true := decide_eq_true h2
  go_enter Try.func21, Try.ntmps21
  go_wp2
  go_ret
  exact ⟨rfl, rfl⟩
theorem thr_n (t : Int) (h : t < 0 ∨ 4 ≤ t) (w : World) : Calls Try.prog 21 #[.int .i64 t] w fun e w' => e = .returned (.bool false) ∧ w' = w := by
  rcases Int.lt_or_le t 0 with h1 | h1
  · have d1 : decide (0 ≤ t) = false := decide_eq_false (by omega)
    go_enter Try.func21, Try.ntmps21
    go_wp2
    go_ret
    exact ⟨rfl, rfl⟩
  · have d1 : decide (0 ≤ t) = true := decide_eq_true h1
    have d2 : decide (t < 4) = false := decide_eq_false (by omega)
    go_enter Try.func21, Try.ntmps21
    go_wp2
    go_ret
    exact ⟨rfl, rfl⟩
set_option maxRecDepth 100000 in
theorem tick_c (a0 a1 a2 a3 t : Int) (w : World) :
    Calls Try.prog 10 #[.agg #[.int .i64 a0, .int .i64 a1, .int .i64 a2, .int .i64 a3], .int .i64 t] w fun e w' => e = .returned (tkV a0 a1 a2 a3 t) ∧ Below w.heap.size w w' := by
  by_cases h : t < 0 ∨ 4 ≤ t
  · have e : tkV a0 a1 a2 a3 t = ck a0 a1 a2 a3 := by unfold tkV; rw [if_neg (by omega), if_neg (by omega), if_neg (by omega), if_neg (by omega)]
    rw [e]
    clear e
    go_enter Try.func10, Try.ntmps10
    go_wp2_with (first | (go_at_call 21; refine (thr_n _ h _).mono ?_; rintro e w' ⟨rfl, rfl⟩))
    refine bodyPost_ret (v := ck a0 a1 a2 a3) (by simp [results, Try.results10, go_sem, ck]) rfl ⟨rfl, ?_⟩
    exact ((Below.refl _ _).alloc (Nat.le_refl _) _).alloc (by simp) _
  · obtain rfl | rfl | rfl | rfl : t = 0 ∨ t = 1 ∨ t = 2 ∨ t = 3 := by omega
    all_goals
      clear h
      go_enter Try.func10, Try.ntmps10
      go_wp2_with (first | (go_at_call 21; refine (thr_y _ (by omega) (by omega) _).mono ?_; rintro e w' ⟨rfl, rfl⟩))
      refine bodyPost_ret (v := tkV a0 a1 a2 a3 _) (by simp [results, Try.results10, go_sem, ck, tkV]; try rfl) rfl ⟨rfl, ?_⟩
      exact ((Below.refl _ _).alloc (Nat.le_refl _) _).alloc (by simp) _
set_option maxRecDepth 100000 in
theorem rtick_c (a0 a1 a2 a3 t : Int) (w : World) :
    Calls Try.prog 11 #[.agg #[.int .i64 a0, .int .i64 a1, .int .i64 a2, .int .i64 a3], .int .i64 t] w fun e w' => e = .returned (tkV a0 a1 a2 a3 t) ∧ Below w.heap.size w w' := by
  by_cases h : t < 0 ∨ 4 ≤ t
  · have e : tkV a0 a1 a2 a3 t = ck a0 a1 a2 a3 := by unfold tkV; rw [if_neg (by omega), if_neg (by omega), if_neg (by omega), if_neg (by omega)]
    rw [e]
    clear e
    rcases Int.lt_or_le t 0 with h1 | h1
    · have d1 : decide (0 ≤ t) = false := decide_eq_false (by omega)
      go_enter Try.func11, Try.ntmps11
      go_wp2
      refine bodyPost_ret (v := ck a0 a1 a2 a3) (by simp [results, Try.results11, go_sem, ck]) rfl ⟨rfl, ?_⟩
      exact ((Below.refl _ _).alloc (Nat.le_refl _) _).alloc (by simp) _
    · have d1 : decide (0 ≤ t) = true := decide_eq_true h1
      have d2 : decide (t < 4) = false := decide_eq_false (by omega)
      go_enter Try.func11, Try.ntmps11
      go_wp2
      refine bodyPost_ret (v := ck a0 a1 a2 a3) (by simp [results, Try.results11, go_sem, ck]) rfl ⟨rfl, ?_⟩
      exact ((Below.refl _ _).alloc (Nat.le_refl _) _).alloc (by simp) _
  · obtain rfl | rfl | rfl | rfl : t = 0 ∨ t = 1 ∨ t = 2 ∨ t = 3 := by omega
    all_goals
      clear h
      go_enter Try.func11, Try.ntmps11
      go_wp2
      refine bodyPost_ret (v := tkV a0 a1 a2 a3 _) (by simp [results, Try.results11, go_sem, ck, tkV]; try rfl) rfl ⟨rfl, ?_⟩
      exact ((Below.refl _ _).alloc (Nat.le_refl _) _).alloc (by simp) _
def eqB (a0 a1 a2 a3 b0 b1 b2 b3 : Int) : Bool := decide (a0 = b0 ∧ a1 = b1 ∧ a2 = b2 ∧ a3 = b3)
def leB (a0 a1 a2 a3 b0 b1 b2 b3 : Int) : Bool := decide (a0 ≤ b0 ∧ a1 ≤ b1 ∧ a2 ≤ b2 ∧ a3 ≤ b3)
def bfB (a0 a1 a2 a3 b0 b1 b2 b3 : Int) : Bool := leB a0 a1 a2 a3 b0 b1 b2 b3 && !eqB a0 a1 a2 a3 b0 b1 b2 b3
theorem part3 (xs : Array Value) (i : Nat) (v : Value) (h : xs[i]? = some v) (w : World) : (part 3 xs i).run Try.prog w = .ok v w := by
  unfold part
  have hu : (isAgg 3).run Try.prog w = .ok false w := by
    unfold isAgg
    rw [Sem.run_bind, run_underlying Try.underlying3 w]
    rfl
  rw [Sem.run_bind, hu]
  simp [h]
theorem items3 (a0 a1 a2 a3 b0 b1 b2 b3 : Int) (d : Nat) (w : World) : (Op.eqItems (d + 1) 3 1 #[.int .i64 a0, .int .i64 a1, .int .i64 a2, .int .i64 a3] #[.int .i64 b0, .int .i64 b1, .int .i64 b2, .int .i64 b3] [0, 1, 2, 3]).run Try.prog w = .ok (eqB a0 a1 a2 a3 b0 b1 b2 b3) w := by
  have p0 := fun (x0 x1 x2 x3 : Int) (w : World) => part3 #[.int .i64 x0, .int .i64 x1, .int .i64 x2, .int .i64 x3] 0 (.int .i64 x0) rfl w
  have p1 := fun (x0 x1 x2 x3 : Int) (w : World) => part3 #[.int .i64 x0, .int .i64 x1, .int .i64 x2, .int .i64 x3] 1 (.int .i64 x1) rfl w
  have p2 := fun (x0 x1 x2 x3 : Int) (w : World) => part3 #[.int .i64 x0, .int .i64 x1, .int .i64 x2, .int .i64 x3] 2 (.int .i64 x2) rfl w
  have p3 := fun (x0 x1 x2 x3 : Int) (w : World) => part3 #[.int .i64 x0, .int .i64 x1, .int .i64 x2, .int .i64 x3] 3 (.int .i64 x3) rfl w
  have q := fun (x y : Int) => run_equalIn_int w d 3 .i64 .i64 x y Try.underlying3
  unfold eqB
  by_cases h0 : a0 = b0 <;> by_cases h1 : a1 = b1 <;> by_cases h2 : a2 = b2 <;> by_cases h3 : a3 = b3 <;> simp [h0, h1, h2, h3, Op.eqItems, Sem.run_bind, p0, p1, p2, p3, q]
theorem eqIn24 (a0 a1 a2 a3 b0 b1 b2 b3 : Int) (w : World) : (Op.equalIn 10000 24 (.agg #[.int .i64 a0, .int .i64 a1, .int .i64 a2, .int .i64 a3]) (.agg #[.int .i64 b0, .int .i64 b1, .int .i64 b2, .int .i64 b3])).run Try.prog w = .ok (eqB a0 a1 a2 a3 b0 b1 b2 b3) w := by
  obtain ⟨i0, hi⟩ : ∃ i, Try.prog.info? 3 = some i := by
    cases h : Try.prog.info? 3 with
    | some i => exact ⟨i, rfl⟩
    | none => have : (Try.prog.info? 3).isSome = true := by kernel_rfl
              rw [h] at this; cases this
  rw [run_equalIn_array w 9999 _ _ Try.underlying24 hi, show Try.prog.cellsOf 3 = 1 by kernel_rfl]
  exact items3 _ _ _ _ _ _ _ _ 9998 w
theorem eql24 (a0 a1 a2 a3 b0 b1 b2 b3 : Int) (w : World) : (binOp .eql 24 (.agg #[.int .i64 a0, .int .i64 a1, .int .i64 a2, .int .i64 a3]) (.agg #[.int .i64 b0, .int .i64 b1, .int .i64 b2, .int .i64 b3])).run Try.prog w = .ok (.bool (eqB a0 a1 a2 a3 b0 b1 b2 b3)) w := by
  rw [run_eql_struct, eqIn24, Result.andThen_ok]
theorem neq24 (a0 a1 a2 a3 b0 b1 b2 b3 : Int) (w : World) : (binOp .neq 24 (.agg #[.int .i64 a0, .int .i64 a1, .int .i64 a2, .int .i64 a3]) (.agg #[.int .i64 b0, .int .i64 b1, .int .i64 b2, .int .i64 b3])).run Try.prog w = .ok (.bool (!eqB a0 a1 a2 a3 b0 b1 b2 b3)) w := by
  rw [run_neq_struct, eqIn24, Result.andThen_ok]
theorem eqIn25 (a0 a1 a2 a3 b0 b1 b2 b3 : Int) (w : World) : (Op.equalIn 10000 25 (.agg #[.int .i64 a0, .int .i64 a1, .int .i64 a2, .int .i64 a3]) (.agg #[.int .i64 b0, .int .i64 b1, .int .i64 b2, .int .i64 b3])).run Try.prog w = .ok (eqB a0 a1 a2 a3 b0 b1 b2 b3) w := by
  obtain ⟨i0, hi⟩ : ∃ i, Try.prog.info? 3 = some i := by
    cases h : Try.prog.info? 3 with
    | some i => exact ⟨i, rfl⟩
    | none => have : (Try.prog.info? 3).isSome = true := by kernel_rfl
              rw [h] at this; cases this
  rw [run_equalIn_array w 9999 _ _ Try.underlying25 hi, show Try.prog.cellsOf 3 = 1 by kernel_rfl]
  exact items3 _ _ _ _ _ _ _ _ 9998 w
theorem eql25 (a0 a1 a2 a3 b0 b1 b2 b3 : Int) (w : World) : (binOp .eql 25 (.agg #[.int .i64 a0, .int .i64 a1, .int .i64 a2, .int .i64 a3]) (.agg #[.int .i64 b0, .int .i64 b1, .int .i64 b2, .int .i64 b3])).run Try.prog w = .ok (.bool (eqB a0 a1 a2 a3 b0 b1 b2 b3)) w := by
  rw [run_eql_struct, eqIn25, Result.andThen_ok]
theorem neq25 (a0 a1 a2 a3 b0 b1 b2 b3 : Int) (w : World) : (binOp .neq 25 (.agg #[.int .i64 a0, .int .i64 a1, .int .i64 a2, .int .i64 a3]) (.agg #[.int .i64 b0, .int .i64 b1, .int .i64 b2, .int .i64 b3])).run Try.prog w = .ok (.bool (!eqB a0 a1 a2 a3 b0 b1 b2 b3)) w := by
  rw [run_neq_struct, eqIn25, Result.andThen_ok]
theorem below_drewN {B : Nat} {a w : World} (h : Below B a w) (n : Nat) : Below B a (w.drewN n) := ⟨h.os, h.tape, h.output, h.size, h.block⟩
/-- Two clocks lie side by side. -/
def Two (b : Nat) (a0 a1 a2 a3 b0 b1 b2 b3 : Int) (w : World) : Prop :=
  w.cell? ⟨b, 0, none⟩ = some (.int .i64 a0) ∧ w.cell? ⟨b, 1, none⟩ = some (.int .i64 a1) ∧ w.cell? ⟨b, 2, none⟩ = some (.int .i64 a2) ∧ w.cell? ⟨b, 3, none⟩ = some (.int .i64 a3) ∧ w.cell? ⟨b + 1, 0, none⟩ = some (.int .i64 b0) ∧ w.cell? ⟨b + 1, 1, none⟩ = some (.int .i64 b1) ∧ w.cell? ⟨b + 1, 2, none⟩ = some (.int .i64 b2) ∧ w.cell? ⟨b + 1, 3, none⟩ = some (.int .i64 b3)
theorem Two.below {b : Nat} {a0 a1 a2 a3 b0 b1 b2 b3 : Int} {w w' : World} (h : Two b a0 a1 a2 a3 b0 b1 b2 b3 w) (hb : Below w.heap.size w w') (hl : b + 1 < w.heap.size) : Two b a0 a1 a2 a3 b0 b1 b2 b3 w' := by
  have e : ∀ i, w'.cell? ⟨b, i, none⟩ = w.cell? ⟨b, i, none⟩ := fun i => hb.cell (p := ⟨b, i, none⟩) (by show b < _; omega)
  have f : ∀ i, w'.cell? ⟨b + 1, i, none⟩ = w.cell? ⟨b + 1, i, none⟩ := fun i => hb.cell (p := ⟨b + 1, i, none⟩) hl
  unfold Two
  rw [e, e, e, e, f, f, f, f]
  exact h
attribute [local go_sem ↓] eql24 neq24 eql25 neq25
set_option maxRecDepth 100000 in
set_option maxHeartbeats 2000000 in
theorem before_c (a0 a1 a2 a3 b0 b1 b2 b3 : Int) (w : World) :
    Calls Try.prog 12 #[.agg #[.int .i64 a0, .int .i64 a1, .int .i64 a2, .int .i64 a3], .agg #[.int .i64 b0, .int .i64 b1, .int .i64 b2, .int .i64 b3]] w fun e w' => e = .returned (.bool (bfB a0 a1 a2 a3 b0 b1 b2 b3)) ∧ Below w.heap.size w w' := by
  have HJ := fun w => Lib.hid (join_c a0 a1 a2 a3 b0 b1 b2 b3 w)
  cases h : eqB a0 a1 a2 a3 b0 b1 b2 b3
  · have HB : Hid (bfB a0 a1 a2 a3 b0 b1 b2 b3 = eqB (max a0 b0) (max a1 b1) (max a2 b2) (max a3 b3) b0 b1 b2 b3) := Lib.hid (by
      unfold bfB leB eqB at *
      simp only [decide_eq_false_iff_not] at h
      rw [Bool.eq_iff_iff]
      simp
      omega)
    obtain ⟨m0, hm0⟩ : ∃ m, m = max a0 b0 := ⟨_, rfl⟩
    obtain ⟨m1, hm1⟩ : ∃ m, m = max a1 b1 := ⟨_, rfl⟩
    obtain ⟨m2, hm2⟩ : ∃ m, m = max a2 b2 := ⟨_, rfl⟩
    obtain ⟨m3, hm3⟩ : ∃ m, m = max a3 b3 := ⟨_, rfl⟩
    unfold ck at HJ
    rw [← hm0, ← hm1, ← hm2, ← hm3] at HJ HB
    clear hm0 hm1 hm2 hm3
    obtain ⟨eb, heb⟩ : ∃ eb, eqB m0 m1 m2 m3 b0 b1 b2 b3 = eb := ⟨_, rfl⟩
    rw [heb] at HB
    go_enter Try.func12, Try.ntmps12
    go_wp2
    have HT : Hid (Two w.heap.size a0 a1 a2 a3 b0 b1 b2 b3 ((w.alloc (.cells #[.int .i64 a0, .int .i64 a1, .int .i64 a2, .int .i64 a3] 24)).alloc (.cells #[.int .i64 b0, .int .i64 b1, .int .i64 b2, .int .i64 b3] 24))) := Lib.hid (by unfold Two; simp [go_sem])
    have HBB : Hid (Below w.heap.size w ((w.alloc (.cells #[.int .i64 a0, .int .i64 a1, .int .i64 a2, .int .i64 a3] 24)).alloc (.cells #[.int .i64 b0, .int .i64 b1, .int .i64 b2, .int .i64 b3] 24))) := Lib.hid (((Below.refl _ _).alloc (Nat.le_refl _) _).alloc (by simp) _)
    have hl : w.heap.size + 1 < ((w.alloc (.cells #[.int .i64 a0, .int .i64 a1, .int .i64 a2, .int .i64 a3] 24)).alloc (.cells #[.int .i64 b0, .int .i64 b1, .int .i64 b2, .int .i64 b3] 24)).heap.size := by simp
    generalize ((w.alloc (.cells #[.int .i64 a0, .int .i64 a1, .int .i64 a2, .int .i64 a3] 24)).alloc (.cells #[.int .i64 b0, .int .i64 b1, .int .i64 b2, .int .i64 b3] 24)) = w1 at HT HBB hl ⊢
    obtain ⟨b, hb⟩ : ∃ b, b = w.heap.size := ⟨_, rfl⟩
    rw [← hb] at HT hl ⊢
    have HBN := Lib.hid hb
    clear hb
    have hT := HT.out
    unfold Two at hT
    go_region_held3 (fun w' => w'.cell? ⟨b, 0, none⟩ = some (.int .i64 a0) ∧ w'.cell? ⟨b, 1, none⟩ = some (.int .i64 a1) ∧ w'.cell? ⟨b, 2, none⟩ = some (.int .i64 a2) ∧ w'.cell? ⟨b, 3, none⟩ = some (.int .i64 a3) ∧ w'.cell? ⟨b + 1, 0, none⟩ = some (.int .i64 b0) ∧ w'.cell? ⟨b + 1, 1, none⟩ = some (.int .i64 b1) ∧ w'.cell? ⟨b + 1, 2, none⟩ = some (.int .i64 b2) ∧ w'.cell? ⟨b + 1, 3, none⟩ = some (.int .i64 b3)) (first | exact hT2 | exact hT) (first | (go_at_call 8; refine (HJ _).out.mono ?_; rintro e w' ⟨rfl, hb1⟩; have hT2 := Two.below (w := w1.drew) (w' := w') hT hb1 hl; have HB2 := Lib.hid (HBB.out.drew.trans (hb1.mono HBB.out.size)); unfold Two at hT2))
    go_wp2
    go_ret
    exact ⟨by rw [HB.out]; rfl, HB2.out⟩
  · have HB : Hid (bfB a0 a1 a2 a3 b0 b1 b2 b3 = false) := Lib.hid (by unfold bfB; rw [h]; simp)
    clear HJ
    go_enter Try.func12, Try.ntmps12
    go_wp2
    go_quiet (fail)
    go_wp2
    go_ret
    exact ⟨by rw [HB.out]; rfl, below_drewN (((Below.refl w.heap.size w).alloc (Nat.le_refl _) _).alloc (by simp) _) _⟩
end Go.Proofs.Ytnmgafaebggeiaa
