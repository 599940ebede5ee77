import Derived.Test.YtnmgafaebggeiaaOc
import Derived.Test.YtnmgafaebggeiaaOd
import Derived.Test.YtnmgafaebggeiaaKn
import Derived.WalkKit
import Derived.ProofKit
import Derived.OpenShut
import Derived.Deep.QuietTactic
import Derived.BigQuiet
import Derived.Outline
import Derived.WalkSmall
import Derived.WalkLawsBesides
import Derived.WalkSpells
import Derived.BigGuardPart
import Derived.RegionTactic
import Derived.Deep.RegionHeld3
import Derived.Lib.Hide
import Derived.Deep.MidRow
import Derived.Below
import Derived.Deep.RegionWith
import Derived.Deep.OwnRows
import Derived.Deep.AppendLies
namespace Go.Proofs.Ytnmgafaebggeiaa
open Go.ChangeShapes Go.WideShapes Go.ChangeAt Go.RowKit
set_option linter.unusedVariables false
attribute [local go_sem ↓] eql24 neq24 eql25 neq25
def Four (c8 c9 c10 c11 : Nat) (a0 a1 a2 a3 b0 b1 b2 b3 : Int) (w : World) : Prop := w.cell? ⟨c8, 0, none⟩ = some (.int .i64 a0) ∧ w.cell? ⟨c8, 1, none⟩ = some (.int .i64 a1) ∧ w.cell? ⟨c8, 2, none⟩ = some (.int .i64 a2) ∧ w.cell? ⟨c8, 3, none⟩ = some (.int .i64 a3) ∧ w.cell? ⟨c9, 0, none⟩ = some (.int .i64 b0) ∧ w.cell? ⟨c9, 1, none⟩ = some (.int .i64 b1) ∧ w.cell? ⟨c9, 2, none⟩ = some (.int .i64 b2) ∧ w.cell? ⟨c9, 3, none⟩ = some (.int .i64 b3) ∧ w.cell? ⟨c10, 0, none⟩ = some (.int .i64 a0) ∧ w.cell? ⟨c10, 1, none⟩ = some (.int .i64 a1) ∧ w.cell? ⟨c10, 2, none⟩ = some (.int .i64 a2) ∧ w.cell? ⟨c10, 3, none⟩ = some (.int .i64 a3) ∧ w.cell? ⟨c11, 0, none⟩ = some (.int .i64 b0) ∧ w.cell? ⟨c11, 1, none⟩ = some (.int .i64 b1) ∧ w.cell? ⟨c11, 2, none⟩ = some (.int .i64 b2) ∧ w.cell? ⟨c11, 3, none⟩ = some (.int .i64 b3)
theorem Four.below {c8 c9 c10 c11 : Nat} {a0 a1 a2 a3 b0 b1 b2 b3 : Int} {w W w' : World} (h : Four c8 c9 c10 c11 a0 a1 a2 a3 b0 b1 b2 b3 w) (hb : Below W.heap.size W w') (he : W.heap = w.heap) (h8 : c8 < w.heap.size) (h9 : c9 < w.heap.size) (h10 : c10 < w.heap.size) (h11 : c11 < w.heap.size) : Four c8 c9 c10 c11 a0 a1 a2 a3 b0 b1 b2 b3 w' := by
  have e : ∀ c i, c < w.heap.size → w'.cell? ⟨c, i, none⟩ = w.cell? ⟨c, i, none⟩ := fun c i hc => by
    have : c < W.heap.size := by rw [he]; exact hc
    rw [hb.cell (p := ⟨c, i, none⟩) this]
    unfold World.cell?
    rw [he]
  unfold Four
  rw [e c8 0 h8, e c8 1 h8, e c8 2 h8, e c8 3 h8, e c9 0 h9, e c9 1 h9, e c9 2 h9, e c9 3 h9, e c10 0 h10, e c10 1 h10, e c10 2 h10, e c10 3 h10, e c11 0 h11, e c11 1 h11, e c11 2 h11, e c11 3 h11]
  exact h
set_option maxRecDepth 100000 in
set_option maxHeartbeats 8000000 in
theorem clocks_c (a0 a1 a2 a3 b0 b1 b2 b3 t : Int) (w : World) :
    Calls Try.prog 3 #[.agg #[.int .i64 a0, .int .i64 a1, .int .i64 a2, .int .i64 a3], .agg #[.int .i64 b0, .int .i64 b1, .int .i64 b2, .int .i64 b3], .int .i64 t] w fun e w' => e = .returned (.bool true) ∧ Below w.heap.size w w' := by
  have HA0 : Hid (rowAt ((w.alloc (.cells #[.int .i64 a0, .int .i64 a1, .int .i64 a2, .int .i64 a3] 22)).alloc (.cells #[.int .i64 b0, .int .i64 b1, .int .i64 b2, .int .i64 b3] 22)) w.heap.size = some #[.int .i64 a0, .int .i64 a1, .int .i64 a2, .int .i64 a3]) := Lib.hid (rowAt_past (rowAt_new w #[.int .i64 a0, .int .i64 a1, .int .i64 a2, .int .i64 a3] 22) _)
  have HB0 : Hid (rowAt ((w.alloc (.cells #[.int .i64 a0, .int .i64 a1, .int .i64 a2, .int .i64 a3] 22)).alloc (.cells #[.int .i64 b0, .int .i64 b1, .int .i64 b2, .int .i64 b3] 22)) (w.heap.size + 1) = some #[.int .i64 b0, .int .i64 b1, .int .i64 b2, .int .i64 b3]) := Lib.hid (by have := rowAt_new (w.alloc (.cells #[.int .i64 a0, .int .i64 a1, .int .i64 a2, .int .i64 a3] 22)) #[.int .i64 b0, .int .i64 b1, .int .i64 b2, .int .i64 b3] 22; simpa using this)
  have HQ0 : Hid (Below w.heap.size w ((w.alloc (.cells #[.int .i64 a0, .int .i64 a1, .int .i64 a2, .int .i64 a3] 22)).alloc (.cells #[.int .i64 b0, .int .i64 b1, .int .i64 b2, .int .i64 b3] 22))) := Lib.hid (((Below.refl _ _).alloc (Nat.le_refl _) _).alloc (by simp) _)
  go_enter Try.func3, Try.ntmps3
  go_wp2_with fail
  refine (known_c _).mono ?_
  rintro e w1 ⟨rfl, hb⟩
  have HA := Lib.hid (rowAt_below HA0.out hb rfl)
  have HB1 := Lib.hid (rowAt_below HB0.out hb rfl)
  have HQ := Lib.hid (below_step HQ0.out hb rfl rfl rfl rfl)
  clear hb HA0 HB0 HQ0
  have x0 : w1.cell? ⟨w.heap.size, 0, none⟩ = some (.int .i64 a0) := rowAt_cell HA.out 0
  have y0 : w1.cell? ⟨w.heap.size + 1, 0, none⟩ = some (.int .i64 b0) := rowAt_cell HB1.out 0
  have x1 : w1.cell? ⟨w.heap.size, 1, none⟩ = some (.int .i64 a1) := rowAt_cell HA.out 1
  have y1 : w1.cell? ⟨w.heap.size + 1, 1, none⟩ = some (.int .i64 b1) := rowAt_cell HB1.out 1
  have x2 : w1.cell? ⟨w.heap.size, 2, none⟩ = some (.int .i64 a2) := rowAt_cell HA.out 2
  have y2 : w1.cell? ⟨w.heap.size + 1, 2, none⟩ = some (.int .i64 b2) := rowAt_cell HB1.out 2
  have x3 : w1.cell? ⟨w.heap.size, 3, none⟩ = some (.int .i64 a3) := rowAt_cell HA.out 3
  have y3 : w1.cell? ⟨w.heap.size + 1, 3, none⟩ = some (.int .i64 b3) := rowAt_cell HB1.out 3
  have hz : w.heap.size + 1 < w1.heap.size := rowAt_lt HB1.out
  have hz0 : w.heap.size < w1.heap.size := by omega
  go_wp2
  cases p0 : decide (1099511627776 < a0)
  case true =>
    refine wp_loop_rounds 5 ?_
    rw [rounds_succ]
    go_wp2
    go_ret
    exact ⟨rfl, HQ.out⟩
  case false =>
    cases q0 : decide (1099511627776 < b0)
    case true =>
      refine wp_loop_rounds 5 ?_
      rw [rounds_succ]
      go_wp2
      go_ret
      exact ⟨rfl, HQ.out⟩
    case false =>
      cases p1 : decide (1099511627776 < a1)
      case true =>
        refine wp_loop_rounds 5 ?_
        rw [rounds_succ]
        go_wp2
        rw [rounds_succ]
        go_wp2
        go_ret
        exact ⟨rfl, HQ.out⟩
      case false =>
        cases q1 : decide (1099511627776 < b1)
        case true =>
          refine wp_loop_rounds 5 ?_
          rw [rounds_succ]
          go_wp2
          rw [rounds_succ]
          go_wp2
          go_ret
          exact ⟨rfl, HQ.out⟩
        case false =>
          cases p2 : decide (1099511627776 < a2)
          case true =>
            refine wp_loop_rounds 5 ?_
            rw [rounds_succ]
            go_wp2
            rw [rounds_succ]
            go_wp2
            rw [rounds_succ]
            go_wp2
            go_ret
            exact ⟨rfl, HQ.out⟩
          case false =>
            cases q2 : decide (1099511627776 < b2)
            case true =>
              refine wp_loop_rounds 5 ?_
              rw [rounds_succ]
              go_wp2
              rw [rounds_succ]
              go_wp2
              rw [rounds_succ]
              go_wp2
              go_ret
              exact ⟨rfl, HQ.out⟩
            case false =>
              cases p3 : decide (1099511627776 < a3)
              case true =>
                refine wp_loop_rounds 5 ?_
                rw [rounds_succ]
                go_wp2
                rw [rounds_succ]
                go_wp2
                rw [rounds_succ]
                go_wp2
                rw [rounds_succ]
                go_wp2
                go_ret
                exact ⟨rfl, HQ.out⟩
              case false =>
                cases q3 : decide (1099511627776 < b3)
                case true =>
                  refine wp_loop_rounds 5 ?_
                  rw [rounds_succ]
                  go_wp2
                  rw [rounds_succ]
                  go_wp2
                  rw [rounds_succ]
                  go_wp2
                  rw [rounds_succ]
                  go_wp2
                  go_ret
                  exact ⟨rfl, HQ.out⟩
                case false =>
                  refine wp_loop_rounds 5 ?_
                  rw [rounds_succ]
                  go_wp2
                  rw [rounds_succ]
                  go_wp2
                  rw [rounds_succ]
                  go_wp2
                  rw [rounds_succ]
                  go_wp2
                  rw [rounds_succ]
                  go_wp2
                  have F0 : Hid (Four w1.heap.size (w1.heap.size + 1) (w1.heap.size + 1 + 1) (w1.heap.size + 1 + 1 + 1) a0 a1 a2 a3 b0 b1 b2 b3 ((((w1.alloc (.cells #[.int .i64 a0, .int .i64 a1, .int .i64 a2, .int .i64 a3] 24)).alloc (.cells #[.int .i64 b0, .int .i64 b1, .int .i64 b2, .int .i64 b3] 24)).alloc (.cells #[.int .i64 a0, .int .i64 a1, .int .i64 a2, .int .i64 a3] 25)).alloc (.cells #[.int .i64 b0, .int .i64 b1, .int .i64 b2, .int .i64 b3] 25))) := Lib.hid (by unfold Four; simp [go_sem])
                  have Q0 : Hid (Below w.heap.size w ((((w1.alloc (.cells #[.int .i64 a0, .int .i64 a1, .int .i64 a2, .int .i64 a3] 24)).alloc (.cells #[.int .i64 b0, .int .i64 b1, .int .i64 b2, .int .i64 b3] 24)).alloc (.cells #[.int .i64 a0, .int .i64 a1, .int .i64 a2, .int .i64 a3] 25)).alloc (.cells #[.int .i64 b0, .int .i64 b1, .int .i64 b2, .int .i64 b3] 25))) := Lib.hid ((((HQ.out.alloc HQ.out.size _).alloc (by have := HQ.out.size; simp; omega) _).alloc (by have := HQ.out.size; simp; omega) _).alloc (by have := HQ.out.size; simp; omega) _)
                  have L8 : Hid (w1.heap.size < ((((w1.alloc (.cells #[.int .i64 a0, .int .i64 a1, .int .i64 a2, .int .i64 a3] 24)).alloc (.cells #[.int .i64 b0, .int .i64 b1, .int .i64 b2, .int .i64 b3] 24)).alloc (.cells #[.int .i64 a0, .int .i64 a1, .int .i64 a2, .int .i64 a3] 25)).alloc (.cells #[.int .i64 b0, .int .i64 b1, .int .i64 b2, .int .i64 b3] 25)).heap.size) := Lib.hid (by simp <;> omega)
                  have L9 : Hid (w1.heap.size + 1 < ((((w1.alloc (.cells #[.int .i64 a0, .int .i64 a1, .int .i64 a2, .int .i64 a3] 24)).alloc (.cells #[.int .i64 b0, .int .i64 b1, .int .i64 b2, .int .i64 b3] 24)).alloc (.cells #[.int .i64 a0, .int .i64 a1, .int .i64 a2, .int .i64 a3] 25)).alloc (.cells #[.int .i64 b0, .int .i64 b1, .int .i64 b2, .int .i64 b3] 25)).heap.size) := Lib.hid (by simp <;> omega)
                  have L10 : Hid (w1.heap.size + 1 + 1 < ((((w1.alloc (.cells #[.int .i64 a0, .int .i64 a1, .int .i64 a2, .int .i64 a3] 24)).alloc (.cells #[.int .i64 b0, .int .i64 b1, .int .i64 b2, .int .i64 b3] 24)).alloc (.cells #[.int .i64 a0, .int .i64 a1, .int .i64 a2, .int .i64 a3] 25)).alloc (.cells #[.int .i64 b0, .int .i64 b1, .int .i64 b2, .int .i64 b3] 25)).heap.size) := Lib.hid (by simp <;> omega)
                  have L11 : Hid (w1.heap.size + 1 + 1 + 1 < ((((w1.alloc (.cells #[.int .i64 a0, .int .i64 a1, .int .i64 a2, .int .i64 a3] 24)).alloc (.cells #[.int .i64 b0, .int .i64 b1, .int .i64 b2, .int .i64 b3] 24)).alloc (.cells #[.int .i64 a0, .int .i64 a1, .int .i64 a2, .int .i64 a3] 25)).alloc (.cells #[.int .i64 b0, .int .i64 b1, .int .i64 b2, .int .i64 b3] 25)).heap.size) := Lib.hid (by simp <;> omega)
                  clear p0 q0 p1 q1 p2 q2 p3 q3 x0 x1 x2 x3 y0 y1 y2 y3 hz hz0 HA HB1 HQ
                  generalize ((((w1.alloc (.cells #[.int .i64 a0, .int .i64 a1, .int .i64 a2, .int .i64 a3] 24)).alloc (.cells #[.int .i64 b0, .int .i64 b1, .int .i64 b2, .int .i64 b3] 24)).alloc (.cells #[.int .i64 a0, .int .i64 a1, .int .i64 a2, .int .i64 a3] 25)).alloc (.cells #[.int .i64 b0, .int .i64 b1, .int .i64 b2, .int .i64 b3] 25)) = W at F0 Q0 L8 L9 L10 L11 ⊢
                  generalize w1.heap.size + 1 + 1 + 1 = c11 at F0 L11 ⊢
                  generalize w1.heap.size + 1 + 1 = c10 at F0 L10 ⊢
                  generalize w1.heap.size + 1 = c9 at F0 L9 ⊢
                  generalize w1.heap.size = c8 at F0 L8 ⊢
                  obtain ⟨m0, hm0⟩ : ∃ m, m = max a0 b0 := ⟨_, rfl⟩
                  obtain ⟨m1, hm1⟩ : ∃ m, m = max a1 b1 := ⟨_, rfl⟩
                  obtain ⟨m2, hm2⟩ : ∃ m, m = max a2 b2 := ⟨_, rfl⟩
                  obtain ⟨m3, hm3⟩ : ∃ m, m = max a3 b3 := ⟨_, rfl⟩
                  have HJ := fun w => Lib.hid (join_c a0 a1 a2 a3 b0 b1 b2 b3 w)
                  have HRJ := fun w => Lib.hid (rjoin_c a0 a1 a2 a3 b0 b1 b2 b3 w)
                  unfold ck at HJ HRJ
                  rw [← hm0, ← hm1, ← hm2, ← hm3] at HJ HRJ
                  clear hm0 hm1 hm2 hm3
                  have HT := fun w => Lib.hid (tick_c a0 a1 a2 a3 t w)
                  have HRT := fun w => Lib.hid (rtick_c a0 a1 a2 a3 t w)
                  unfold tkV ck at HT HRT
                  obtain ⟨t0, ht0⟩ : ∃ m, m = (if t = 0 then wrap64 (a0 + 1) else a0) := ⟨_, rfl⟩
                  obtain ⟨t1, ht1⟩ : ∃ m, m = (if t = 1 then wrap64 (a1 + 1) else a1) := ⟨_, rfl⟩
                  obtain ⟨t2, ht2⟩ : ∃ m, m = (if t = 2 then wrap64 (a2 + 1) else a2) := ⟨_, rfl⟩
                  obtain ⟨t3, ht3⟩ : ∃ m, m = (if t = 3 then wrap64 (a3 + 1) else a3) := ⟨_, rfl⟩
                  rw [← ht0, ← ht1, ← ht2, ← ht3] at HT HRT
                  clear ht0 ht1 ht2 ht3
                  have HB := fun w => Lib.hid (before_c a0 a1 a2 a3 b0 b1 b2 b3 w)
                  have HRB := fun w => Lib.hid (rbefore_c a0 a1 a2 a3 b0 b1 b2 b3 w)
                  obtain ⟨bb, hbb⟩ : ∃ m, m = bfB a0 a1 a2 a3 b0 b1 b2 b3 := ⟨_, rfl⟩
                  rw [← hbb] at HB HRB
                  clear hbb
                  have HC := fun w => Lib.hid (compare_c a0 a1 a2 a3 b0 b1 b2 b3 w)
                  have HRC := fun w => Lib.hid (rcompare_c a0 a1 a2 a3 b0 b1 b2 b3 w)
                  obtain ⟨cc, hcc⟩ : ∃ m, m = cmpV a0 a1 a2 a3 b0 b1 b2 b3 := ⟨_, rfl⟩
                  rw [← hcc] at HC HRC
                  clear hcc
                  have em : eqB m0 m1 m2 m3 m0 m1 m2 m3 = true := by unfold eqB; simp
                  have et : eqB t0 t1 t2 t3 t0 t1 t2 t3 = true := by unfold eqB; simp
                  have eb : (bb == bb) = true := by simp
                  have ec : (cc == cc) = true := by simp
                  refine wp_region_held_drew (S := (fun w' => w'.cell? ⟨c8, 0, none⟩ = some (.int .i64 a0) ∧ w'.cell? ⟨c8, 1, none⟩ = some (.int .i64 a1) ∧ w'.cell? ⟨c8, 2, none⟩ = some (.int .i64 a2) ∧ w'.cell? ⟨c8, 3, none⟩ = some (.int .i64 a3) ∧ w'.cell? ⟨c9, 0, none⟩ = some (.int .i64 b0) ∧ w'.cell? ⟨c9, 1, none⟩ = some (.int .i64 b1) ∧ w'.cell? ⟨c9, 2, none⟩ = some (.int .i64 b2) ∧ w'.cell? ⟨c9, 3, none⟩ = some (.int .i64 b3) ∧ w'.cell? ⟨c10, 0, none⟩ = some (.int .i64 a0) ∧ w'.cell? ⟨c10, 1, none⟩ = some (.int .i64 a1) ∧ w'.cell? ⟨c10, 2, none⟩ = some (.int .i64 a2) ∧ w'.cell? ⟨c10, 3, none⟩ = some (.int .i64 a3) ∧ w'.cell? ⟨c11, 0, none⟩ = some (.int .i64 b0) ∧ w'.cell? ⟨c11, 1, none⟩ = some (.int .i64 b1) ∧ w'.cell? ⟨c11, 2, none⟩ = some (.int .i64 b2) ∧ w'.cell? ⟨c11, 3, none⟩ = some (.int .i64 b3))) (by kernel_rfl) F0.out (fun hHeld => ?_)
                  refine wpAnyH_take (i := 0) (oi := { dst := some 32, op := Op.load 24 (Operand.tmp 8), type := 24, pos := "law.go:34", after := #[], guard := none }) (v := ?_) rfl (by kernel_rfl) (by kernel_rfl) (by kernel_rfl) (fun _ _ _ h => h) (Or.inl ⟨by rfl, ?_⟩) (by assumption) ?_
                  rotate_left
                  · (intro w0 hSw; (try dsimp only at hSw); go_split_ands; go_simp; with_reducible rfl)
                  try simp only [Act.put, List.setIfInBounds_toArray, List.set_cons_zero, List.set_cons_succ]
                  refine wpAnyH_take (i := 1) (oi := { dst := some 33, op := Op.load 24 (Operand.tmp 9), type := 24, pos := "law.go:34", after := #[], guard := none }) (v := ?_) rfl (by kernel_rfl) (by kernel_rfl) (by kernel_rfl) (fun _ _ _ h => h) (Or.inl ⟨by rfl, ?_⟩) (by assumption) ?_
                  rotate_left
                  · (intro w0 hSw; (try dsimp only at hSw); go_split_ands; go_simp; with_reducible rfl)
                  try simp only [Act.put, List.setIfInBounds_toArray, List.set_cons_zero, List.set_cons_succ]
                  refine wpAnyH_take (i := 3) (oi := { dst := some 35, op := Op.load 25 (Operand.tmp 10), type := 25, pos := "law.go:34", after := #[], guard := none }) (v := ?_) rfl (by kernel_rfl) (by kernel_rfl) (by kernel_rfl) (fun _ _ _ h => h) (Or.inl ⟨by rfl, ?_⟩) (by assumption) ?_
                  rotate_left
                  · (intro w0 hSw; (try dsimp only at hSw); go_split_ands; go_simp; with_reducible rfl)
                  try simp only [Act.put, List.setIfInBounds_toArray, List.set_cons_zero, List.set_cons_succ]
                  refine wpAnyH_take (i := 4) (oi := { dst := some 36, op := Op.load 25 (Operand.tmp 11), type := 25, pos := "law.go:34", after := #[], guard := none }) (v := ?_) rfl (by kernel_rfl) (by kernel_rfl) (by kernel_rfl) (fun _ _ _ h => h) (Or.inl ⟨by rfl, ?_⟩) (by assumption) ?_
                  rotate_left
                  · (intro w0 hSw; (try dsimp only at hSw); go_split_ands; go_simp; with_reducible rfl)
                  try simp only [Act.put, List.setIfInBounds_toArray, List.set_cons_zero, List.set_cons_succ]
                  refine wpAnyH_ready (rs := [2]) (by kernel_rfl) (by simp) ?_
                  refine AllReadyH.cons (o := { dst := some 34, op := Op.call { callee := Callee.value (Operand.func 8), args := #[Operand.tmp 32, Operand.tmp 33], argTypes := #[24, 24] }, type := 24, pos := "law.go:34", after := #[{ on := 0, ground := Ground.data }, { on := 1, ground := Ground.data }], guard := none }) rfl (fun K hK => ?_) AllReadyH.nil
                  go_simp
                  go_at_call 8
                  refine ((HJ _).out).mono ?_
                  rintro e w20 ⟨rfl, hb⟩
                  have F1 := Lib.hid (F0.out.below hb rfl L8.out L9.out L10.out L11.out)
                  have Q1 := Lib.hid (below_step Q0.out hb rfl rfl rfl rfl)
                  have hsz := hb.size
                  try simp only [World.drew_heap] at hsz
                  have L8 := Lib.hid (Nat.lt_of_lt_of_le L8.out hsz)
                  have L9 := Lib.hid (Nat.lt_of_lt_of_le L9.out hsz)
                  have L10 := Lib.hid (Nat.lt_of_lt_of_le L10.out hsz)
                  have L11 := Lib.hid (Nat.lt_of_lt_of_le L11.out hsz)
                  clear hb hsz
                  refine hK.out _ _ F1.out (fun hHeld => ?_)
                  clear hK K
                  try simp only [Act.put, List.setIfInBounds_toArray, List.set_cons_zero, List.set_cons_succ]
                  refine wpAnyH_ready (rs := [5]) (by kernel_rfl) (by simp) ?_
                  refine AllReadyH.cons (o := { dst := some 37, op := Op.call { callee := Callee.value (Operand.func 9), args := #[Operand.tmp 35, Operand.tmp 36], argTypes := #[25, 25] }, type := 25, pos := "law.go:34", after := #[{ on := 3, ground := Ground.data }, { on := 4, ground := Ground.data }, { on := 2, ground := Ground.chain }], guard := none }) rfl (fun K hK => ?_) AllReadyH.nil
                  go_simp
                  go_at_call 9
                  refine ((HRJ _).out).mono ?_
                  rintro e w21 ⟨rfl, hb⟩
                  have F2 := Lib.hid (F1.out.below hb rfl L8.out L9.out L10.out L11.out)
                  have Q2 := Lib.hid (below_step Q1.out hb rfl rfl rfl rfl)
                  have hsz := hb.size
                  try simp only [World.drew_heap] at hsz
                  have L8 := Lib.hid (Nat.lt_of_lt_of_le L8.out hsz)
                  have L9 := Lib.hid (Nat.lt_of_lt_of_le L9.out hsz)
                  have L10 := Lib.hid (Nat.lt_of_lt_of_le L10.out hsz)
                  have L11 := Lib.hid (Nat.lt_of_lt_of_le L11.out hsz)
                  clear hb hsz
                  refine hK.out _ _ F2.out (fun hHeld => ?_)
                  clear hK K
                  try simp only [Act.put, List.setIfInBounds_toArray, List.set_cons_zero, List.set_cons_succ]
                  refine wpAnyH_take (i := 6) (oi := { dst := some 38, op := Op.binOp BinOp.eql 24 (Operand.tmp 34) (Operand.tmp 37) 24, type := 4, pos := "law.go:34", after := #[{ on := 2, ground := Ground.data }, { on := 5, ground := Ground.data }], guard := none }) (v := ?_) rfl (by kernel_rfl) (by kernel_rfl) (by kernel_rfl) (fun _ _ _ h => h) (Or.inl ⟨by rfl, ?_⟩) (by assumption) ?_
                  rotate_left
                  · (intro w0 hSw; (try dsimp only at hSw); go_split_ands; go_simp; with_reducible rfl)
                  try simp only [Act.put, List.setIfInBounds_toArray, List.set_cons_zero, List.set_cons_succ]
                  refine wpAnyH_take (i := 7) (oi := { dst := some 39, op := Op.move (Operand.tmp 38), type := 4, pos := "law.go:34", after := #[{ on := 6, ground := Ground.data }, { on := 5, ground := Ground.chain }], guard := none }) (v := ?_) rfl (by kernel_rfl) (by kernel_rfl) (by kernel_rfl) (fun _ _ _ h => h) (Or.inl ⟨by rfl, ?_⟩) (by assumption) ?_
                  rotate_left
                  · (intro w0 hSw; (try dsimp only at hSw); go_split_ands; go_simp; with_reducible rfl)
                  try simp only [Act.put, List.setIfInBounds_toArray, List.set_cons_zero, List.set_cons_succ]
                  refine wpAnyH_take (i := 8) (oi := { dst := some 40, op := Op.load 24 (Operand.tmp 8), type := 24, pos := "law.go:34", after := #[{ on := 7, ground := Ground.guard }], guard := some (7, true) }) (v := ?_) rfl (by kernel_rfl) (by kernel_rfl) (by kernel_rfl) (fun _ _ _ h => h) (Or.inl ⟨by rfl, ?_⟩) (by assumption) ?_
                  rotate_left
                  · (intro w0 hSw; (try dsimp only at hSw); go_split_ands; go_simp; with_reducible rfl)
                  try simp only [Act.put, List.setIfInBounds_toArray, List.set_cons_zero, List.set_cons_succ]
                  refine wpAnyH_take (i := 9) (oi := { dst := some 41, op := Op.move (Operand.tmp 2), type := 3, pos := "law.go:34", after := #[{ on := 7, ground := Ground.guard }], guard := some (7, true) }) (v := ?_) rfl (by kernel_rfl) (by kernel_rfl) (by kernel_rfl) (fun _ _ _ h => h) (Or.inl ⟨by rfl, ?_⟩) (by assumption) ?_
                  rotate_left
                  · (intro w0 hSw; (try dsimp only at hSw); go_split_ands; go_simp; with_reducible rfl)
                  try simp only [Act.put, List.setIfInBounds_toArray, List.set_cons_zero, List.set_cons_succ]
                  refine wpAnyH_take (i := 11) (oi := { dst := some 43, op := Op.load 25 (Operand.tmp 10), type := 25, pos := "law.go:34", after := #[{ on := 7, ground := Ground.guard }], guard := some (7, true) }) (v := ?_) rfl (by kernel_rfl) (by kernel_rfl) (by kernel_rfl) (fun _ _ _ h => h) (Or.inl ⟨by rfl, ?_⟩) (by assumption) ?_
                  rotate_left
                  · (intro w0 hSw; (try dsimp only at hSw); go_split_ands; go_simp; with_reducible rfl)
                  try simp only [Act.put, List.setIfInBounds_toArray, List.set_cons_zero, List.set_cons_succ]
                  refine wpAnyH_take (i := 12) (oi := { dst := some 44, op := Op.move (Operand.tmp 2), type := 3, pos := "law.go:34", after := #[{ on := 7, ground := Ground.guard }], guard := some (7, true) }) (v := ?_) rfl (by kernel_rfl) (by kernel_rfl) (by kernel_rfl) (fun _ _ _ h => h) (Or.inl ⟨by rfl, ?_⟩) (by assumption) ?_
                  rotate_left
                  · (intro w0 hSw; (try dsimp only at hSw); go_split_ands; go_simp; with_reducible rfl)
                  try simp only [Act.put, List.setIfInBounds_toArray, List.set_cons_zero, List.set_cons_succ]
                  refine wpAnyH_ready (rs := [10]) (by kernel_rfl) (by simp) ?_
                  refine AllReadyH.cons (o := { dst := some 42, op := Op.call { callee := Callee.value (Operand.func 10), args := #[Operand.tmp 40, Operand.tmp 41], argTypes := #[24, 3] }, type := 24, pos := "law.go:34", after := #[{ on := 8, ground := Ground.data }, { on := 9, ground := Ground.data }, { on := 7, ground := Ground.chain }, { on := 7, ground := Ground.guard }], guard := some (7, true) }) rfl (fun K hK => ?_) AllReadyH.nil
                  go_simp
                  go_at_call 10
                  refine ((HT _).out).mono ?_
                  rintro e w22 ⟨rfl, hb⟩
                  have F3 := Lib.hid (F2.out.below hb rfl L8.out L9.out L10.out L11.out)
                  have Q3 := Lib.hid (below_step Q2.out hb rfl rfl rfl rfl)
                  have hsz := hb.size
                  try simp only [World.drew_heap] at hsz
                  have L8 := Lib.hid (Nat.lt_of_lt_of_le L8.out hsz)
                  have L9 := Lib.hid (Nat.lt_of_lt_of_le L9.out hsz)
                  have L10 := Lib.hid (Nat.lt_of_lt_of_le L10.out hsz)
                  have L11 := Lib.hid (Nat.lt_of_lt_of_le L11.out hsz)
                  clear hb hsz
                  refine hK.out _ _ F3.out (fun hHeld => ?_)
                  clear hK K
                  try simp only [Act.put, List.setIfInBounds_toArray, List.set_cons_zero, List.set_cons_succ]
                  refine wpAnyH_ready (rs := [13]) (by kernel_rfl) (by simp) ?_
                  refine AllReadyH.cons (o := { dst := some 45, op := Op.call { callee := Callee.value (Operand.func 11), args := #[Operand.tmp 43, Operand.tmp 44], argTypes := #[25, 3] }, type := 25, pos := "law.go:34", after := #[{ on := 11, ground := Ground.data }, { on := 12, ground := Ground.data }, { on := 10, ground := Ground.chain }, { on := 7, ground := Ground.guard }], guard := some (7, true) }) rfl (fun K hK => ?_) AllReadyH.nil
                  go_simp
                  go_at_call 11
                  refine ((HRT _).out).mono ?_
                  rintro e w23 ⟨rfl, hb⟩
                  have F4 := Lib.hid (F3.out.below hb rfl L8.out L9.out L10.out L11.out)
                  have Q4 := Lib.hid (below_step Q3.out hb rfl rfl rfl rfl)
                  have hsz := hb.size
                  try simp only [World.drew_heap] at hsz
                  have L8 := Lib.hid (Nat.lt_of_lt_of_le L8.out hsz)
                  have L9 := Lib.hid (Nat.lt_of_lt_of_le L9.out hsz)
                  have L10 := Lib.hid (Nat.lt_of_lt_of_le L10.out hsz)
                  have L11 := Lib.hid (Nat.lt_of_lt_of_le L11.out hsz)
                  clear hb hsz
                  refine hK.out _ _ F4.out (fun hHeld => ?_)
                  clear hK K
                  try simp only [Act.put, List.setIfInBounds_toArray, List.set_cons_zero, List.set_cons_succ]
                  refine wpAnyH_take (i := 14) (oi := { dst := some 46, op := Op.binOp BinOp.eql 24 (Operand.tmp 42) (Operand.tmp 45) 24, type := 4, pos := "law.go:34", after := #[{ on := 10, ground := Ground.data }, { on := 13, ground := Ground.data }, { on := 7, ground := Ground.guard }], guard := some (7, true) }) (v := ?_) rfl (by kernel_rfl) (by kernel_rfl) (by kernel_rfl) (fun _ _ _ h => h) (Or.inl ⟨by rfl, ?_⟩) (by assumption) ?_
                  rotate_left
                  · (intro w0 hSw; (try dsimp only at hSw); go_split_ands; go_simp; with_reducible rfl)
                  try simp only [Act.put, List.setIfInBounds_toArray, List.set_cons_zero, List.set_cons_succ]
                  refine wpAnyH_take (i := 15) (oi := { dst := some 47, op := Op.pick (Operand.tmp 39) (Operand.tmp 46) (Operand.const (Value.bool false)), type := 4, pos := "law.go:34", after := #[{ on := 7, ground := Ground.data }, { on := 14, ground := Ground.data }], guard := none }) (v := ?_) rfl (by kernel_rfl) (by kernel_rfl) (by kernel_rfl) (fun _ _ _ h => h) (Or.inl ⟨by rfl, ?_⟩) (by assumption) ?_
                  rotate_left
                  · (intro w0 hSw; (try dsimp only at hSw); go_split_ands; go_simp; with_reducible rfl)
                  try simp only [Act.put, List.setIfInBounds_toArray, List.set_cons_zero, List.set_cons_succ]
                  refine wpAnyH_take (i := 16) (oi := { dst := some 48, op := Op.move (Operand.tmp 47), type := 4, pos := "law.go:34", after := #[{ on := 15, ground := Ground.data }, { on := 13, ground := Ground.chain }], guard := none }) (v := ?_) rfl (by kernel_rfl) (by kernel_rfl) (by kernel_rfl) (fun _ _ _ h => h) (Or.inl ⟨by rfl, ?_⟩) (by assumption) ?_
                  rotate_left
                  · (intro w0 hSw; (try dsimp only at hSw); go_split_ands; go_simp; with_reducible rfl)
                  try simp only [Act.put, List.setIfInBounds_toArray, List.set_cons_zero, List.set_cons_succ]
                  refine wpAnyH_take (i := 17) (oi := { dst := some 49, op := Op.load 24 (Operand.tmp 8), type := 24, pos := "law.go:34", after := #[{ on := 16, ground := Ground.guard }], guard := some (16, true) }) (v := ?_) rfl (by kernel_rfl) (by kernel_rfl) (by kernel_rfl) (fun _ _ _ h => h) (Or.inl ⟨by rfl, ?_⟩) (by assumption) ?_
                  rotate_left
                  · (intro w0 hSw; (try dsimp only at hSw); go_split_ands; go_simp; with_reducible rfl)
                  try simp only [Act.put, List.setIfInBounds_toArray, List.set_cons_zero, List.set_cons_succ]
                  refine wpAnyH_take (i := 18) (oi := { dst := some 50, op := Op.load 24 (Operand.tmp 9), type := 24, pos := "law.go:34", after := #[{ on := 16, ground := Ground.guard }], guard := some (16, true) }) (v := ?_) rfl (by kernel_rfl) (by kernel_rfl) (by kernel_rfl) (fun _ _ _ h => h) (Or.inl ⟨by rfl, ?_⟩) (by assumption) ?_
                  rotate_left
                  · (intro w0 hSw; (try dsimp only at hSw); go_split_ands; go_simp; with_reducible rfl)
                  try simp only [Act.put, List.setIfInBounds_toArray, List.set_cons_zero, List.set_cons_succ]
                  refine wpAnyH_take (i := 20) (oi := { dst := some 52, op := Op.load 25 (Operand.tmp 10), type := 25, pos := "law.go:34", after := #[{ on := 16, ground := Ground.guard }], guard := some (16, true) }) (v := ?_) rfl (by kernel_rfl) (by kernel_rfl) (by kernel_rfl) (fun _ _ _ h => h) (Or.inl ⟨by rfl, ?_⟩) (by assumption) ?_
                  rotate_left
                  · (intro w0 hSw; (try dsimp only at hSw); go_split_ands; go_simp; with_reducible rfl)
                  try simp only [Act.put, List.setIfInBounds_toArray, List.set_cons_zero, List.set_cons_succ]
                  refine wpAnyH_take (i := 21) (oi := { dst := some 53, op := Op.load 25 (Operand.tmp 11), type := 25, pos := "law.go:34", after := #[{ on := 16, ground := Ground.guard }], guard := some (16, true) }) (v := ?_) rfl (by kernel_rfl) (by kernel_rfl) (by kernel_rfl) (fun _ _ _ h => h) (Or.inl ⟨by rfl, ?_⟩) (by assumption) ?_
                  rotate_left
                  · (intro w0 hSw; (try dsimp only at hSw); go_split_ands; go_simp; with_reducible rfl)
                  try simp only [Act.put, List.setIfInBounds_toArray, List.set_cons_zero, List.set_cons_succ]
                  refine wpAnyH_ready (rs := [19]) (by kernel_rfl) (by simp) ?_
                  refine AllReadyH.cons (o := { dst := some 51, op := Op.call { callee := Callee.value (Operand.func 12), args := #[Operand.tmp 49, Operand.tmp 50], argTypes := #[24, 24] }, type := 4, pos := "law.go:34", after := #[{ on := 17, ground := Ground.data }, { on := 18, ground := Ground.data }, { on := 16, ground := Ground.chain }, { on := 16, ground := Ground.guard }], guard := some (16, true) }) rfl (fun K hK => ?_) AllReadyH.nil
                  go_simp
                  go_at_call 12
                  refine ((HB _).out).mono ?_
                  rintro e w24 ⟨rfl, hb⟩
                  have F5 := Lib.hid (F4.out.below hb rfl L8.out L9.out L10.out L11.out)
                  have Q5 := Lib.hid (below_step Q4.out hb rfl rfl rfl rfl)
                  have hsz := hb.size
                  try simp only [World.drew_heap] at hsz
                  have L8 := Lib.hid (Nat.lt_of_lt_of_le L8.out hsz)
                  have L9 := Lib.hid (Nat.lt_of_lt_of_le L9.out hsz)
                  have L10 := Lib.hid (Nat.lt_of_lt_of_le L10.out hsz)
                  have L11 := Lib.hid (Nat.lt_of_lt_of_le L11.out hsz)
                  clear hb hsz
                  refine hK.out _ _ F5.out (fun hHeld => ?_)
                  clear hK K
                  try simp only [Act.put, List.setIfInBounds_toArray, List.set_cons_zero, List.set_cons_succ]
                  refine wpAnyH_ready (rs := [22]) (by kernel_rfl) (by simp) ?_
                  refine AllReadyH.cons (o := { dst := some 54, op := Op.call { callee := Callee.value (Operand.func 13), args := #[Operand.tmp 52, Operand.tmp 53], argTypes := #[25, 25] }, type := 4, pos := "law.go:34", after := #[{ on := 20, ground := Ground.data }, { on := 21, ground := Ground.data }, { on := 19, ground := Ground.chain }, { on := 16, ground := Ground.guard }], guard := some (16, true) }) rfl (fun K hK => ?_) AllReadyH.nil
                  go_simp
                  go_at_call 13
                  refine ((HRB _).out).mono ?_
                  rintro e w25 ⟨rfl, hb⟩
                  have F6 := Lib.hid (F5.out.below hb rfl L8.out L9.out L10.out L11.out)
                  have Q6 := Lib.hid (below_step Q5.out hb rfl rfl rfl rfl)
                  have hsz := hb.size
                  try simp only [World.drew_heap] at hsz
                  have L8 := Lib.hid (Nat.lt_of_lt_of_le L8.out hsz)
                  have L9 := Lib.hid (Nat.lt_of_lt_of_le L9.out hsz)
                  have L10 := Lib.hid (Nat.lt_of_lt_of_le L10.out hsz)
                  have L11 := Lib.hid (Nat.lt_of_lt_of_le L11.out hsz)
                  clear hb hsz
                  refine hK.out _ _ F6.out (fun hHeld => ?_)
                  clear hK K
                  try simp only [Act.put, List.setIfInBounds_toArray, List.set_cons_zero, List.set_cons_succ]
                  refine wpAnyH_take (i := 23) (oi := { dst := some 55, op := Op.binOp BinOp.eql 4 (Operand.tmp 51) (Operand.tmp 54) 4, type := 4, pos := "law.go:34", after := #[{ on := 19, ground := Ground.data }, { on := 22, ground := Ground.data }, { on := 16, ground := Ground.guard }], guard := some (16, true) }) (v := ?_) rfl (by kernel_rfl) (by kernel_rfl) (by kernel_rfl) (fun _ _ _ h => h) (Or.inl ⟨by rfl, ?_⟩) (by assumption) ?_
                  rotate_left
                  · (intro w0 hSw; (try dsimp only at hSw); go_split_ands; go_simp; with_reducible rfl)
                  try simp only [Act.put, List.setIfInBounds_toArray, List.set_cons_zero, List.set_cons_succ]
                  refine wpAnyH_take (i := 24) (oi := { dst := some 56, op := Op.pick (Operand.tmp 48) (Operand.tmp 55) (Operand.const (Value.bool false)), type := 4, pos := "law.go:34", after := #[{ on := 16, ground := Ground.data }, { on := 23, ground := Ground.data }], guard := none }) (v := ?_) rfl (by kernel_rfl) (by kernel_rfl) (by kernel_rfl) (fun _ _ _ h => h) (Or.inl ⟨by rfl, ?_⟩) (by assumption) ?_
                  rotate_left
                  · (intro w0 hSw; (try dsimp only at hSw); go_split_ands; go_simp; with_reducible rfl)
                  try simp only [Act.put, List.setIfInBounds_toArray, List.set_cons_zero, List.set_cons_succ]
                  refine wpAnyH_take (i := 25) (oi := { dst := some 57, op := Op.move (Operand.tmp 56), type := 4, pos := "law.go:34", after := #[{ on := 24, ground := Ground.data }, { on := 22, ground := Ground.chain }], guard := none }) (v := ?_) rfl (by kernel_rfl) (by kernel_rfl) (by kernel_rfl) (fun _ _ _ h => h) (Or.inl ⟨by rfl, ?_⟩) (by assumption) ?_
                  rotate_left
                  · (intro w0 hSw; (try dsimp only at hSw); go_split_ands; go_simp; with_reducible rfl)
                  try simp only [Act.put, List.setIfInBounds_toArray, List.set_cons_zero, List.set_cons_succ]
                  refine wpAnyH_take (i := 26) (oi := { dst := some 58, op := Op.load 24 (Operand.tmp 8), type := 24, pos := "law.go:34", after := #[{ on := 25, ground := Ground.guard }], guard := some (25, true) }) (v := ?_) rfl (by kernel_rfl) (by kernel_rfl) (by kernel_rfl) (fun _ _ _ h => h) (Or.inl ⟨by rfl, ?_⟩) (by assumption) ?_
                  rotate_left
                  · (intro w0 hSw; (try dsimp only at hSw); go_split_ands; go_simp; with_reducible rfl)
                  try simp only [Act.put, List.setIfInBounds_toArray, List.set_cons_zero, List.set_cons_succ]
                  refine wpAnyH_take (i := 27) (oi := { dst := some 59, op := Op.load 24 (Operand.tmp 9), type := 24, pos := "law.go:34", after := #[{ on := 25, ground := Ground.guard }], guard := some (25, true) }) (v := ?_) rfl (by kernel_rfl) (by kernel_rfl) (by kernel_rfl) (fun _ _ _ h => h) (Or.inl ⟨by rfl, ?_⟩) (by assumption) ?_
                  rotate_left
                  · (intro w0 hSw; (try dsimp only at hSw); go_split_ands; go_simp; with_reducible rfl)
                  try simp only [Act.put, List.setIfInBounds_toArray, List.set_cons_zero, List.set_cons_succ]
                  refine wpAnyH_take (i := 29) (oi := { dst := some 61, op := Op.load 25 (Operand.tmp 10), type := 25, pos := "law.go:34", after := #[{ on := 25, ground := Ground.guard }], guard := some (25, true) }) (v := ?_) rfl (by kernel_rfl) (by kernel_rfl) (by kernel_rfl) (fun _ _ _ h => h) (Or.inl ⟨by rfl, ?_⟩) (by assumption) ?_
                  rotate_left
                  · (intro w0 hSw; (try dsimp only at hSw); go_split_ands; go_simp; with_reducible rfl)
                  try simp only [Act.put, List.setIfInBounds_toArray, List.set_cons_zero, List.set_cons_succ]
                  refine wpAnyH_take (i := 30) (oi := { dst := some 62, op := Op.load 25 (Operand.tmp 11), type := 25, pos := "law.go:34", after := #[{ on := 25, ground := Ground.guard }], guard := some (25, true) }) (v := ?_) rfl (by kernel_rfl) (by kernel_rfl) (by kernel_rfl) (fun _ _ _ h => h) (Or.inl ⟨by rfl, ?_⟩) (by assumption) ?_
                  rotate_left
                  · (intro w0 hSw; (try dsimp only at hSw); go_split_ands; go_simp; with_reducible rfl)
                  try simp only [Act.put, List.setIfInBounds_toArray, List.set_cons_zero, List.set_cons_succ]
                  refine wpAnyH_ready (rs := [28]) (by kernel_rfl) (by simp) ?_
                  refine AllReadyH.cons (o := { dst := some 60, op := Op.call { callee := Callee.value (Operand.func 14), args := #[Operand.tmp 58, Operand.tmp 59], argTypes := #[24, 24] }, type := 3, pos := "law.go:34", after := #[{ on := 26, ground := Ground.data }, { on := 27, ground := Ground.data }, { on := 25, ground := Ground.chain }, { on := 25, ground := Ground.guard }], guard := some (25, true) }) rfl (fun K hK => ?_) AllReadyH.nil
                  go_simp
                  go_at_call 14
                  refine ((HC _).out).mono ?_
                  rintro e w26 ⟨rfl, hb⟩
                  have F7 := Lib.hid (F6.out.below hb rfl L8.out L9.out L10.out L11.out)
                  have Q7 := Lib.hid (below_step Q6.out hb rfl rfl rfl rfl)
                  have hsz := hb.size
                  try simp only [World.drew_heap] at hsz
                  have L8 := Lib.hid (Nat.lt_of_lt_of_le L8.out hsz)
                  have L9 := Lib.hid (Nat.lt_of_lt_of_le L9.out hsz)
                  have L10 := Lib.hid (Nat.lt_of_lt_of_le L10.out hsz)
                  have L11 := Lib.hid (Nat.lt_of_lt_of_le L11.out hsz)
                  clear hb hsz
                  refine hK.out _ _ F7.out (fun hHeld => ?_)
                  clear hK K
                  try simp only [Act.put, List.setIfInBounds_toArray, List.set_cons_zero, List.set_cons_succ]
                  refine wpAnyH_ready (rs := [31]) (by kernel_rfl) (by simp) ?_
                  refine AllReadyH.cons (o := { dst := some 63, op := Op.call { callee := Callee.value (Operand.func 15), args := #[Operand.tmp 61, Operand.tmp 62], argTypes := #[25, 25] }, type := 3, pos := "law.go:34", after := #[{ on := 29, ground := Ground.data }, { on := 30, ground := Ground.data }, { on := 28, ground := Ground.chain }, { on := 25, ground := Ground.guard }], guard := some (25, true) }) rfl (fun K hK => ?_) AllReadyH.nil
                  go_simp
                  go_at_call 15
                  refine ((HRC _).out).mono ?_
                  rintro e w27 ⟨rfl, hb⟩
                  have F8 := Lib.hid (F7.out.below hb rfl L8.out L9.out L10.out L11.out)
                  have Q8 := Lib.hid (below_step Q7.out hb rfl rfl rfl rfl)
                  have hsz := hb.size
                  try simp only [World.drew_heap] at hsz
                  have L8 := Lib.hid (Nat.lt_of_lt_of_le L8.out hsz)
                  have L9 := Lib.hid (Nat.lt_of_lt_of_le L9.out hsz)
                  have L10 := Lib.hid (Nat.lt_of_lt_of_le L10.out hsz)
                  have L11 := Lib.hid (Nat.lt_of_lt_of_le L11.out hsz)
                  clear hb hsz
                  refine hK.out _ _ F8.out (fun hHeld => ?_)
                  clear hK K
                  try simp only [Act.put, List.setIfInBounds_toArray, List.set_cons_zero, List.set_cons_succ]
                  refine wpAnyH_take (i := 32) (oi := { dst := some 64, op := Op.binOp BinOp.eql 3 (Operand.tmp 60) (Operand.tmp 63) 3, type := 4, pos := "law.go:34", after := #[{ on := 28, ground := Ground.data }, { on := 31, ground := Ground.data }, { on := 25, ground := Ground.guard }], guard := some (25, true) }) (v := ?_) rfl (by kernel_rfl) (by kernel_rfl) (by kernel_rfl) (fun _ _ _ h => h) (Or.inl ⟨by rfl, ?_⟩) (by assumption) ?_
                  rotate_left
                  · (intro w0 hSw; (try dsimp only at hSw); go_split_ands; go_simp; with_reducible rfl)
                  try simp only [Act.put, List.setIfInBounds_toArray, List.set_cons_zero, List.set_cons_succ]
                  refine wpAnyH_take (i := 33) (oi := { dst := some 65, op := Op.pick (Operand.tmp 57) (Operand.tmp 64) (Operand.const (Value.bool false)), type := 4, pos := "law.go:34", after := #[{ on := 25, ground := Ground.data }, { on := 32, ground := Ground.data }], guard := none }) (v := ?_) rfl (by kernel_rfl) (by kernel_rfl) (by kernel_rfl) (fun _ _ _ h => h) (Or.inl ⟨by rfl, ?_⟩) (by assumption) ?_
                  rotate_left
                  · (intro w0 hSw; (try dsimp only at hSw); go_split_ands; go_simp; with_reducible rfl)
                  try simp only [Act.put, List.setIfInBounds_toArray, List.set_cons_zero, List.set_cons_succ]
                  refine wpAnyH_take (i := 34) (oi := { dst := some 6, op := Op.assign (Operand.tmp 65), type := 4, pos := "law.go:34", after := #[{ on := 33, ground := Ground.data }, { on := 31, ground := Ground.chain }, { on := 0, ground := Ground.phase }, { on := 1, ground := Ground.phase }, { on := 2, ground := Ground.phase }, { on := 3, ground := Ground.phase }, { on := 4, ground := Ground.phase }, { on := 5, ground := Ground.phase }, { on := 6, ground := Ground.phase }, { on := 7, ground := Ground.phase }, { on := 8, ground := Ground.phase }, { on := 9, ground := Ground.phase }, { on := 10, ground := Ground.phase }, { on := 11, ground := Ground.phase }, { on := 12, ground := Ground.phase }, { on := 13, ground := Ground.phase }, { on := 14, ground := Ground.phase }, { on := 15, ground := Ground.phase }, { on := 16, ground := Ground.phase }, { on := 17, ground := Ground.phase }, { on := 18, ground := Ground.phase }, { on := 19, ground := Ground.phase }, { on := 20, ground := Ground.phase }, { on := 21, ground := Ground.phase }, { on := 22, ground := Ground.phase }, { on := 23, ground := Ground.phase }, { on := 24, ground := Ground.phase }, { on := 25, ground := Ground.phase }, { on := 26, ground := Ground.phase }, { on := 27, ground := Ground.phase }, { on := 28, ground := Ground.phase }, { on := 29, ground := Ground.phase }, { on := 30, ground := Ground.phase }, { on := 31, ground := Ground.phase }, { on := 32, ground := Ground.phase }, { on := 33, ground := Ground.phase }], guard := none }) (v := ?_) rfl (by kernel_rfl) (by kernel_rfl) (by kernel_rfl) (fun _ _ _ h => h) (Or.inl ⟨by rfl, ?_⟩) (by assumption) ?_
                  rotate_left
                  · (intro w0 hSw; (try dsimp only at hSw); go_split_ands; go_simp; with_reducible rfl)
                  try simp only [Act.put, List.setIfInBounds_toArray, List.set_cons_zero, List.set_cons_succ]
                  refine wpAnyH_done (by kernel_rfl) ?_ _
                  clear em et eb ec hHeld
                  go_wp2
                  go_ret
                  exact ⟨rfl, Q8.out⟩
end Go.Proofs.Ytnmgafaebggeiaa
