import Derived.Deep.CutBlock
import Derived.Deep.DeepCutAuto
import Derived.Test.YtnmgafaebggeiaaOc
import Derived.Test.YtnmgafaebggeiaaOd
import Derived.Test.YtnmgafaebggeiaaKn
import Derived.WalkKit
import Derived.ProofKit
import Derived.OpenShut
import Derived.Deep.QuietTactic
import Derived.BigQuiet
import Derived.Outline
import Derived.WalkSmall
import Derived.WalkLawsBesides
import Derived.WalkSpells
import Derived.BigGuardPart
import Derived.RegionTactic
import Derived.Deep.RegionHeld3
import Derived.Lib.Hide
import Derived.Deep.MidRow
import Derived.Below
import Derived.Deep.RegionWith
import Derived.Deep.OwnRows
import Derived.Deep.AppendLies
namespace Go.Proofs.Ytnmgafaebggeiaa
open Go.ChangeShapes Go.WideShapes Go.ChangeAt Go.RowKit
set_option linter.unusedVariables false
attribute [local go_sem ↓] eql24 neq24 eql25 neq25
def Three (d e f : Nat) (a0 a1 a2 a3 b0 b1 b2 b3 c0 c1 c2 c3 : Int) (w : World) : Prop := d < w.heap.size ∧ e < w.heap.size ∧ f < w.heap.size ∧ w.cell? ⟨d, 0, none⟩ = some (.int .i64 a0) ∧ w.cell? ⟨d, 1, none⟩ = some (.int .i64 a1) ∧ w.cell? ⟨d, 2, none⟩ = some (.int .i64 a2) ∧ w.cell? ⟨d, 3, none⟩ = some (.int .i64 a3) ∧ w.cell? ⟨e, 0, none⟩ = some (.int .i64 b0) ∧ w.cell? ⟨e, 1, none⟩ = some (.int .i64 b1) ∧ w.cell? ⟨e, 2, none⟩ = some (.int .i64 b2) ∧ w.cell? ⟨e, 3, none⟩ = some (.int .i64 b3) ∧ w.cell? ⟨f, 0, none⟩ = some (.int .i64 c0) ∧ w.cell? ⟨f, 1, none⟩ = some (.int .i64 c1) ∧ w.cell? ⟨f, 2, none⟩ = some (.int .i64 c2) ∧ w.cell? ⟨f, 3, none⟩ = some (.int .i64 c3)
theorem Three.below {d e f : Nat} {a0 a1 a2 a3 b0 b1 b2 b3 c0 c1 c2 c3 : Int} {w W w' : World} (h : Three d e f a0 a1 a2 a3 b0 b1 b2 b3 c0 c1 c2 c3 w) (hb : Below W.heap.size W w') (he : W.heap = w.heap) : Three d e f a0 a1 a2 a3 b0 b1 b2 b3 c0 c1 c2 c3 w' := by
  obtain ⟨h8, h9, h10, h⟩ := h
  have q : ∀ c i, c < w.heap.size → w'.cell? ⟨c, i, none⟩ = w.cell? ⟨c, i, none⟩ := fun c i hc => by
    have : c < W.heap.size := by rw [he]; exact hc
    rw [hb.cell (p := ⟨c, i, none⟩) this]
    unfold World.cell?
    rw [he]
  have hs := hb.size
  rw [he] at hs
  refine ⟨by omega, by omega, by omega, ?_⟩
  rw [q d 0 h8, q d 1 h8, q d 2 h8, q d 3 h8, q e 0 h9, q e 1 h9, q e 2 h9, q e 3 h9, q f 0 h10, q f 1 h10, q f 2 h10, q f 3 h10]
  exact h
theorem bf_irr (a0 a1 a2 a3 : Int) : bfB a0 a1 a2 a3 a0 a1 a2 a3 = false := by unfold bfB eqB; simp
theorem bf_asym (a0 a1 a2 a3 b0 b1 b2 b3 : Int) (h : bfB a0 a1 a2 a3 b0 b1 b2 b3 = true) : bfB b0 b1 b2 b3 a0 a1 a2 a3 = false := by
  unfold bfB leB eqB at *
  simp only [Bool.and_eq_true, decide_eq_true_eq, Bool.not_eq_true', decide_eq_false_iff_not] at h
  rw [Bool.eq_false_iff]
  simp only [ne_eq, Bool.and_eq_true, decide_eq_true_eq, Bool.not_eq_true', decide_eq_false_iff_not]
  omega
theorem bf_trans (a0 a1 a2 a3 b0 b1 b2 b3 c0 c1 c2 c3 : Int) (h : bfB a0 a1 a2 a3 b0 b1 b2 b3 = true) (h' : bfB b0 b1 b2 b3 c0 c1 c2 c3 = true) : bfB a0 a1 a2 a3 c0 c1 c2 c3 = true := by
  unfold bfB leB eqB at *
  simp only [Bool.and_eq_true, decide_eq_true_eq, Bool.not_eq_true', decide_eq_false_iff_not] at *
  omega
set_option maxRecDepth 100000 in
set_option maxHeartbeats 8000000 in
theorem partial_c (a0 a1 a2 a3 b0 b1 b2 b3 c0 c1 c2 c3 : Int) (w : World) :
    Calls Try.prog 4 #[.agg #[.int .i64 a0, .int .i64 a1, .int .i64 a2, .int .i64 a3], .agg #[.int .i64 b0, .int .i64 b1, .int .i64 b2, .int .i64 b3], .agg #[.int .i64 c0, .int .i64 c1, .int .i64 c2, .int .i64 c3]] w fun e w' => e = .returned (.bool true) ∧ Below w.heap.size w w' := by
  have F0 : Hid (Three w.heap.size (w.heap.size + 1) (w.heap.size + 1 + 1) a0 a1 a2 a3 b0 b1 b2 b3 c0 c1 c2 c3 (((w.alloc (.cells #[.int .i64 a0, .int .i64 a1, .int .i64 a2, .int .i64 a3] 22)).alloc (.cells #[.int .i64 b0, .int .i64 b1, .int .i64 b2, .int .i64 b3] 22)).alloc (.cells #[.int .i64 c0, .int .i64 c1, .int .i64 c2, .int .i64 c3] 22))) := Lib.hid (by unfold Three; simp [go_sem])
  have Q0 : Hid (Below w.heap.size w (((w.alloc (.cells #[.int .i64 a0, .int .i64 a1, .int .i64 a2, .int .i64 a3] 22)).alloc (.cells #[.int .i64 b0, .int .i64 b1, .int .i64 b2, .int .i64 b3] 22)).alloc (.cells #[.int .i64 c0, .int .i64 c1, .int .i64 c2, .int .i64 c3] 22))) := Lib.hid ((((Below.refl _ _).alloc (Nat.le_refl _) _).alloc (by simp) _).alloc (by simp; omega) _)
  go_enter Try.func4, Try.ntmps4
  go_wp2_with fail
  refine (known_c _).mono ?_
  rintro e w1 ⟨rfl, hb⟩
  have F1 := Lib.hid (F0.out.below hb rfl)
  have Q1 := Lib.hid (below_step Q0.out hb rfl rfl rfl rfl)
  clear hb F0 Q0
  obtain ⟨l0, l1, l2, x0, x1, x2, x3, x4, x5, x6, x7, x8, x9, x10, x11⟩ := F1.out
  have F2 : Hid (Three w1.heap.size (w1.heap.size + 1) (w1.heap.size + 1 + 1) a0 a1 a2 a3 b0 b1 b2 b3 c0 c1 c2 c3 (((w1.alloc (.cells #[.int .i64 a0, .int .i64 a1, .int .i64 a2, .int .i64 a3] 24)).alloc (.cells #[.int .i64 b0, .int .i64 b1, .int .i64 b2, .int .i64 b3] 24)).alloc (.cells #[.int .i64 c0, .int .i64 c1, .int .i64 c2, .int .i64 c3] 24))) := Lib.hid (by unfold Three; simp [go_sem])
  have Q2 : Hid (Below w.heap.size w (((w1.alloc (.cells #[.int .i64 a0, .int .i64 a1, .int .i64 a2, .int .i64 a3] 24)).alloc (.cells #[.int .i64 b0, .int .i64 b1, .int .i64 b2, .int .i64 b3] 24)).alloc (.cells #[.int .i64 c0, .int .i64 c1, .int .i64 c2, .int .i64 c3] 24))) := Lib.hid (((Q1.out.alloc Q1.out.size _).alloc (by have := Q1.out.size; simp; omega) _).alloc (by have := Q1.out.size; simp; omega) _)
  go_upto_region 6 with fail
  clear l0 l1 l2 x0 x1 x2 x3 x4 x5 x6 x7 x8 x9 x10 x11 F1 Q1
  generalize (((w1.alloc (.cells #[.int .i64 a0, .int .i64 a1, .int .i64 a2, .int .i64 a3] 24)).alloc (.cells #[.int .i64 b0, .int .i64 b1, .int .i64 b2, .int .i64 b3] 24)).alloc (.cells #[.int .i64 c0, .int .i64 c1, .int .i64 c2, .int .i64 c3] 24)) = W at F2 Q2 ⊢
  generalize w1.heap.size + 1 + 1 = f at F2 ⊢
  generalize w1.heap.size + 1 = e at F2 ⊢
  generalize w1.heap.size = d at F2 ⊢
  obtain ⟨p, hp⟩ : ∃ p, bfB a0 a1 a2 a3 b0 b1 b2 b3 = p := ⟨_, rfl⟩
  obtain ⟨q, hq⟩ : ∃ p, bfB b0 b1 b2 b3 c0 c1 c2 c3 = p := ⟨_, rfl⟩
  obtain ⟨r, hr⟩ : ∃ p, bfB a0 a1 a2 a3 c0 c1 c2 c3 = p := ⟨_, rfl⟩
  have hpr : Hid (p = true → bfB b0 b1 b2 b3 a0 a1 a2 a3 = false) := Lib.hid (fun h => bf_asym _ _ _ _ _ _ _ _ (hp.trans h))
  have hpqr : Hid (p = true → q = true → r = true) := Lib.hid (fun h h' => hr.symm.trans (bf_trans _ _ _ _ _ _ _ _ _ _ _ _ (hp.trans h) (hq.trans h')))
  have Hxx := fun w => Lib.hid (before_c a0 a1 a2 a3 a0 a1 a2 a3 w)
  rw [bf_irr] at Hxx
  have Hxy := fun w => Lib.hid (before_c a0 a1 a2 a3 b0 b1 b2 b3 w)
  have Hyz := fun w => Lib.hid (before_c b0 b1 b2 b3 c0 c1 c2 c3 w)
  have Hxz := fun w => Lib.hid (before_c a0 a1 a2 a3 c0 c1 c2 c3 w)
  have Hyx := fun w => Lib.hid (before_c b0 b1 b2 b3 a0 a1 a2 a3 w)
  rw [hp] at Hxy
  rw [hq] at Hyz
  rw [hr] at Hxz
  have HP := Lib.hid hp
  have HQ := Lib.hid hq
  have HR := Lib.hid hr
  clear hp hq hr
  go_cut [45] from 17 to 45 (fun s wx => s = .bool false ∧ Three d e f a0 a1 a2 a3 b0 b1 b2 b3 c0 c1 c2 c3 wx ∧ Below w.heap.size w wx)
  case first =>
    have F := F2
    have Q := Q2
    clear F2 Q2
    obtain ⟨l0, l1, l2, x0, x1, x2, x3, x4, x5, x6, x7, x8, x9, x10, x11⟩ := F.out
    cases p
    · go_wp2_with (first | (go_at_call 12; (first | (with_reducible refine (Hxx _).out.mono ?_) | (with_reducible refine (Hxy _).out.mono ?_) | (with_reducible refine (Hyx _).out.mono ?_) | (with_reducible refine (Hyz _).out.mono ?_) | (with_reducible refine (Hxz _).out.mono ?_)); rintro e w' ⟨rfl, hb⟩; replace F := Lib.hid (F.out.below hb rfl); replace Q := Lib.hid (below_step Q.out hb rfl rfl rfl rfl); clear hb l0 l1 l2 x0 x1 x2 x3 x4 x5 x6 x7 x8 x9 x10 x11; obtain ⟨l0, l1, l2, x0, x1, x2, x3, x4, x5, x6, x7, x8, x9, x10, x11⟩ := F.out))
      go_meet
      case rel => exact ⟨rfl, F.out, Q.out⟩
    · have hyx := hpr.out rfl
      rw [hyx] at Hyx
      clear hyx
      cases q
      · go_wp2_with (first | (go_at_call 12; (first | (with_reducible refine (Hxx _).out.mono ?_) | (with_reducible refine (Hxy _).out.mono ?_) | (with_reducible refine (Hyx _).out.mono ?_) | (with_reducible refine (Hyz _).out.mono ?_) | (with_reducible refine (Hxz _).out.mono ?_)); rintro e w' ⟨rfl, hb⟩; replace F := Lib.hid (F.out.below hb rfl); replace Q := Lib.hid (below_step Q.out hb rfl rfl rfl rfl); clear hb l0 l1 l2 x0 x1 x2 x3 x4 x5 x6 x7 x8 x9 x10 x11; obtain ⟨l0, l1, l2, x0, x1, x2, x3, x4, x5, x6, x7, x8, x9, x10, x11⟩ := F.out))
        go_meet
        case rel => exact ⟨rfl, F.out, Q.out⟩
      · have hrr := hpqr.out rfl rfl
        subst hrr
        go_wp2_with (first | (go_at_call 12; (first | (with_reducible refine (Hxx _).out.mono ?_) | (with_reducible refine (Hxy _).out.mono ?_) | (with_reducible refine (Hyx _).out.mono ?_) | (with_reducible refine (Hyz _).out.mono ?_) | (with_reducible refine (Hxz _).out.mono ?_)); rintro e w' ⟨rfl, hb⟩; replace F := Lib.hid (F.out.below hb rfl); replace Q := Lib.hid (below_step Q.out hb rfl rfl rfl rfl); clear hb l0 l1 l2 x0 x1 x2 x3 x4 x5 x6 x7 x8 x9 x10 x11; obtain ⟨l0, l1, l2, x0, x1, x2, x3, x4, x5, x6, x7, x8, x9, x10, x11⟩ := F.out))
        go_meet
        case rel => exact ⟨rfl, F.out, Q.out⟩
  case rest =>
    obtain ⟨rfl, hF, hQ⟩ := hcut
    have F := Lib.hid hF
    have Q := Lib.hid hQ
    clear hF hQ F2 Q2 hpr hpqr Hxx Hxy Hyx
    obtain ⟨l0, l1, l2, x0, x1, x2, x3, x4, x5, x6, x7, x8, x9, x10, x11⟩ := F.out
    have HJ := fun w => Lib.hid (join_c a0 a1 a2 a3 b0 b1 b2 b3 w)
    have HJ2 := fun w => Lib.hid (join_c b0 b1 b2 b3 a0 a1 a2 a3 w)
    unfold ck at HJ HJ2
    rw [show max b0 a0 = max a0 b0 by omega, show max b1 a1 = max a1 b1 by omega, show max b2 a2 = max a2 b2 by omega, show max b3 a3 = max a3 b3 by omega] at HJ2
    obtain ⟨m0, hm0⟩ : ∃ m, m = max a0 b0 := ⟨_, rfl⟩
    obtain ⟨m1, hm1⟩ : ∃ m, m = max a1 b1 := ⟨_, rfl⟩
    obtain ⟨m2, hm2⟩ : ∃ m, m = max a2 b2 := ⟨_, rfl⟩
    obtain ⟨m3, hm3⟩ : ∃ m, m = max a3 b3 := ⟨_, rfl⟩
    have njx : bfB m0 m1 m2 m3 a0 a1 a2 a3 = false := by
      unfold bfB leB eqB
      rw [Bool.eq_false_iff]
      simp only [ne_eq, Bool.and_eq_true, decide_eq_true_eq, Bool.not_eq_true', decide_eq_false_iff_not]
      omega
    have njy : bfB m0 m1 m2 m3 b0 b1 b2 b3 = false := by
      unfold bfB leB eqB
      rw [Bool.eq_false_iff]
      simp only [ne_eq, Bool.and_eq_true, decide_eq_true_eq, Bool.not_eq_true', decide_eq_false_iff_not]
      omega
    have nxj : eqB m0 m1 m2 m3 a0 a1 a2 a3 = false → bfB a0 a1 a2 a3 m0 m1 m2 m3 = true := by
      unfold bfB leB eqB
      simp only [Bool.and_eq_true, decide_eq_true_eq, Bool.not_eq_true', decide_eq_false_iff_not]
      omega
    have nup : (eqB c0 c1 c2 c3 a0 a1 a2 a3 || r) = true → (eqB c0 c1 c2 c3 b0 b1 b2 b3 || q) = true → eqB c0 c1 c2 c3 m0 m1 m2 m3 = true ∨ bfB m0 m1 m2 m3 c0 c1 c2 c3 = true := by
      have hq := HQ.out
      have hr := HR.out
      rw [← hq, ← hr]
      unfold bfB leB eqB
      simp only [Bool.or_eq_true, Bool.and_eq_true, decide_eq_true_eq, Bool.not_eq_true', decide_eq_false_iff_not]
      omega
    have NXJ := Lib.hid nxj
    have NUP := Lib.hid nup
    have Hjx := fun w => Lib.hid (before_c m0 m1 m2 m3 a0 a1 a2 a3 w)
    have Hjy := fun w => Lib.hid (before_c m0 m1 m2 m3 b0 b1 b2 b3 w)
    have Hxj := fun w => Lib.hid (before_c a0 a1 a2 a3 m0 m1 m2 m3 w)
    have Hjz := fun w => Lib.hid (before_c m0 m1 m2 m3 c0 c1 c2 c3 w)
    rw [njx] at Hjx
    rw [njy] at Hjy
    rw [← hm0, ← hm1, ← hm2, ← hm3] at HJ HJ2
    clear njx njy nxj nup hm0 hm1 hm2 hm3
    have em : eqB m0 m1 m2 m3 m0 m1 m2 m3 = true := by unfold eqB; simp
    have EM := Lib.hid em
    clear em
    go_upto_region 9 with (first | (go_at_call 8; (first | (with_reducible refine (HJ _).out.mono ?_)); rintro e w' ⟨rfl, hb⟩; replace F := Lib.hid (F.out.below hb rfl); replace Q := Lib.hid (below_step Q.out hb rfl rfl rfl rfl); clear hb l0 l1 l2 x0 x1 x2 x3 x4 x5 x6 x7 x8 x9 x10 x11; obtain ⟨l0, l1, l2, x0, x1, x2, x3, x4, x5, x6, x7, x8, x9, x10, x11⟩ := F.out))
    have G : Hid (Three w'.heap.size d e m0 m1 m2 m3 a0 a1 a2 a3 b0 b1 b2 b3 (w'.alloc (.cells #[.int .i64 m0, .int .i64 m1, .int .i64 m2, .int .i64 m3] 24))) := Lib.hid (by
      have hb : Below w'.heap.size w' (w'.alloc (.cells #[.int .i64 m0, .int .i64 m1, .int .i64 m2, .int .i64 m3] 24)) := (Below.refl _ _).alloc (Nat.le_refl _) _
      refine ⟨by simp, by simp; omega, by simp; omega, by simp [go_sem], by simp [go_sem], by simp [go_sem], by simp [go_sem], (hb.cell (p := ⟨d, 0, none⟩) l0).trans x0, (hb.cell (p := ⟨d, 1, none⟩) l0).trans x1, (hb.cell (p := ⟨d, 2, none⟩) l0).trans x2, (hb.cell (p := ⟨d, 3, none⟩) l0).trans x3, (hb.cell (p := ⟨e, 0, none⟩) l1).trans x4, (hb.cell (p := ⟨e, 1, none⟩) l1).trans x5, (hb.cell (p := ⟨e, 2, none⟩) l1).trans x6, (hb.cell (p := ⟨e, 3, none⟩) l1).trans x7⟩)
    replace F := Lib.hid (F.out.below ((Below.refl w'.heap.size w').alloc (Nat.le_refl _) (.cells #[.int .i64 m0, .int .i64 m1, .int .i64 m2, .int .i64 m3] 24)) rfl)
    replace Q := Lib.hid (Q.out.alloc Q.out.size (.cells #[.int .i64 m0, .int .i64 m1, .int .i64 m2, .int .i64 m3] 24))
    clear l0 l1 l2 x0 x1 x2 x3 x4 x5 x6 x7 x8 x9 x10 x11 HJ
    generalize (w'.alloc (.cells #[.int .i64 m0, .int .i64 m1, .int .i64 m2, .int .i64 m3] 24)) = V at F G Q ⊢
    generalize w'.heap.size = g at G ⊢
    go_cut [74] from 49 to 74 (fun s wx => s = .bool false ∧ Three d e f a0 a1 a2 a3 b0 b1 b2 b3 c0 c1 c2 c3 wx ∧ Three g d e m0 m1 m2 m3 a0 a1 a2 a3 b0 b1 b2 b3 wx ∧ Below w.heap.size w wx)
    case first =>
      have HG := G.out.2.2.2
      cases e1 : eqB m0 m1 m2 m3 a0 a1 a2 a3
      · have hxj := NXJ.out e1
        rw [hxj] at Hxj
        clear hxj
        refine wp_region_held_drew (S := (fun w' => w'.cell? ⟨g, 0, none⟩ = some (.int .i64 m0) ∧ w'.cell? ⟨g, 1, none⟩ = some (.int .i64 m1) ∧ w'.cell? ⟨g, 2, none⟩ = some (.int .i64 m2) ∧ w'.cell? ⟨g, 3, none⟩ = some (.int .i64 m3) ∧ w'.cell? ⟨d, 0, none⟩ = some (.int .i64 a0) ∧ w'.cell? ⟨d, 1, none⟩ = some (.int .i64 a1) ∧ w'.cell? ⟨d, 2, none⟩ = some (.int .i64 a2) ∧ w'.cell? ⟨d, 3, none⟩ = some (.int .i64 a3) ∧ w'.cell? ⟨e, 0, none⟩ = some (.int .i64 b0) ∧ w'.cell? ⟨e, 1, none⟩ = some (.int .i64 b1) ∧ w'.cell? ⟨e, 2, none⟩ = some (.int .i64 b2) ∧ w'.cell? ⟨e, 3, none⟩ = some (.int .i64 b3))) (by kernel_rfl) HG (fun hHeld => ?_)
        refine wpAnyH_take (i := 0) (oi := { dst := some 49, op := Op.load 24 (Operand.tmp 10), type := 24, pos := "law.go:74", after := #[], guard := none }) (v := ?_) rfl (by kernel_rfl) (by kernel_rfl) (by kernel_rfl) (fun _ _ _ h => h) (Or.inl ⟨by rfl, ?_⟩) (by assumption) ?_
        rotate_left
        · (intro w0 hSw; (try dsimp only at hSw); go_split_ands; go_simp; with_reducible rfl)
        try simp only [Act.put, List.setIfInBounds_toArray, List.set_cons_zero, List.set_cons_succ]
        refine wpAnyH_take (i := 1) (oi := { dst := some 50, op := Op.load 24 (Operand.tmp 7), type := 24, pos := "law.go:74", after := #[], guard := none }) (v := ?_) rfl (by kernel_rfl) (by kernel_rfl) (by kernel_rfl) (fun _ _ _ h => h) (Or.inl ⟨by rfl, ?_⟩) (by assumption) ?_
        rotate_left
        · (intro w0 hSw; (try dsimp only at hSw); go_split_ands; go_simp; with_reducible rfl)
        try simp only [Act.put, List.setIfInBounds_toArray, List.set_cons_zero, List.set_cons_succ]
        refine wpAnyH_ready (rs := [2]) (by kernel_rfl) (by simp) ?_
        refine AllReadyH.cons (o := { dst := some 51, op := Op.call { callee := Callee.value (Operand.func 12), args := #[Operand.tmp 49, Operand.tmp 50], argTypes := #[24, 24] }, type := 4, pos := "law.go:74", after := #[{ on := 0, ground := Ground.data }, { on := 1, ground := Ground.data }], guard := none }) rfl (fun K hK => ?_) AllReadyH.nil
        go_simp
        go_at_call 12
        refine ((Hjx _).out).mono ?_
        rintro e v1 ⟨rfl, hb⟩
        replace F := Lib.hid (F.out.below hb rfl)
        replace G := Lib.hid (G.out.below hb rfl)
        replace Q := Lib.hid (below_step Q.out hb rfl rfl rfl rfl)
        clear hb HG
        have HG := G.out.2.2.2
        refine hK.out _ _ HG (fun hHeld => ?_)
        clear hK K
        try simp only [Act.put, List.setIfInBounds_toArray, List.set_cons_zero, List.set_cons_succ]
        refine wpAnyH_take (i := 3) (oi := { dst := some 52, op := Op.move (Operand.tmp 51), type := 4, pos := "law.go:74", after := #[{ on := 2, ground := Ground.data }, { on := 2, ground := Ground.chain }], guard := none }) (v := ?_) rfl (by kernel_rfl) (by kernel_rfl) (by kernel_rfl) (fun _ _ _ h => h) (Or.inl ⟨by rfl, ?_⟩) (by assumption) ?_
        rotate_left
        · (intro w0 hSw; (try dsimp only at hSw); go_split_ands; go_simp; with_reducible rfl)
        try simp only [Act.put, List.setIfInBounds_toArray, List.set_cons_zero, List.set_cons_succ]
        refine wpAnyH_take (i := 4) (oi := { dst := some 53, op := Op.load 24 (Operand.tmp 10), type := 24, pos := "law.go:74", after := #[{ on := 3, ground := Ground.guard }], guard := some (3, false) }) (v := ?_) rfl (by kernel_rfl) (by kernel_rfl) (by kernel_rfl) (fun _ _ _ h => h) (Or.inl ⟨by rfl, ?_⟩) (by assumption) ?_
        rotate_left
        · (intro w0 hSw; (try dsimp only at hSw); go_split_ands; go_simp; with_reducible rfl)
        try simp only [Act.put, List.setIfInBounds_toArray, List.set_cons_zero, List.set_cons_succ]
        refine wpAnyH_take (i := 5) (oi := { dst := some 54, op := Op.load 24 (Operand.tmp 8), type := 24, pos := "law.go:74", after := #[{ on := 3, ground := Ground.guard }], guard := some (3, false) }) (v := ?_) rfl (by kernel_rfl) (by kernel_rfl) (by kernel_rfl) (fun _ _ _ h => h) (Or.inl ⟨by rfl, ?_⟩) (by assumption) ?_
        rotate_left
        · (intro w0 hSw; (try dsimp only at hSw); go_split_ands; go_simp; with_reducible rfl)
        try simp only [Act.put, List.setIfInBounds_toArray, List.set_cons_zero, List.set_cons_succ]
        refine wpAnyH_ready (rs := [6]) (by kernel_rfl) (by simp) ?_
        refine AllReadyH.cons (o := { dst := some 55, op := Op.call { callee := Callee.value (Operand.func 12), args := #[Operand.tmp 53, Operand.tmp 54], argTypes := #[24, 24] }, type := 4, pos := "law.go:74", after := #[{ on := 4, ground := Ground.data }, { on := 5, ground := Ground.data }, { on := 3, ground := Ground.chain }, { on := 3, ground := Ground.guard }], guard := some (3, false) }) rfl (fun K hK => ?_) AllReadyH.nil
        go_simp
        go_at_call 12
        refine ((Hjy _).out).mono ?_
        rintro e v2 ⟨rfl, hb⟩
        replace F := Lib.hid (F.out.below hb rfl)
        replace G := Lib.hid (G.out.below hb rfl)
        replace Q := Lib.hid (below_step Q.out hb rfl rfl rfl rfl)
        clear hb HG
        have HG := G.out.2.2.2
        refine hK.out _ _ HG (fun hHeld => ?_)
        clear hK K
        try simp only [Act.put, List.setIfInBounds_toArray, List.set_cons_zero, List.set_cons_succ]
        refine wpAnyH_take (i := 7) (oi := { dst := some 56, op := Op.pick (Operand.tmp 52) (Operand.const (Value.bool true)) (Operand.tmp 55), type := 4, pos := "law.go:74", after := #[{ on := 3, ground := Ground.data }, { on := 6, ground := Ground.data }], guard := none }) (v := ?_) rfl (by kernel_rfl) (by kernel_rfl) (by kernel_rfl) (fun _ _ _ h => h) (Or.inl ⟨by rfl, ?_⟩) (by assumption) ?_
        rotate_left
        · (intro w0 hSw; (try dsimp only at hSw); go_split_ands; go_simp; with_reducible rfl)
        try simp only [Act.put, List.setIfInBounds_toArray, List.set_cons_zero, List.set_cons_succ]
        refine wpAnyH_take (i := 8) (oi := { dst := some 57, op := Op.move (Operand.tmp 56), type := 4, pos := "law.go:74", after := #[{ on := 7, ground := Ground.data }, { on := 6, ground := Ground.chain }], guard := none }) (v := ?_) rfl (by kernel_rfl) (by kernel_rfl) (by kernel_rfl) (fun _ _ _ h => h) (Or.inl ⟨by rfl, ?_⟩) (by assumption) ?_
        rotate_left
        · (intro w0 hSw; (try dsimp only at hSw); go_split_ands; go_simp; with_reducible rfl)
        try simp only [Act.put, List.setIfInBounds_toArray, List.set_cons_zero, List.set_cons_succ]
        refine wpAnyH_take (i := 9) (oi := { dst := some 58, op := Op.load 24 (Operand.tmp 10), type := 24, pos := "law.go:74", after := #[{ on := 8, ground := Ground.guard }], guard := some (8, false) }) (v := ?_) rfl (by kernel_rfl) (by kernel_rfl) (by kernel_rfl) (fun _ _ _ h => h) (Or.inl ⟨by rfl, ?_⟩) (by assumption) ?_
        rotate_left
        · (intro w0 hSw; (try dsimp only at hSw); go_split_ands; go_simp; with_reducible rfl)
        try simp only [Act.put, List.setIfInBounds_toArray, List.set_cons_zero, List.set_cons_succ]
        refine wpAnyH_take (i := 10) (oi := { dst := some 59, op := Op.load 24 (Operand.tmp 7), type := 24, pos := "law.go:74", after := #[{ on := 8, ground := Ground.guard }], guard := some (8, false) }) (v := ?_) rfl (by kernel_rfl) (by kernel_rfl) (by kernel_rfl) (fun _ _ _ h => h) (Or.inl ⟨by rfl, ?_⟩) (by assumption) ?_
        rotate_left
        · (intro w0 hSw; (try dsimp only at hSw); go_split_ands; go_simp; with_reducible rfl)
        try simp only [Act.put, List.setIfInBounds_toArray, List.set_cons_zero, List.set_cons_succ]
        refine wpAnyH_take (i := 11) (oi := { dst := some 60, op := Op.binOp BinOp.neq 24 (Operand.tmp 58) (Operand.tmp 59) 24, type := 4, pos := "law.go:74", after := #[{ on := 9, ground := Ground.data }, { on := 10, ground := Ground.data }, { on := 8, ground := Ground.guard }], guard := some (8, false) }) (v := ?_) rfl (by kernel_rfl) (by kernel_rfl) (by kernel_rfl) (fun _ _ _ h => h) (Or.inl ⟨by rfl, ?_⟩) (by assumption) ?_
        rotate_left
        · (intro w0 hSw; (try dsimp only at hSw); go_split_ands; go_simp; with_reducible rfl)
        try simp only [Act.put, List.setIfInBounds_toArray, List.set_cons_zero, List.set_cons_succ]
        refine wpAnyH_take (i := 12) (oi := { dst := some 61, op := Op.move (Operand.tmp 60), type := 4, pos := "law.go:74", after := #[{ on := 11, ground := Ground.data }, { on := 8, ground := Ground.chain }, { on := 8, ground := Ground.guard }], guard := some (8, false) }) (v := ?_) rfl (by kernel_rfl) (by kernel_rfl) (by kernel_rfl) (fun _ _ _ h => h) (Or.inl ⟨by rfl, ?_⟩) (by assumption) ?_
        rotate_left
        · (intro w0 hSw; (try dsimp only at hSw); go_split_ands; go_simp; with_reducible rfl)
        try simp only [Act.put, List.setIfInBounds_toArray, List.set_cons_zero, List.set_cons_succ]
        refine wpAnyH_take (i := 13) (oi := { dst := some 62, op := Op.load 24 (Operand.tmp 7), type := 24, pos := "law.go:74", after := #[{ on := 12, ground := Ground.guard }], guard := some (12, true) }) (v := ?_) rfl (by kernel_rfl) (by kernel_rfl) (by kernel_rfl) (fun _ _ _ h => h) (Or.inl ⟨by rfl, ?_⟩) (by assumption) ?_
        rotate_left
        · (intro w0 hSw; (try dsimp only at hSw); go_split_ands; go_simp; with_reducible rfl)
        try simp only [Act.put, List.setIfInBounds_toArray, List.set_cons_zero, List.set_cons_succ]
        refine wpAnyH_take (i := 14) (oi := { dst := some 63, op := Op.load 24 (Operand.tmp 10), type := 24, pos := "law.go:74", after := #[{ on := 12, ground := Ground.guard }], guard := some (12, true) }) (v := ?_) rfl (by kernel_rfl) (by kernel_rfl) (by kernel_rfl) (fun _ _ _ h => h) (Or.inl ⟨by rfl, ?_⟩) (by assumption) ?_
        rotate_left
        · (intro w0 hSw; (try dsimp only at hSw); go_split_ands; go_simp; with_reducible rfl)
        try simp only [Act.put, List.setIfInBounds_toArray, List.set_cons_zero, List.set_cons_succ]
        refine wpAnyH_ready (rs := [15]) (by kernel_rfl) (by simp) ?_
        refine AllReadyH.cons (o := { dst := some 64, op := Op.call { callee := Callee.value (Operand.func 12), args := #[Operand.tmp 62, Operand.tmp 63], argTypes := #[24, 24] }, type := 4, pos := "law.go:74", after := #[{ on := 13, ground := Ground.data }, { on := 14, ground := Ground.data }, { on := 12, ground := Ground.chain }, { on := 12, ground := Ground.guard }], guard := some (12, true) }) rfl (fun K hK => ?_) AllReadyH.nil
        go_simp
        go_at_call 12
        refine ((Hxj _).out).mono ?_
        rintro e v3 ⟨rfl, hb⟩
        replace F := Lib.hid (F.out.below hb rfl)
        replace G := Lib.hid (G.out.below hb rfl)
        replace Q := Lib.hid (below_step Q.out hb rfl rfl rfl rfl)
        clear hb HG
        have HG := G.out.2.2.2
        refine hK.out _ _ HG (fun hHeld => ?_)
        clear hK K
        try simp only [Act.put, List.setIfInBounds_toArray, List.set_cons_zero, List.set_cons_succ]
        refine wpAnyH_take (i := 16) (oi := { dst := some 65, op := Op.unOp UnOp.not 4 (Operand.tmp 64), type := 4, pos := "law.go:74", after := #[{ on := 15, ground := Ground.data }, { on := 12, ground := Ground.guard }], guard := some (12, true) }) (v := ?_) rfl (by kernel_rfl) (by kernel_rfl) (by kernel_rfl) (fun _ _ _ h => h) (Or.inl ⟨by rfl, ?_⟩) (by assumption) ?_
        rotate_left
        · (intro w0 hSw; (try dsimp only at hSw); go_split_ands; go_simp; with_reducible rfl)
        try simp only [Act.put, List.setIfInBounds_toArray, List.set_cons_zero, List.set_cons_succ]
        refine wpAnyH_take (i := 17) (oi := { dst := some 66, op := Op.pick (Operand.tmp 61) (Operand.tmp 65) (Operand.const (Value.bool false)), type := 4, pos := "law.go:74", after := #[{ on := 12, ground := Ground.data }, { on := 16, ground := Ground.data }, { on := 8, ground := Ground.guard }], guard := some (8, false) }) (v := ?_) rfl (by kernel_rfl) (by kernel_rfl) (by kernel_rfl) (fun _ _ _ h => h) (Or.inl ⟨by rfl, ?_⟩) (by assumption) ?_
        rotate_left
        · (intro w0 hSw; (try dsimp only at hSw); go_split_ands; go_simp; with_reducible rfl)
        try simp only [Act.put, List.setIfInBounds_toArray, List.set_cons_zero, List.set_cons_succ]
        refine wpAnyH_take (i := 18) (oi := { dst := some 67, op := Op.pick (Operand.tmp 57) (Operand.const (Value.bool true)) (Operand.tmp 66), type := 4, pos := "law.go:74", after := #[{ on := 8, ground := Ground.data }, { on := 17, ground := Ground.data }], guard := none }) (v := ?_) rfl (by kernel_rfl) (by kernel_rfl) (by kernel_rfl) (fun _ _ _ h => h) (Or.inl ⟨by rfl, ?_⟩) (by assumption) ?_
        rotate_left
        · (intro w0 hSw; (try dsimp only at hSw); go_split_ands; go_simp; with_reducible rfl)
        try simp only [Act.put, List.setIfInBounds_toArray, List.set_cons_zero, List.set_cons_succ]
        refine wpAnyH_take (i := 19) (oi := { dst := some 68, op := Op.move (Operand.tmp 67), type := 4, pos := "law.go:74", after := #[{ on := 18, ground := Ground.data }, { on := 15, ground := Ground.chain }], guard := none }) (v := ?_) rfl (by kernel_rfl) (by kernel_rfl) (by kernel_rfl) (fun _ _ _ h => h) (Or.inl ⟨by rfl, ?_⟩) (by assumption) ?_
        rotate_left
        · (intro w0 hSw; (try dsimp only at hSw); go_split_ands; go_simp; with_reducible rfl)
        try simp only [Act.put, List.setIfInBounds_toArray, List.set_cons_zero, List.set_cons_succ]
        refine wpAnyH_take (i := 20) (oi := { dst := some 69, op := Op.load 24 (Operand.tmp 10), type := 24, pos := "law.go:74", after := #[{ on := 19, ground := Ground.guard }], guard := some (19, false) }) (v := ?_) rfl (by kernel_rfl) (by kernel_rfl) (by kernel_rfl) (fun _ _ _ h => h) (Or.inl ⟨by rfl, ?_⟩) (by assumption) ?_
        rotate_left
        · (intro w0 hSw; (try dsimp only at hSw); go_split_ands; go_simp; with_reducible rfl)
        try simp only [Act.put, List.setIfInBounds_toArray, List.set_cons_zero, List.set_cons_succ]
        refine wpAnyH_take (i := 21) (oi := { dst := some 70, op := Op.load 24 (Operand.tmp 8), type := 24, pos := "law.go:74", after := #[{ on := 19, ground := Ground.guard }], guard := some (19, false) }) (v := ?_) rfl (by kernel_rfl) (by kernel_rfl) (by kernel_rfl) (fun _ _ _ h => h) (Or.inl ⟨by rfl, ?_⟩) (by assumption) ?_
        rotate_left
        · (intro w0 hSw; (try dsimp only at hSw); go_split_ands; go_simp; with_reducible rfl)
        try simp only [Act.put, List.setIfInBounds_toArray, List.set_cons_zero, List.set_cons_succ]
        refine wpAnyH_take (i := 22) (oi := { dst := some 71, op := Op.load 24 (Operand.tmp 7), type := 24, pos := "law.go:74", after := #[{ on := 19, ground := Ground.guard }], guard := some (19, false) }) (v := ?_) rfl (by kernel_rfl) (by kernel_rfl) (by kernel_rfl) (fun _ _ _ h => h) (Or.inl ⟨by rfl, ?_⟩) (by assumption) ?_
        rotate_left
        · (intro w0 hSw; (try dsimp only at hSw); go_split_ands; go_simp; with_reducible rfl)
        try simp only [Act.put, List.setIfInBounds_toArray, List.set_cons_zero, List.set_cons_succ]
        refine wpAnyH_ready (rs := [23]) (by kernel_rfl) (by simp) ?_
        refine AllReadyH.cons (o := { dst := some 72, op := Op.call { callee := Callee.value (Operand.func 8), args := #[Operand.tmp 70, Operand.tmp 71], argTypes := #[24, 24] }, type := 24, pos := "law.go:74", after := #[{ on := 21, ground := Ground.data }, { on := 22, ground := Ground.data }, { on := 19, ground := Ground.chain }, { on := 19, ground := Ground.guard }], guard := some (19, false) }) rfl (fun K hK => ?_) AllReadyH.nil
        go_simp
        go_at_call 8
        refine ((HJ2 _).out).mono ?_
        rintro e v4 ⟨rfl, hb⟩
        replace F := Lib.hid (F.out.below hb rfl)
        replace G := Lib.hid (G.out.below hb rfl)
        replace Q := Lib.hid (below_step Q.out hb rfl rfl rfl rfl)
        clear hb HG
        have HG := G.out.2.2.2
        refine hK.out _ _ HG (fun hHeld => ?_)
        clear hK K
        try simp only [Act.put, List.setIfInBounds_toArray, List.set_cons_zero, List.set_cons_succ]
        have em := EM.out
        refine wpAnyH_take (i := 24) (oi := { dst := some 73, op := Op.binOp BinOp.neq 24 (Operand.tmp 69) (Operand.tmp 72) 24, type := 4, pos := "law.go:74", after := #[{ on := 20, ground := Ground.data }, { on := 23, ground := Ground.data }, { on := 19, ground := Ground.guard }], guard := some (19, false) }) (v := ?_) rfl (by kernel_rfl) (by kernel_rfl) (by kernel_rfl) (fun _ _ _ h => h) (Or.inl ⟨by rfl, ?_⟩) (by assumption) ?_
        rotate_left
        · (intro w0 hSw; (try dsimp only at hSw); go_split_ands; go_simp; with_reducible rfl)
        try simp only [Act.put, List.setIfInBounds_toArray, List.set_cons_zero, List.set_cons_succ]
        refine wpAnyH_take (i := 25) (oi := { dst := some 74, op := Op.pick (Operand.tmp 68) (Operand.const (Value.bool true)) (Operand.tmp 73), type := 4, pos := "law.go:74", after := #[{ on := 19, ground := Ground.data }, { on := 24, ground := Ground.data }], guard := none }) (v := ?_) rfl (by kernel_rfl) (by kernel_rfl) (by kernel_rfl) (fun _ _ _ h => h) (Or.inl ⟨by rfl, ?_⟩) (by assumption) ?_
        rotate_left
        · (intro w0 hSw; (try dsimp only at hSw); go_split_ands; go_simp; with_reducible rfl)
        try simp only [Act.put, List.setIfInBounds_toArray, List.set_cons_zero, List.set_cons_succ]
        refine wpAnyH_done (by kernel_rfl) ?_ _
        clear em hHeld
        go_wp2_with fail
        go_meet
        case rel => exact ⟨rfl, F.out, G.out, Q.out⟩
      · refine wp_region_held_drew (S := (fun w' => w'.cell? ⟨g, 0, none⟩ = some (.int .i64 m0) ∧ w'.cell? ⟨g, 1, none⟩ = some (.int .i64 m1) ∧ w'.cell? ⟨g, 2, none⟩ = some (.int .i64 m2) ∧ w'.cell? ⟨g, 3, none⟩ = some (.int .i64 m3) ∧ w'.cell? ⟨d, 0, none⟩ = some (.int .i64 a0) ∧ w'.cell? ⟨d, 1, none⟩ = some (.int .i64 a1) ∧ w'.cell? ⟨d, 2, none⟩ = some (.int .i64 a2) ∧ w'.cell? ⟨d, 3, none⟩ = some (.int .i64 a3) ∧ w'.cell? ⟨e, 0, none⟩ = some (.int .i64 b0) ∧ w'.cell? ⟨e, 1, none⟩ = some (.int .i64 b1) ∧ w'.cell? ⟨e, 2, none⟩ = some (.int .i64 b2) ∧ w'.cell? ⟨e, 3, none⟩ = some (.int .i64 b3))) (by kernel_rfl) HG (fun hHeld => ?_)
        refine wpAnyH_take (i := 0) (oi := { dst := some 49, op := Op.load 24 (Operand.tmp 10), type := 24, pos := "law.go:74", after := #[], guard := none }) (v := ?_) rfl (by kernel_rfl) (by kernel_rfl) (by kernel_rfl) (fun _ _ _ h => h) (Or.inl ⟨by rfl, ?_⟩) (by assumption) ?_
        rotate_left
        · (intro w0 hSw; (try dsimp only at hSw); go_split_ands; go_simp; with_reducible rfl)
        try simp only [Act.put, List.setIfInBounds_toArray, List.set_cons_zero, List.set_cons_succ]
        refine wpAnyH_take (i := 1) (oi := { dst := some 50, op := Op.load 24 (Operand.tmp 7), type := 24, pos := "law.go:74", after := #[], guard := none }) (v := ?_) rfl (by kernel_rfl) (by kernel_rfl) (by kernel_rfl) (fun _ _ _ h => h) (Or.inl ⟨by rfl, ?_⟩) (by assumption) ?_
        rotate_left
        · (intro w0 hSw; (try dsimp only at hSw); go_split_ands; go_simp; with_reducible rfl)
        try simp only [Act.put, List.setIfInBounds_toArray, List.set_cons_zero, List.set_cons_succ]
        refine wpAnyH_ready (rs := [2]) (by kernel_rfl) (by simp) ?_
        refine AllReadyH.cons (o := { dst := some 51, op := Op.call { callee := Callee.value (Operand.func 12), args := #[Operand.tmp 49, Operand.tmp 50], argTypes := #[24, 24] }, type := 4, pos := "law.go:74", after := #[{ on := 0, ground := Ground.data }, { on := 1, ground := Ground.data }], guard := none }) rfl (fun K hK => ?_) AllReadyH.nil
        go_simp
        go_at_call 12
        refine ((Hjx _).out).mono ?_
        rintro e v1 ⟨rfl, hb⟩
        replace F := Lib.hid (F.out.below hb rfl)
        replace G := Lib.hid (G.out.below hb rfl)
        replace Q := Lib.hid (below_step Q.out hb rfl rfl rfl rfl)
        clear hb HG
        have HG := G.out.2.2.2
        refine hK.out _ _ HG (fun hHeld => ?_)
        clear hK K
        try simp only [Act.put, List.setIfInBounds_toArray, List.set_cons_zero, List.set_cons_succ]
        refine wpAnyH_take (i := 3) (oi := { dst := some 52, op := Op.move (Operand.tmp 51), type := 4, pos := "law.go:74", after := #[{ on := 2, ground := Ground.data }, { on := 2, ground := Ground.chain }], guard := none }) (v := ?_) rfl (by kernel_rfl) (by kernel_rfl) (by kernel_rfl) (fun _ _ _ h => h) (Or.inl ⟨by rfl, ?_⟩) (by assumption) ?_
        rotate_left
        · (intro w0 hSw; (try dsimp only at hSw); go_split_ands; go_simp; with_reducible rfl)
        try simp only [Act.put, List.setIfInBounds_toArray, List.set_cons_zero, List.set_cons_succ]
        refine wpAnyH_take (i := 4) (oi := { dst := some 53, op := Op.load 24 (Operand.tmp 10), type := 24, pos := "law.go:74", after := #[{ on := 3, ground := Ground.guard }], guard := some (3, false) }) (v := ?_) rfl (by kernel_rfl) (by kernel_rfl) (by kernel_rfl) (fun _ _ _ h => h) (Or.inl ⟨by rfl, ?_⟩) (by assumption) ?_
        rotate_left
        · (intro w0 hSw; (try dsimp only at hSw); go_split_ands; go_simp; with_reducible rfl)
        try simp only [Act.put, List.setIfInBounds_toArray, List.set_cons_zero, List.set_cons_succ]
        refine wpAnyH_take (i := 5) (oi := { dst := some 54, op := Op.load 24 (Operand.tmp 8), type := 24, pos := "law.go:74", after := #[{ on := 3, ground := Ground.guard }], guard := some (3, false) }) (v := ?_) rfl (by kernel_rfl) (by kernel_rfl) (by kernel_rfl) (fun _ _ _ h => h) (Or.inl ⟨by rfl, ?_⟩) (by assumption) ?_
        rotate_left
        · (intro w0 hSw; (try dsimp only at hSw); go_split_ands; go_simp; with_reducible rfl)
        try simp only [Act.put, List.setIfInBounds_toArray, List.set_cons_zero, List.set_cons_succ]
        refine wpAnyH_ready (rs := [6]) (by kernel_rfl) (by simp) ?_
        refine AllReadyH.cons (o := { dst := some 55, op := Op.call { callee := Callee.value (Operand.func 12), args := #[Operand.tmp 53, Operand.tmp 54], argTypes := #[24, 24] }, type := 4, pos := "law.go:74", after := #[{ on := 4, ground := Ground.data }, { on := 5, ground := Ground.data }, { on := 3, ground := Ground.chain }, { on := 3, ground := Ground.guard }], guard := some (3, false) }) rfl (fun K hK => ?_) AllReadyH.nil
        go_simp
        go_at_call 12
        refine ((Hjy _).out).mono ?_
        rintro e v2 ⟨rfl, hb⟩
        replace F := Lib.hid (F.out.below hb rfl)
        replace G := Lib.hid (G.out.below hb rfl)
        replace Q := Lib.hid (below_step Q.out hb rfl rfl rfl rfl)
        clear hb HG
        have HG := G.out.2.2.2
        refine hK.out _ _ HG (fun hHeld => ?_)
        clear hK K
        try simp only [Act.put, List.setIfInBounds_toArray, List.set_cons_zero, List.set_cons_succ]
        refine wpAnyH_take (i := 7) (oi := { dst := some 56, op := Op.pick (Operand.tmp 52) (Operand.const (Value.bool true)) (Operand.tmp 55), type := 4, pos := "law.go:74", after := #[{ on := 3, ground := Ground.data }, { on := 6, ground := Ground.data }], guard := none }) (v := ?_) rfl (by kernel_rfl) (by kernel_rfl) (by kernel_rfl) (fun _ _ _ h => h) (Or.inl ⟨by rfl, ?_⟩) (by assumption) ?_
        rotate_left
        · (intro w0 hSw; (try dsimp only at hSw); go_split_ands; go_simp; with_reducible rfl)
        try simp only [Act.put, List.setIfInBounds_toArray, List.set_cons_zero, List.set_cons_succ]
        refine wpAnyH_take (i := 8) (oi := { dst := some 57, op := Op.move (Operand.tmp 56), type := 4, pos := "law.go:74", after := #[{ on := 7, ground := Ground.data }, { on := 6, ground := Ground.chain }], guard := none }) (v := ?_) rfl (by kernel_rfl) (by kernel_rfl) (by kernel_rfl) (fun _ _ _ h => h) (Or.inl ⟨by rfl, ?_⟩) (by assumption) ?_
        rotate_left
        · (intro w0 hSw; (try dsimp only at hSw); go_split_ands; go_simp; with_reducible rfl)
        try simp only [Act.put, List.setIfInBounds_toArray, List.set_cons_zero, List.set_cons_succ]
        refine wpAnyH_take (i := 9) (oi := { dst := some 58, op := Op.load 24 (Operand.tmp 10), type := 24, pos := "law.go:74", after := #[{ on := 8, ground := Ground.guard }], guard := some (8, false) }) (v := ?_) rfl (by kernel_rfl) (by kernel_rfl) (by kernel_rfl) (fun _ _ _ h => h) (Or.inl ⟨by rfl, ?_⟩) (by assumption) ?_
        rotate_left
        · (intro w0 hSw; (try dsimp only at hSw); go_split_ands; go_simp; with_reducible rfl)
        try simp only [Act.put, List.setIfInBounds_toArray, List.set_cons_zero, List.set_cons_succ]
        refine wpAnyH_take (i := 10) (oi := { dst := some 59, op := Op.load 24 (Operand.tmp 7), type := 24, pos := "law.go:74", after := #[{ on := 8, ground := Ground.guard }], guard := some (8, false) }) (v := ?_) rfl (by kernel_rfl) (by kernel_rfl) (by kernel_rfl) (fun _ _ _ h => h) (Or.inl ⟨by rfl, ?_⟩) (by assumption) ?_
        rotate_left
        · (intro w0 hSw; (try dsimp only at hSw); go_split_ands; go_simp; with_reducible rfl)
        try simp only [Act.put, List.setIfInBounds_toArray, List.set_cons_zero, List.set_cons_succ]
        refine wpAnyH_take (i := 11) (oi := { dst := some 60, op := Op.binOp BinOp.neq 24 (Operand.tmp 58) (Operand.tmp 59) 24, type := 4, pos := "law.go:74", after := #[{ on := 9, ground := Ground.data }, { on := 10, ground := Ground.data }, { on := 8, ground := Ground.guard }], guard := some (8, false) }) (v := ?_) rfl (by kernel_rfl) (by kernel_rfl) (by kernel_rfl) (fun _ _ _ h => h) (Or.inl ⟨by rfl, ?_⟩) (by assumption) ?_
        rotate_left
        · (intro w0 hSw; (try dsimp only at hSw); go_split_ands; go_simp; with_reducible rfl)
        try simp only [Act.put, List.setIfInBounds_toArray, List.set_cons_zero, List.set_cons_succ]
        refine wpAnyH_take (i := 12) (oi := { dst := some 61, op := Op.move (Operand.tmp 60), type := 4, pos := "law.go:74", after := #[{ on := 11, ground := Ground.data }, { on := 8, ground := Ground.chain }, { on := 8, ground := Ground.guard }], guard := some (8, false) }) (v := ?_) rfl (by kernel_rfl) (by kernel_rfl) (by kernel_rfl) (fun _ _ _ h => h) (Or.inl ⟨by rfl, ?_⟩) (by assumption) ?_
        rotate_left
        · (intro w0 hSw; (try dsimp only at hSw); go_split_ands; go_simp; with_reducible rfl)
        try simp only [Act.put, List.setIfInBounds_toArray, List.set_cons_zero, List.set_cons_succ]
        refine wpAnyH_take (i := 13) (oi := { dst := some 62, op := Op.load 24 (Operand.tmp 7), type := 24, pos := "law.go:74", after := #[{ on := 12, ground := Ground.guard }], guard := some (12, true) }) (v := undef) rfl (by kernel_rfl) (by kernel_rfl) (by kernel_rfl) (fun _ _ _ h => h) (Or.inr ⟨by rfl, rfl⟩) (by assumption) ?_
        try simp only [Act.put, List.setIfInBounds_toArray, List.set_cons_zero, List.set_cons_succ]
        refine wpAnyH_take (i := 14) (oi := { dst := some 63, op := Op.load 24 (Operand.tmp 10), type := 24, pos := "law.go:74", after := #[{ on := 12, ground := Ground.guard }], guard := some (12, true) }) (v := undef) rfl (by kernel_rfl) (by kernel_rfl) (by kernel_rfl) (fun _ _ _ h => h) (Or.inr ⟨by rfl, rfl⟩) (by assumption) ?_
        try simp only [Act.put, List.setIfInBounds_toArray, List.set_cons_zero, List.set_cons_succ]
        refine wpAnyH_take (i := 15) (oi := { dst := some 64, op := Op.call { callee := Callee.value (Operand.func 12), args := #[Operand.tmp 62, Operand.tmp 63], argTypes := #[24, 24] }, type := 4, pos := "law.go:74", after := #[{ on := 13, ground := Ground.data }, { on := 14, ground := Ground.data }, { on := 12, ground := Ground.chain }, { on := 12, ground := Ground.guard }], guard := some (12, true) }) (v := undef) rfl (by kernel_rfl) (by kernel_rfl) (by kernel_rfl) (fun _ _ _ h => h) (Or.inr ⟨by rfl, rfl⟩) (by assumption) ?_
        try simp only [Act.put, List.setIfInBounds_toArray, List.set_cons_zero, List.set_cons_succ]
        refine wpAnyH_take (i := 16) (oi := { dst := some 65, op := Op.unOp UnOp.not 4 (Operand.tmp 64), type := 4, pos := "law.go:74", after := #[{ on := 15, ground := Ground.data }, { on := 12, ground := Ground.guard }], guard := some (12, true) }) (v := undef) rfl (by kernel_rfl) (by kernel_rfl) (by kernel_rfl) (fun _ _ _ h => h) (Or.inr ⟨by rfl, rfl⟩) (by assumption) ?_
        try simp only [Act.put, List.setIfInBounds_toArray, List.set_cons_zero, List.set_cons_succ]
        refine wpAnyH_take (i := 17) (oi := { dst := some 66, op := Op.pick (Operand.tmp 61) (Operand.tmp 65) (Operand.const (Value.bool false)), type := 4, pos := "law.go:74", after := #[{ on := 12, ground := Ground.data }, { on := 16, ground := Ground.data }, { on := 8, ground := Ground.guard }], guard := some (8, false) }) (v := ?_) rfl (by kernel_rfl) (by kernel_rfl) (by kernel_rfl) (fun _ _ _ h => h) (Or.inl ⟨by rfl, ?_⟩) (by assumption) ?_
        rotate_left
        · (intro w0 hSw; (try dsimp only at hSw); go_split_ands; go_simp; with_reducible rfl)
        try simp only [Act.put, List.setIfInBounds_toArray, List.set_cons_zero, List.set_cons_succ]
        refine wpAnyH_take (i := 18) (oi := { dst := some 67, op := Op.pick (Operand.tmp 57) (Operand.const (Value.bool true)) (Operand.tmp 66), type := 4, pos := "law.go:74", after := #[{ on := 8, ground := Ground.data }, { on := 17, ground := Ground.data }], guard := none }) (v := ?_) rfl (by kernel_rfl) (by kernel_rfl) (by kernel_rfl) (fun _ _ _ h => h) (Or.inl ⟨by rfl, ?_⟩) (by assumption) ?_
        rotate_left
        · (intro w0 hSw; (try dsimp only at hSw); go_split_ands; go_simp; with_reducible rfl)
        try simp only [Act.put, List.setIfInBounds_toArray, List.set_cons_zero, List.set_cons_succ]
        refine wpAnyH_take (i := 19) (oi := { dst := some 68, op := Op.move (Operand.tmp 67), type := 4, pos := "law.go:74", after := #[{ on := 18, ground := Ground.data }, { on := 15, ground := Ground.chain }], guard := none }) (v := ?_) rfl (by kernel_rfl) (by kernel_rfl) (by kernel_rfl) (fun _ _ _ h => h) (Or.inl ⟨by rfl, ?_⟩) (by assumption) ?_
        rotate_left
        · (intro w0 hSw; (try dsimp only at hSw); go_split_ands; go_simp; with_reducible rfl)
        try simp only [Act.put, List.setIfInBounds_toArray, List.set_cons_zero, List.set_cons_succ]
        refine wpAnyH_take (i := 20) (oi := { dst := some 69, op := Op.load 24 (Operand.tmp 10), type := 24, pos := "law.go:74", after := #[{ on := 19, ground := Ground.guard }], guard := some (19, false) }) (v := ?_) rfl (by kernel_rfl) (by kernel_rfl) (by kernel_rfl) (fun _ _ _ h => h) (Or.inl ⟨by rfl, ?_⟩) (by assumption) ?_
        rotate_left
        · (intro w0 hSw; (try dsimp only at hSw); go_split_ands; go_simp; with_reducible rfl)
        try simp only [Act.put, List.setIfInBounds_toArray, List.set_cons_zero, List.set_cons_succ]
        refine wpAnyH_take (i := 21) (oi := { dst := some 70, op := Op.load 24 (Operand.tmp 8), type := 24, pos := "law.go:74", after := #[{ on := 19, ground := Ground.guard }], guard := some (19, false) }) (v := ?_) rfl (by kernel_rfl) (by kernel_rfl) (by kernel_rfl) (fun _ _ _ h => h) (Or.inl ⟨by rfl, ?_⟩) (by assumption) ?_
        rotate_left
        · (intro w0 hSw; (try dsimp only at hSw); go_split_ands; go_simp; with_reducible rfl)
        try simp only [Act.put, List.setIfInBounds_toArray, List.set_cons_zero, List.set_cons_succ]
        refine wpAnyH_take (i := 22) (oi := { dst := some 71, op := Op.load 24 (Operand.tmp 7), type := 24, pos := "law.go:74", after := #[{ on := 19, ground := Ground.guard }], guard := some (19, false) }) (v := ?_) rfl (by kernel_rfl) (by kernel_rfl) (by kernel_rfl) (fun _ _ _ h => h) (Or.inl ⟨by rfl, ?_⟩) (by assumption) ?_
        rotate_left
        · (intro w0 hSw; (try dsimp only at hSw); go_split_ands; go_simp; with_reducible rfl)
        try simp only [Act.put, List.setIfInBounds_toArray, List.set_cons_zero, List.set_cons_succ]
        refine wpAnyH_ready (rs := [23]) (by kernel_rfl) (by simp) ?_
        refine AllReadyH.cons (o := { dst := some 72, op := Op.call { callee := Callee.value (Operand.func 8), args := #[Operand.tmp 70, Operand.tmp 71], argTypes := #[24, 24] }, type := 24, pos := "law.go:74", after := #[{ on := 21, ground := Ground.data }, { on := 22, ground := Ground.data }, { on := 19, ground := Ground.chain }, { on := 19, ground := Ground.guard }], guard := some (19, false) }) rfl (fun K hK => ?_) AllReadyH.nil
        go_simp
        go_at_call 8
        refine ((HJ2 _).out).mono ?_
        rintro e v3 ⟨rfl, hb⟩
        replace F := Lib.hid (F.out.below hb rfl)
        replace G := Lib.hid (G.out.below hb rfl)
        replace Q := Lib.hid (below_step Q.out hb rfl rfl rfl rfl)
        clear hb HG
        have HG := G.out.2.2.2
        refine hK.out _ _ HG (fun hHeld => ?_)
        clear hK K
        try simp only [Act.put, List.setIfInBounds_toArray, List.set_cons_zero, List.set_cons_succ]
        have em := EM.out
        refine wpAnyH_take (i := 24) (oi := { dst := some 73, op := Op.binOp BinOp.neq 24 (Operand.tmp 69) (Operand.tmp 72) 24, type := 4, pos := "law.go:74", after := #[{ on := 20, ground := Ground.data }, { on := 23, ground := Ground.data }, { on := 19, ground := Ground.guard }], guard := some (19, false) }) (v := ?_) rfl (by kernel_rfl) (by kernel_rfl) (by kernel_rfl) (fun _ _ _ h => h) (Or.inl ⟨by rfl, ?_⟩) (by assumption) ?_
        rotate_left
        · (intro w0 hSw; (try dsimp only at hSw); go_split_ands; go_simp; with_reducible rfl)
        try simp only [Act.put, List.setIfInBounds_toArray, List.set_cons_zero, List.set_cons_succ]
        refine wpAnyH_take (i := 25) (oi := { dst := some 74, op := Op.pick (Operand.tmp 68) (Operand.const (Value.bool true)) (Operand.tmp 73), type := 4, pos := "law.go:74", after := #[{ on := 19, ground := Ground.data }, { on := 24, ground := Ground.data }], guard := none }) (v := ?_) rfl (by kernel_rfl) (by kernel_rfl) (by kernel_rfl) (fun _ _ _ h => h) (Or.inl ⟨by rfl, ?_⟩) (by assumption) ?_
        rotate_left
        · (intro w0 hSw; (try dsimp only at hSw); go_split_ands; go_simp; with_reducible rfl)
        try simp only [Act.put, List.setIfInBounds_toArray, List.set_cons_zero, List.set_cons_succ]
        refine wpAnyH_done (by kernel_rfl) ?_ _
        clear em hHeld
        go_wp2_with fail
        go_meet
        case rel => exact ⟨rfl, F.out, G.out, Q.out⟩
    case rest =>
      obtain ⟨rfl, hF, hG, hQ⟩ := hcut
      clear F G Q
      have F := Lib.hid hF
      have G := Lib.hid hG
      have Q := Lib.hid hQ
      clear hF hG hQ Hjx Hjy Hxj HJ2 NXJ
      go_upto_region 11 with (fail)
      obtain ⟨up, hup⟩ : ∃ up, ((eqB c0 c1 c2 c3 a0 a1 a2 a3 || r) && (eqB c0 c1 c2 c3 b0 b1 b2 b3 || q)) = up := ⟨_, rfl⟩
      have HUP := Lib.hid hup
      clear hup
      go_cut [11] (fun s wx => s = .bool up ∧ Three d e f a0 a1 a2 a3 b0 b1 b2 b3 c0 c1 c2 c3 wx ∧ Three g d e m0 m1 m2 m3 a0 a1 a2 a3 b0 b1 b2 b3 wx ∧ Below w.heap.size w wx)
      case first =>
        obtain ⟨l0, l1, l2, x0, x1, x2, x3, x4, x5, x6, x7, x8, x9, x10, x11⟩ := F.out
        clear HP HQ HR NUP Hjz
        cases e2 : eqB c0 c1 c2 c3 a0 a1 a2 a3 <;> cases e3 : eqB c0 c1 c2 c3 b0 b1 b2 b3 <;> cases r <;> cases q
        all_goals
          have HU : Hid (up = _) := Lib.hid (by rw [← HUP.out, e2, e3])
          go_wp2_with (first | (go_at_call 12; (first | (with_reducible refine (Hxz _).out.mono ?_) | (with_reducible refine (Hyz _).out.mono ?_)); rintro e w' ⟨rfl, hb⟩; replace F := Lib.hid (F.out.below hb rfl); replace Q := Lib.hid (below_step Q.out hb rfl rfl rfl rfl); replace G := Lib.hid (G.out.below hb rfl); clear hb l0 l1 l2 x0 x1 x2 x3 x4 x5 x6 x7 x8 x9 x10 x11; obtain ⟨l0, l1, l2, x0, x1, x2, x3, x4, x5, x6, x7, x8, x9, x10, x11⟩ := F.out))
          go_meet
          case rel => exact ⟨congrArg Value.bool HU.out.symm, F.out, G.out, Q.out⟩
      case rest =>
        obtain ⟨rfl, hF, hG, hQ⟩ := hcut
        clear F G Q
        have F := Lib.hid hF
        have G := Lib.hid hG
        have Q := Lib.hid hQ
        have hg := hG.1
        obtain ⟨z0, z1, z2, z3⟩ : wc.cell? ⟨g, 0, none⟩ = some (.int .i64 m0) ∧ wc.cell? ⟨g, 1, none⟩ = some (.int .i64 m1) ∧ wc.cell? ⟨g, 2, none⟩ = some (.int .i64 m2) ∧ wc.cell? ⟨g, 3, none⟩ = some (.int .i64 m3) := ⟨hG.2.2.2.1, hG.2.2.2.2.1, hG.2.2.2.2.2.1, hG.2.2.2.2.2.2.1⟩
        clear hF hG hQ
        obtain ⟨l0, l1, l2, x0, x1, x2, x3, x4, x5, x6, x7, x8, x9, x10, x11⟩ := F.out
        cases up
        · go_wp2
          go_ret
          exact ⟨rfl, Q.out⟩
        · have hup := HUP.out
          rw [Bool.and_eq_true] at hup
          have h4 := NUP.out hup.1 hup.2
          clear hup
          cases e4 : eqB c0 c1 c2 c3 m0 m1 m2 m3
          · have h5 : bfB m0 m1 m2 m3 c0 c1 c2 c3 = true := by
              rcases h4 with h4 | h4
              · rw [e4] at h4; cases h4
              · exact h4
            rw [h5] at Hjz
            clear h4 h5
            go_wp2_with fail
            refine (Hjz _).out.mono ?_
            rintro e9 w9 ⟨rfl, hb⟩
            have Q9 := Lib.hid (below_step Q.out hb rfl rfl rfl rfl)
            clear hb
            go_wp2
            go_ret
            exact ⟨rfl, Q9.out⟩
          · clear h4
            go_wp2
            go_ret
            exact ⟨rfl, Q.out⟩
end Go.Proofs.Ytnmgafaebggeiaa
