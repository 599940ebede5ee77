import Derived.Test.YtapcapcbndooiaaRows
import Derived.WalkKit
import Derived.ProofKit
import Derived.OpenShut
import Derived.Deep.QuietTactic
import Derived.BigQuiet
import Derived.Outline
import Derived.WalkSmall
import Derived.WalkLawsBesides
import Derived.WalkSpells
import Derived.BigGuardPart
import Derived.RegionTactic
import Derived.Deep.RegionHeld3
import Derived.Lib.Hide
import Derived.Deep.OwnRows
import Derived.Maps.AppendAt
import Derived.Deep.AppendLies
import Derived.Below
import Derived.Test.YtapcapcbndooiaaKnownM
namespace Go.Proofs.Ytapcapcbndooiaa
open Go.ChangeShapes Go.WideShapes Go.ChangeAt Go.RowKit
set_option linter.unusedVariables false
theorem set4a (w : World) (B : Nat) (y0 y1 y2 y3 x0 x1 x2 x3 : Value) (q0 : w.cell? ⟨B, 0, none⟩ = some y0) (q1 : w.cell? ⟨B, 1, none⟩ = some y1) (q2 : w.cell? ⟨B, 2, none⟩ = some y2) (q3 : w.cell? ⟨B, 3, none⟩ = some y3) :
    ((((w.setCell ⟨B, 0, none⟩ x0).setCell ⟨B, 1, none⟩ x1).setCell ⟨B, 2, none⟩ x2).setCell ⟨B, 3, none⟩ x3).cell? ⟨B, 0, none⟩ = some x0 ∧
    ((((w.setCell ⟨B, 0, none⟩ x0).setCell ⟨B, 1, none⟩ x1).setCell ⟨B, 2, none⟩ x2).setCell ⟨B, 3, none⟩ x3).cell? ⟨B, 1, none⟩ = some x1 ∧
    ((((w.setCell ⟨B, 0, none⟩ x0).setCell ⟨B, 1, none⟩ x1).setCell ⟨B, 2, none⟩ x2).setCell ⟨B, 3, none⟩ x3).cell? ⟨B, 2, none⟩ = some x2 ∧
    ((((w.setCell ⟨B, 0, none⟩ x0).setCell ⟨B, 1, none⟩ x1).setCell ⟨B, 2, none⟩ x2).setCell ⟨B, 3, none⟩ x3).cell? ⟨B, 3, none⟩ = some x3 := by
  have ne : ∀ i j : Nat, i ≠ j → (⟨B, i, none⟩ : Addr) ≠ ⟨B, j, none⟩ := fun i j h g => h (by injection g)
  have a1 : (w.setCell ⟨B, 0, none⟩ x0).cell? ⟨B, 1, none⟩ = some y1 := (World.cell?_setCell_other _ _ _ _ (ne _ _ (by decide))).trans q1
  have a2 : ((w.setCell ⟨B, 0, none⟩ x0).setCell ⟨B, 1, none⟩ x1).cell? ⟨B, 2, none⟩ = some y2 := (World.cell?_setCell_other _ _ _ _ (ne _ _ (by decide))).trans ((World.cell?_setCell_other _ _ _ _ (ne _ _ (by decide))).trans q2)
  have a3 : (((w.setCell ⟨B, 0, none⟩ x0).setCell ⟨B, 1, none⟩ x1).setCell ⟨B, 2, none⟩ x2).cell? ⟨B, 3, none⟩ = some y3 := (World.cell?_setCell_other _ _ _ _ (ne _ _ (by decide))).trans ((World.cell?_setCell_other _ _ _ _ (ne _ _ (by decide))).trans ((World.cell?_setCell_other _ _ _ _ (ne _ _ (by decide))).trans q3))
  refine ⟨?_, ?_, ?_, ?_⟩
  · exact (World.cell?_setCell_other _ _ _ _ (ne _ _ (by decide))).trans ((World.cell?_setCell_other _ _ _ _ (ne _ _ (by decide))).trans ((World.cell?_setCell_other _ _ _ _ (ne _ _ (by decide))).trans (World.cell?_setCell_same _ _ _ q0)))
  · exact (World.cell?_setCell_other _ _ _ _ (ne _ _ (by decide))).trans ((World.cell?_setCell_other _ _ _ _ (ne _ _ (by decide))).trans (World.cell?_setCell_same _ _ _ a1))
  · exact (World.cell?_setCell_other _ _ _ _ (ne _ _ (by decide))).trans (World.cell?_setCell_same _ _ _ a2)
  · exact World.cell?_setCell_same _ _ _ a3
theorem AreaAt.below {w w' : World} {ab n N : Nat} {A S : Nat → Nat} {W X : Nat → Bool} {B : Nat → Nat} (h : AreaAt w ab n A S W X B) (hb : Below N w w') (hg : ab < N) : AreaAt w' ab n A S W X B := fun j hj => by
  obtain ⟨a0, a1, a2, a3, a4⟩ := h j hj
  exact ⟨(hb.cell (p := ⟨ab, _, none⟩) hg).trans a0, (hb.cell (p := ⟨ab, _, none⟩) hg).trans a1, (hb.cell (p := ⟨ab, _, none⟩) hg).trans a2, (hb.cell (p := ⟨ab, _, none⟩) hg).trans a3, (hb.cell (p := ⟨ab, _, none⟩) hg).trans a4⟩
theorem MemAt.below {w w' : World} {mb ab n cap N : Nat} {A S : Nat → Nat} {W X : Nat → Bool} {B : Nat → Nat} (h : MemAt w mb ab n cap A S W X B) (hb : Below N w w') (hm : mb < N) (hg : ab < N) : MemAt w' mb ab n cap A S W X B := ⟨h.1, (hb.cell (p := ⟨mb, _, none⟩) hm).trans h.2.1, h.2.2.below hb hg⟩
set_option maxRecDepth 100000 in
set_option maxHeartbeats 2000000 in
theorem at_y (mb ab n cap k a : Nat) (A S : Nat → Nat) (W X : Nat → Bool) (B : Nat → Nat) (w : World) (hk : k < n) (ha : a < 18446744073709551616) (hpre : ∀ j, j < k → ¬ inA A S j a) (hin : inA A S k a) (hmb : mb < w.heap.size) (hab : ab < w.heap.size) (HM : Hid (MemAt w mb ab n cap A S W X B)) :
    Calls Try.prog 73 #[.pointer (some ⟨mb, 0, none⟩), .int .u64 a] w fun e w' => e = .returned (.tuple #[.agg #[.int .u64 (A k : Nat), .int .u64 (S k : Nat), .bool (W k), .bool (X k)], .bool true]) ∧ Below w.heap.size w w' := by
  have HP := Lib.hid hpre
  have HI := Lib.hid hin
  have HM2 := Lib.hid (HM.out.below ((Below.refl _ _).alloc (Nat.le_refl _) (.cells #[.int .u64 0, .int .u64 0, .bool false, .bool false] 43)) hmb hab)
  have hcm := HM2.out.2.1
  have HA := Lib.hid HM2.out.2.2
  obtain ⟨f1, f2, f3, f4, f5⟩ := HA.out k hk
  have q : ∀ o, (w.alloc (.cells #[.int .u64 0, .int .u64 0, .bool false, .bool false] 43)).cell? ⟨w.heap.size, o, none⟩ = (#[Value.int .u64 0, .int .u64 0, .bool false, .bool false])[o]? := fun o => World.cell?_alloc_at _ _ _ _ rfl
  have q0 := q 0
  have q1 := q 1
  have q2 := q 2
  have q3 := q 3
  have z : ∀ o, (w.alloc (.cells #[.int .u64 0, .int .u64 0, .bool false, .bool false] 43)).frozen? ⟨w.heap.size, o, none⟩ = false := fun o => World.frozen?_alloc_at _ _ _ _ rfl
  have z0 := z 0
  have z1 := z 1
  have z2 := z 2
  have z3 := z 3
  have HB : Hid (Below w.heap.size w (w.alloc (.cells #[.int .u64 0, .int .u64 0, .bool false, .bool false] 43))) := Lib.hid ((Below.refl _ _).alloc (Nat.le_refl _) _)
  have hs : ab ≠ w.heap.size := by omega
  clear q z f5 hpre hin
  go_enter Try.func73, Try.ntmps73
  go_wp2_with fail
  generalize w.alloc (.cells #[.int .u64 0, .int .u64 0, .bool false, .bool false] 43) = w1 at *
  refine (find_y_ ab n cap k a A S W X B _ HM2.out.1 hk ha HP.out HI.out HA).mono ?_
  rintro e w' ⟨rfl, q, rfl⟩
  go_wp2
  obtain ⟨t0, t1, t2, t3⟩ := set4a (w1.drewN q) w.heap.size _ _ _ _ (.int .u64 (A k : Nat)) (.int .u64 (S k : Nat)) (.bool (W k)) (.bool (X k)) q0 q1 q2 q3
  refine bodyPost_ret (v := .tuple #[.agg #[.int .u64 (A k : Nat), .int .u64 (S k : Nat), .bool (W k), .bool (X k)], .bool true]) (by simp [results, Try.results73, go_sem, t0, t1, t2, t3]) rfl ⟨rfl, ?_⟩
  exact ((((below_drewN HB.out _).setCell (Nat.le_refl _) _).setCell (Nat.le_refl _) _).setCell (Nat.le_refl _) _).setCell (Nat.le_refl _) _
set_option maxRecDepth 100000 in
set_option maxHeartbeats 2000000 in
theorem at_n (mb ab n cap a : Nat) (A S : Nat → Nat) (W X : Nat → Bool) (B : Nat → Nat) (w : World) (ha : a < 18446744073709551616) (hpre : ∀ j, j < n → ¬ inA A S j a) (hmb : mb < w.heap.size) (hab : ab < w.heap.size) (HM : Hid (MemAt w mb ab n cap A S W X B)) :
    Calls Try.prog 73 #[.pointer (some ⟨mb, 0, none⟩), .int .u64 a] w fun e w' => e = .returned (.tuple #[.agg #[.int .u64 0, .int .u64 0, .bool false, .bool false], .bool false]) ∧ Below w.heap.size w w' := by
  have HP := Lib.hid hpre
  have HM2 := Lib.hid (HM.out.below ((Below.refl _ _).alloc (Nat.le_refl _) (.cells #[.int .u64 0, .int .u64 0, .bool false, .bool false] 43)) hmb hab)
  have hcm := HM2.out.2.1
  have HA := Lib.hid HM2.out.2.2
  have q : ∀ o, (w.alloc (.cells #[.int .u64 0, .int .u64 0, .bool false, .bool false] 43)).cell? ⟨w.heap.size, o, none⟩ = (#[Value.int .u64 0, .int .u64 0, .bool false, .bool false])[o]? := fun o => World.cell?_alloc_at _ _ _ _ rfl
  have q0 := q 0
  have q1 := q 1
  have q2 := q 2
  have q3 := q 3
  have z : ∀ o, (w.alloc (.cells #[.int .u64 0, .int .u64 0, .bool false, .bool false] 43)).frozen? ⟨w.heap.size, o, none⟩ = false := fun o => World.frozen?_alloc_at _ _ _ _ rfl
  have z0 := z 0
  have z1 := z 1
  have z2 := z 2
  have z3 := z 3
  have HB : Hid (Below w.heap.size w (w.alloc (.cells #[.int .u64 0, .int .u64 0, .bool false, .bool false] 43))) := Lib.hid ((Below.refl _ _).alloc (Nat.le_refl _) _)
  have hs : ab ≠ w.heap.size := by omega
  clear q z hpre
  go_enter Try.func73, Try.ntmps73
  go_wp2_with fail
  generalize w.alloc (.cells #[.int .u64 0, .int .u64 0, .bool false, .bool false] 43) = w1 at *
  refine (find_n_ ab n cap a A S W X B _ HM2.out.1 ha HP.out HA).mono ?_
  rintro e w' ⟨rfl, q, rfl⟩
  go_wp2
  obtain ⟨t0, t1, t2, t3⟩ := set4a (w1.drewN q) w.heap.size _ _ _ _ (.int .u64 0) (.int .u64 0) (.bool false) (.bool false) q0 q1 q2 q3
  refine bodyPost_ret (v := .tuple #[.agg #[.int .u64 0, .int .u64 0, .bool false, .bool false], .bool false]) (by simp [results, Try.results73, go_sem, t0, t1, t2, t3]) rfl ⟨rfl, ?_⟩
  exact ((((below_drewN HB.out _).setCell (Nat.le_refl _) _).setCell (Nat.le_refl _) _).setCell (Nat.le_refl _) _).setCell (Nat.le_refl _) _
end Go.Proofs.Ytapcapcbndooiaa
