import Derived.Lib.AppendZerosOnto
import Derived.Maps.AppendAt
import Derived.Laws.OwnMore
import Derived.Lib.SliceRun
import Derived.Laws.BitsLemmas
import Derived.IntWalk
import Derived.Laws.BitsAllLaws
import Derived.Deep.DrawnRows
import Derived.Test.YtpiafgmncfibmaaXc
import Derived.Test.YtpiafgmncfibmaaVw
import Derived.Test.YtpiafgmncfibmaaRows
import Derived.WalkKit
import Derived.ProofKit
import Derived.OpenShut
import Derived.Deep.QuietTactic
import Derived.BigQuiet
import Derived.Outline
import Derived.WalkSmall
import Derived.WalkLawsBesides
import Derived.WalkSpells
import Derived.BigGuardPart
import Derived.RegionTactic
import Derived.Deep.RegionHeld3
import Derived.Lib.Hide
import Derived.Deep.MidRow
import Derived.Below
import Derived.Deep.RegionWith
import Derived.Deep.OwnRows
import Derived.Deep.AppendLies
import Derived.Deep.RegionLaw
import Derived.Deep.CutBlock
import Derived.Deep.DeepCutAuto
namespace Go.Proofs.Ytpiafgmncfibmaa.Vf
open Go.ChangeShapes Go.WideShapes Go.ChangeAt Go.RowKit
set_option linter.unusedVariables false

theorem step_append_run {P : Program} {w : World} {ops : Array Oper} {o : Oper} {a : Act} {K : Act → World → Prop} {Q : Exit → Act → World → Prop} {E : Prop} (hgd : o.guard = none) (s x : Operand) (t : TypeId)
    (ho : o.op = .call { callee := .builtin .append, args := #[s, x], argTypes := #[t, t] }) (v v2 v' : Value) (w' : World) (hs : a.eval s = v) (hx : a.eval x = v2)
    (hr : (Builtin.append_ #[t, t] o.type #[v, v2]).run P w = .ok v' w') (h : K (a.put o.dst v') w') : if Region.wanted o (yielded ops a.tmps) = true then Oper.wp P o a w K Q else E := by
  have hw : Region.wanted o (yielded ops a.tmps) = true := by simp [Region.wanted, hgd]
  rw [if_pos hw]
  unfold Oper.wp execOp
  simp only [ho, resolve, invoke, builtin, Sem.run_bind, Sem.run_pure, Result.andThen_ok, List.map_toArray, List.map_cons, List.map_nil, hs, hx, hr]
  exact h
/-- A list and a list behind it, appended to an empty slice that was made. -/
theorem two_app (W : World) (l1 l2 : List Int) (a1 a2 : Option Addr) (c1 c2 : Nat) (h1 : Ints W a1 l1) (h2 : Ints W a2 l2) (n1 : l1.length ≤ 30000) (n2 : l2.length ≤ 30000) : ∃ v1 V1 v2 V2, (Builtin.append_ #[48, 48] 48 #[.slice (some ⟨W.heap.size, 0, none⟩) 0 0, .slice a1 l1.length c1]).run Try.prog (W.alloc (.cells #[] 3)) = .ok v1 V1 ∧ (Builtin.append_ #[48, 48] 48 #[v1, .slice a2 l2.length c2]).run Try.prog V1 = .ok v2 V2 ∧ Below W.heap.size W V1 ∧ Below W.heap.size W V2 ∧ NewInts (l1 ++ l2) W (.returned v2) V2 := by
  have hb0 : Below W.heap.size W (W.alloc (.cells #[] 3)) := (Below.refl _ _).alloc (Nat.le_refl _) _
  have ho : (W.alloc (.cells #[] 3)).ownsRow W.heap.size 3 1 (.slice (some ⟨W.heap.size, 0, none⟩) 0 0) 0 (([] : List Int).map (.int .i64)) := ⟨rfl, .inr ⟨W.heap.size, 0, #[], rfl, Nat.le_refl _, heap_alloc_new _ _, Nat.le_refl _, Nat.zero_le _, rfl, rfl⟩⟩
  obtain ⟨v1, V1, hr1, ho1, hg1, _⟩ := app_ints (W.alloc (.cells #[] 3)) W.heap.size 0 _ [] l1 a1 c1 ho (h1.kept (Kept.of hb0)) (by omega) hb0.size
  have hb1 := hb0.trans (own_below ho hb0.size hg1)
  obtain ⟨v2, V2, hr2, ho2, hg2, _⟩ := app_ints V1 W.heap.size _ v1 _ l2 a2 c2 ho1 (h2.kept (Kept.of hb1)) (by omega) hb1.size
  have hb2 := hb1.trans (own_below ho1 hb1.size hg2)
  rw [List.nil_append, Nat.zero_add] at ho2
  obtain ⟨a, c, rfl⟩ := own_slice ho2
  have hl : (l1 ++ l2).length = l1.length + l2.length := by simp
  exact ⟨v1, V1, _, V2, hr1, hr2, hb1, hb2, a, c, by rw [hl], Ints.own ho2 hl, by rw [hl]; exact own_fit ho2, own_past0 ho2, hb2⟩
set_option maxRecDepth 100000 in
set_option maxHeartbeats 4000000 in
theorem locals_c (pa la ca : Option Addr) (c1 c2 n3 c3 : Nat) (rt sk : Int) (l1 l2 : List Int) (w : World) (h1 : Ints w pa l1) (h2 : Ints w la l2) (m1 : l1.length ≤ 30000) (m2 : l2.length ≤ 30000) : Calls Try.prog 113 #[.agg #[.slice pa l1.length c1, .int .i64 rt, .slice la l2.length c2, .int .i64 sk, .slice ca n3 c3]] w (NewInts (l1 ++ l2) w) := by
  have hb0 : Below w.heap.size w (w.alloc (.cells #[.slice pa l1.length c1, .int .i64 rt, .slice la l2.length c2, .int .i64 sk, .slice ca n3 c3] 50)).drew := ((Below.refl _ _).alloc (Nat.le_refl _) _).drew
  obtain ⟨v1, V1, v2, V2, r1, r2, b1, b2, hN⟩ := two_app (w.alloc (.cells #[.slice pa l1.length c1, .int .i64 rt, .slice la l2.length c2, .int .i64 sk, .slice ca n3 c3] 50)).drew l1 l2 pa la c1 c2 (h1.kept (Kept.of hb0)) (h2.kept (Kept.of hb0)) m1 m2
  have HNw : Hid (NewInts (l1 ++ l2) w (.returned v2) V2) := Lib.hid (hN.from hb0)
  have hbx : Bx (w.alloc (.cells #[.slice pa l1.length c1, .int .i64 rt, .slice la l2.length c2, .int .i64 sk, .slice ca n3 c3] 50)).drew w.heap.size #[.slice pa l1.length c1, .int .i64 rt, .slice la l2.length c2, .int .i64 sk, .slice ca n3 c3] 50 := (Bx.new w _ 50).drew
  generalize hn1 : l1.length = n1 at *
  generalize hn2 : l2.length = n2 at *
  clear hn1 hn2 h1 h2 hN
  obtain ⟨W0, hW0⟩ : ∃ q, q = w.alloc (.cells #[.slice pa n1 c1, .int .i64 rt, .slice la n2 c2, .int .i64 sk, .slice ca n3 c3] 50) := ⟨_, rfl⟩
  rw [← hW0] at r1 b1 b2 hbx
  have HX : Hid (∀ V, Below W0.drew.heap.size W0.drew V → V.cell? ⟨w.heap.size, 0, none⟩ = some (.slice pa n1 c1) ∧ V.cell? ⟨w.heap.size, 2, none⟩ = some (.slice la n2 c2)) := Lib.hid fun V hV => ⟨(hbx.below hV).cell 0, (hbx.below hV).cell 2⟩
  have HB1 := Lib.hid b1
  have HB2 := Lib.hid b2
  have HR1 := Lib.hid r1
  have HR2 := Lib.hid r2
  have HW0 := Lib.hid hW0
  clear r1 r2 b1 b2 hbx hW0 hb0
  go_enter Try.func113, Try.ntmps113
  go_upto_region 1 with fail
  rw [← HW0.out]
  refine region_e 7 (fun w' => w'.cell? ⟨w.heap.size, 0, none⟩ = some (.slice pa n1 c1) ∧ w'.cell? ⟨w.heap.size, 2, none⟩ = some (.slice la n2 c2)) (by kernel_rfl) (HX.out _ (Below.refl _ _)) (fun hHeld => ?_)
  generalize W0.drew = u0 at hHeld HX HB1 HB2 HR1 HR2 ⊢
  refine AnyE.take2 (i := 1) [] (oi := { dst := some 4, op := Go.Op.fieldAddr 50 (Go.Operand.tmp 1) 0, type := 0, pos := "ref.go:31", after := #[], guard := none }) (v := ?_) rfl (by kernel_rfl) (by kernel_rfl) (by kernel_rfl) (by kernel_rfl) (fun _ _ _ h => h) (Or.inl ⟨by rfl, ?_⟩) (by assumption) ?_
  rotate_left
  · (intro w0 hSw; (try dsimp only at hSw); go_split_ands; go_simp; with_reducible rfl)
  try simp only [Act.put, List.setIfInBounds_toArray, List.set_cons_zero, List.set_cons_succ]
  refine AnyE.take2 (i := 2) [] (oi := { dst := some 5, op := Go.Op.load 48 (Go.Operand.tmp 4), type := 48, pos := "ref.go:31", after := #[{ on := 1, ground := Go.Ground.data }], guard := none }) (v := ?_) rfl (by kernel_rfl) (by kernel_rfl) (by kernel_rfl) (by kernel_rfl) (fun _ _ _ h => h) (Or.inl ⟨by rfl, ?_⟩) (by assumption) ?_
  rotate_left
  · (intro w0 hSw; (try dsimp only at hSw); go_split_ands; go_simp; with_reducible rfl)
  try simp only [Act.put, List.setIfInBounds_toArray, List.set_cons_zero, List.set_cons_succ]
  refine AnyE.take2 (i := 4) [] (oi := { dst := some 7, op := Go.Op.fieldAddr 50 (Go.Operand.tmp 1) 2, type := 0, pos := "ref.go:31", after := #[], guard := none }) (v := ?_) rfl (by kernel_rfl) (by kernel_rfl) (by kernel_rfl) (by kernel_rfl) (fun _ _ _ h => h) (Or.inl ⟨by rfl, ?_⟩) (by assumption) ?_
  rotate_left
  · (intro w0 hSw; (try dsimp only at hSw); go_split_ands; go_simp; with_reducible rfl)
  try simp only [Act.put, List.setIfInBounds_toArray, List.set_cons_zero, List.set_cons_succ]
  refine AnyE.take2 (i := 5) [] (oi := { dst := some 8, op := Go.Op.load 48 (Go.Operand.tmp 7), type := 48, pos := "ref.go:31", after := #[{ on := 4, ground := Go.Ground.data }], guard := none }) (v := ?_) rfl (by kernel_rfl) (by kernel_rfl) (by kernel_rfl) (by kernel_rfl) (fun _ _ _ h => h) (Or.inl ⟨by rfl, ?_⟩) (by assumption) ?_
  rotate_left
  · (intro w0 hSw; (try dsimp only at hSw); go_split_ands; go_simp; with_reducible rfl)
  try simp only [Act.put, List.setIfInBounds_toArray, List.set_cons_zero, List.set_cons_succ]
  refine AnyE.ready (rs := [0]) (by kernel_rfl) (by simp) ?_
  refine AllE.cons (o := { dst := some 3, op := Go.Op.buildSlice 48 0 #[], type := 48, pos := "ref.go:31", after := #[], guard := none }) rfl (fun KK hKK => ?_) AllE.nil
  go_simp
  refine hKK.out _ _ (HX.out _ ((Below.refl _ _).alloc (Nat.le_refl _) _)) (fun hHeld => ?_)
  clear hKK KK
  try simp only [Act.put, List.setIfInBounds_toArray, List.set_cons_zero, List.set_cons_succ]
  refine AnyE.ready (rs := [3]) (by kernel_rfl) (by simp) ?_
  refine AllE.cons (o := { dst := some 6, op := Go.Op.call { callee := Go.Callee.builtin Go.Builtin.append, args := #[Go.Operand.tmp 3, Go.Operand.tmp 5], argTypes := #[48, 48] }, type := 48, pos := "ref.go:31", after := #[{ on := 0, ground := Go.Ground.data }, { on := 2, ground := Go.Ground.data }], guard := none }) rfl (fun KK hKK => ?_) AllE.nil
  refine step_append_run rfl _ _ _ rfl _ _ _ _ rfl (by rfl) HR1.out ?_
  refine hKK.out _ _ (HX.out _ HB1.out) (fun hHeld => ?_)
  clear hKK KK
  try simp only [Act.put, List.setIfInBounds_toArray, List.set_cons_zero, List.set_cons_succ]
  refine AnyE.ready (rs := [6]) (by kernel_rfl) (by simp) ?_
  refine AllE.cons (o := { dst := some 9, op := Go.Op.call { callee := Go.Callee.builtin Go.Builtin.append, args := #[Go.Operand.tmp 6, Go.Operand.tmp 8], argTypes := #[48, 48] }, type := 48, pos := "ref.go:31", after := #[{ on := 3, ground := Go.Ground.data }, { on := 5, ground := Go.Ground.data }, { on := 3, ground := Go.Ground.chain }], guard := none }) rfl (fun KK hKK => ?_) AllE.nil
  refine step_append_run rfl _ _ _ rfl _ _ _ _ rfl (by rfl) HR2.out ?_
  refine hKK.out _ _ (HX.out _ HB2.out) (fun hHeld => ?_)
  clear hKK KK
  try simp only [Act.put, List.setIfInBounds_toArray, List.set_cons_zero, List.set_cons_succ]
  refine AnyE.ready (rs := [7]) (by kernel_rfl) (by simp) ?_
  refine AllE.last (o := { dst := some 2, op := Go.Op.assign (Go.Operand.tmp 9), type := 48, pos := "ref.go:31", after := #[{ on := 6, ground := Go.Ground.data }, { on := 6, ground := Go.Ground.chain }, { on := 0, ground := Go.Ground.phase }, { on := 1, ground := Go.Ground.phase }, { on := 2, ground := Go.Ground.phase }, { on := 3, ground := Go.Ground.phase }, { on := 4, ground := Go.Ground.phase }, { on := 5, ground := Go.Ground.phase }, { on := 6, ground := Go.Ground.phase }], guard := none }) rfl (by kernel_rfl) (fun KK hKK => ?_)
  go_simp
  refine hKK.out _ _ ?_
  clear hKK KK
  try simp only [Act.put, List.setIfInBounds_toArray, List.set_cons_zero, List.set_cons_succ]
  go_wp2
  go_ret
  exact HNw.out
end Go.Proofs.Ytpiafgmncfibmaa.Vf
