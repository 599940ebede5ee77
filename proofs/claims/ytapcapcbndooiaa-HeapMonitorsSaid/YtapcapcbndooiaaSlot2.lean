import Derived.Test.YtapcapcbndooiaaRows
import Derived.WalkKit
import Derived.ProofKit
import Derived.OpenShut
import Derived.Deep.QuietTactic
import Derived.BigQuiet
import Derived.Outline
import Derived.WalkSmall
import Derived.WalkLawsBesides
import Derived.WalkSpells
import Derived.BigGuardPart
import Derived.RegionTactic
import Derived.Deep.RegionHeld3
import Derived.Lib.Hide
import Derived.Deep.OwnRows
import Derived.Test.YtapcapcbndooiaaObject
import Derived.StillTailTactics
import Derived.Test.YtapcapcbndooiaaHeap
import Derived.Test.YtapcapcbndooiaaMon
import Derived.Maps.AppendAt
import Derived.Deep.AppendLies
import Derived.Below
namespace Go.Proofs.Ytapcapcbndooiaa
open Go.ChangeShapes Go.WideShapes Go.ChangeAt Go.RowKit
set_option linter.unusedVariables false
/-- A heap with one object of two fields. -/
def Obj2 (w : World) (h ob x cp sb rb rc : Nat) (us s0 s1 th ct : Int) (r0 r1 : Bool) : Prop :=
  (h < sb ∧ sb < x ∧ h < ob ∧ h < rb ∧ rb < sb ∧ x < w.heap.size ∧ ob < w.heap.size) ∧ w.cell? ⟨h, 0, none⟩ = some (.int .i64 10) ∧ w.cell? ⟨h, 1, none⟩ = some (.int .i64 us) ∧ w.cell? ⟨h, 2, none⟩ = some (.slice (some ⟨ob, 0, none⟩) 1 cp) ∧ w.cell? ⟨ob, 0, none⟩ = some (.iface 143 (.pointer (some ⟨x, 0, none⟩))) ∧
  w.cell? ⟨x, 0, none⟩ = some (.int .i64 0) ∧ w.cell? ⟨x, 1, none⟩ = some (.slice (some ⟨rb, 0, none⟩) 2 rc) ∧ w.cell? ⟨x, 2, none⟩ = some (.slice (some ⟨sb, 0, none⟩) 2 2) ∧ w.cell? ⟨x, 3, none⟩ = some (.int .i64 th) ∧ w.cell? ⟨x, 4, none⟩ = some (.int .i64 ct) ∧ w.frozen? ⟨x, 3, none⟩ = false ∧ w.frozen? ⟨x, 4, none⟩ = false ∧
  w.cell? ⟨sb, 0, none⟩ = some (.int .i64 s0) ∧ w.cell? ⟨sb, 1, none⟩ = some (.int .i64 s1) ∧ w.frozen? ⟨sb, 0, none⟩ = false ∧ w.cell? ⟨rb, 0, none⟩ = some (.bool r0) ∧ w.cell? ⟨rb, 1, none⟩ = some (.bool r1)
theorem Obj2.below {w w' : World} {h ob x cp sb rb rc : Nat} {us s0 s1 th ct : Int} {r0 r1 : Bool} (g : Obj2 w h ob x cp sb rb rc us s0 s1 th ct r0 r1) (hb : Below w.heap.size w w') : Obj2 w' h ob x cp sb rb rc us s0 s1 th ct r0 r1 := by
  obtain ⟨⟨a1, a2, a3, a4, a5, a6, a7⟩, e1, e2, e3, e4, e5, e6, e7, e8, e9, e10, e11, e12, e13, e14, e15, e16⟩ := g
  have hs := hb.size
  have k : ∀ b o, b < w.heap.size → w'.cell? ⟨b, o, none⟩ = w.cell? ⟨b, o, none⟩ := fun b o h => hb.cell (p := ⟨b, o, none⟩) h
  have f : ∀ b o, b < w.heap.size → w'.frozen? ⟨b, o, none⟩ = w.frozen? ⟨b, o, none⟩ := fun b o h => hb.frozen (p := ⟨b, o, none⟩) h
  exact ⟨⟨a1, a2, a3, a4, a5, by omega, by omega⟩, (k _ _ (by omega)).trans e1, (k _ _ (by omega)).trans e2, (k _ _ (by omega)).trans e3, (k _ _ (by omega)).trans e4, (k _ _ (by omega)).trans e5, (k _ _ (by omega)).trans e6, (k _ _ (by omega)).trans e7, (k _ _ (by omega)).trans e8, (k _ _ (by omega)).trans e9, (f _ _ (by omega)).trans e10, (f _ _ (by omega)).trans e11, (k _ _ (by omega)).trans e12, (k _ _ (by omega)).trans e13, (f _ _ (by omega)).trans e14, (k _ _ (by omega)).trans e15, (k _ _ (by omega)).trans e16⟩
theorem meth_size (x : Nat) (w : World) : (method 307 143 (.pointer (some ⟨x, 0, none⟩)) "brazier/heap.size").run Try.prog w = .ok (166, .pointer (some ⟨x, 0, none⟩)) w := by kernel_rfl
theorem meth_put (x : Nat) (w : World) : (method 307 143 (.pointer (some ⟨x, 0, none⟩)) "brazier/heap.put").run Try.prog w = .ok (165, .pointer (some ⟨x, 0, none⟩)) w := by kernel_rfl
theorem meth_get (x : Nat) (w : World) : (method 307 143 (.pointer (some ⟨x, 0, none⟩)) "brazier/heap.get").run Try.prog w = .ok (162, .pointer (some ⟨x, 0, none⟩)) w := by kernel_rfl
theorem meth_isRef (v : Array Value) (w : World) : (method 307 142 (.agg v) "brazier/heap.isRef").run Try.prog w = .ok (161, .agg v) w := by kernel_rfl
set_option maxRecDepth 100000 in
theorem size_c (x sb : Nat) (w : World) (x2 : w.cell? ⟨x, 2, none⟩ = some (.slice (some ⟨sb, 0, none⟩) 2 2)) :
    Calls Try.prog 166 #[.pointer (some ⟨x, 0, none⟩)] w fun e w' => e = .returned (.int .i64 2) ∧ w = w' := by
  go_enter Try.func166, Try.ntmps166
  go_wp2
  go_ret
  exact ⟨rfl, rfl⟩
set_option maxRecDepth 100000 in
theorem len_c (h ob x cp sb : Nat) (w : World) (h2 : w.cell? ⟨h, 2, none⟩ = some (.slice (some ⟨ob, 0, none⟩) 1 cp)) (o0 : w.cell? ⟨ob, 0, none⟩ = some (.iface 143 (.pointer (some ⟨x, 0, none⟩)))) (x2 : w.cell? ⟨x, 2, none⟩ = some (.slice (some ⟨sb, 0, none⟩) 2 2)) :
    Calls Try.prog 133 #[.pointer (some ⟨h, 0, none⟩), .int .i64 1] w fun e w' => e = .returned (.int .i64 2) ∧ w = w' := by
  have hm := meth_size x
  go_enter Try.func133, Try.ntmps133
  go_wp2_with (first | (go_at_call 105; refine (find_y h ob x cp _ h2 o0).mono ?_; rintro e w' ⟨rfl, rfl⟩) | (go_at_call 166; refine (size_c x sb _ x2).mono ?_; rintro e w' ⟨rfl, rfl⟩))
  go_ret
  exact ⟨rfl, rfl⟩
set_option maxRecDepth 100000 in
theorem hasSlot_c (h ob x cp sb : Nat) (j : Int) (w : World) (j0 : 0 ≤ j) (j1 : j < 2) (h2 : w.cell? ⟨h, 2, none⟩ = some (.slice (some ⟨ob, 0, none⟩) 1 cp)) (o0 : w.cell? ⟨ob, 0, none⟩ = some (.iface 143 (.pointer (some ⟨x, 0, none⟩)))) (x2 : w.cell? ⟨x, 2, none⟩ = some (.slice (some ⟨sb, 0, none⟩) 2 2)) :
    Calls Try.prog 124 #[.pointer (some ⟨h, 0, none⟩), .int .i64 1, .int .i64 j] w fun e w' => e = .returned (.bool true) ∧ w = w' := by
  go_enter Try.func124, Try.ntmps124
  go_wp2_with (go_at_call 133; refine (len_c h ob x cp sb _ h2 o0 x2).mono ?_; rintro e w' ⟨rfl, rfl⟩)
  go_ret
  exact ⟨rfl, rfl⟩
set_option maxRecDepth 100000 in
theorem putm_c (x sb : Nat) (s0 n : Int) (w : World) (x2 : w.cell? ⟨x, 2, none⟩ = some (.slice (some ⟨sb, 0, none⟩) 2 2)) (e0 : w.cell? ⟨sb, 0, none⟩ = some (.int .i64 s0)) (z0 : w.frozen? ⟨sb, 0, none⟩ = false) :
    Calls Try.prog 165 #[.pointer (some ⟨x, 0, none⟩), .int .i64 0, .int .i64 n] w fun e w' => e = .returned (.tuple #[]) ∧ w.setCell ⟨sb, 0, none⟩ (.int .i64 n) = w' := by
  go_enter Try.func165, Try.ntmps165
  go_wp2
  refine bodyPost_end (v := .tuple #[]) (by simp [results, Try.results165, go_sem]) rfl ⟨rfl, rfl⟩
set_option maxRecDepth 100000 in
theorem isRef_c (rb rc : Nat) (j : Nat) (b : Bool) (w : World) (hj : j < 2) (hr : rb < w.heap.size) (e0 : w.cell? ⟨rb, j, none⟩ = some (.bool b)) :
    Calls Try.prog 161 #[.agg #[.int .i64 0, .slice (some ⟨rb, 0, none⟩) 2 rc], .int .i64 j] w fun e w' => e = .returned (.bool b) ∧ w.alloc (.cells #[.int .i64 0, .slice (some ⟨rb, 0, none⟩) 2 rc] 142) = w' := by
  have hj' : (j : Int) < 2 := by omega
  go_enter Try.func161, Try.ntmps161
  go_wp2
  go_ret
  exact ⟨rfl, rfl⟩
theorem set2 (w : World) (B : Nat) (y0 y1 x0 x1 : Value) (q0 : w.cell? ⟨B, 0, none⟩ = some y0) (q1 : w.cell? ⟨B, 1, none⟩ = some y1) :
    ((w.setCell ⟨B, 0, none⟩ x0).setCell ⟨B, 1, none⟩ x1).cell? ⟨B, 0, none⟩ = some x0 ∧ ((w.setCell ⟨B, 0, none⟩ x0).setCell ⟨B, 1, none⟩ x1).cell? ⟨B, 1, none⟩ = some x1 := by
  have n1 : (⟨B, 1, none⟩ : Addr) ≠ ⟨B, 0, none⟩ := fun g => by injection g with _ g2; omega
  have n2 : (⟨B, 0, none⟩ : Addr) ≠ ⟨B, 1, none⟩ := fun g => by injection g with _ g2; omega
  exact ⟨(World.cell?_setCell_other _ _ _ _ n1).trans (World.cell?_setCell_same _ _ _ q0), World.cell?_setCell_same _ _ _ ((World.cell?_setCell_other _ _ _ _ n2).trans q1)⟩
theorem isRef_b (rb rc : Nat) (j : Nat) (b : Bool) (w : World) (hj : j < 2) (hr : rb < w.heap.size) (e0 : w.cell? ⟨rb, j, none⟩ = some (.bool b)) :
    Calls Try.prog 161 #[.agg #[.int .i64 0, .slice (some ⟨rb, 0, none⟩) 2 rc], .int .i64 j] w fun e w' => e = .returned (.bool b) ∧ Below w.heap.size w w' := (isRef_c rb rc j b w hj hr e0).mono fun e w' ⟨h, g⟩ => ⟨h, g ▸ (Below.refl _ _).alloc (Nat.le_refl _) _⟩
set_option maxRecDepth 100000 in
theorem put_c (h ob x cp sb rb rc : Nat) (us s0 s1 th ct : Int) (r0 r1 : Bool) (w : World) (H : Hid (Obj2 w h ob x cp sb rb rc us s0 s1 th ct r0 r1)) :
    Calls Try.prog 101 #[.pointer (some ⟨h, 0, none⟩), .int .i64 1, .int .i64 0, .agg #[.bool false, .int .i64 5]] w fun e w' => e = .returned (.bool true) ∧ Below h w w' ∧ Obj2 w' h ob x cp sb rb rc us 5 s1 th ct r0 r1 := by
  obtain ⟨⟨a1, a2, a3, a4, a5, a6, a7⟩, e1, e2, e3, e4, e5, e6, e7, e8, e9, e10, e11, e12, e13, e14, e15, e16⟩ := (H.out.below ((Below.refl _ _).alloc (Nat.le_refl _) (.cells #[.bool false, .int .i64 5] 126)))
  have hm := meth_put x
  go_enter Try.func101, Try.ntmps101
  go_wp2_with (go_at_call 124; refine (hasSlot_c h ob x cp sb 0 _ (by omega) (by omega) e3 e4 e7).mono ?_; rintro e w' ⟨rfl, rfl⟩)
  have q5 : (w.alloc (.cells #[.bool false, .int .i64 5] 126)).cell? ⟨w.heap.size, 1, none⟩ = some (.int .i64 5) := World.cell?_alloc_at _ _ _ _ rfl
  have hsb : sb < w.heap.size := by obtain ⟨⟨_, _, _, _, _, _, _⟩, _⟩ := H.out; omega
  have HB : Hid (Below h w (w.alloc (.cells #[.bool false, .int .i64 5] 126))) := Lib.hid ((Below.refl _ _).alloc (by obtain ⟨⟨_, _, _, _, _, _, _⟩, _⟩ := H.out; omega) _)
  generalize w.alloc (.cells #[.bool false, .int .i64 5] 126) = w1 at *
  have F : Hid (w1.drew.cell? ⟨h, 2, none⟩ = some (.slice (some ⟨ob, 0, none⟩) 1 cp)) := Lib.hid e3
  have G : Hid (w1.drew.cell? ⟨ob, 0, none⟩ = some (.iface 143 (.pointer (some ⟨x, 0, none⟩)))) := Lib.hid e4
  have X : Hid (w1.drew.cell? ⟨x, 2, none⟩ = some (.slice (some ⟨sb, 0, none⟩) 2 2)) := Lib.hid e7
  have Y : Hid (w1.drew.cell? ⟨sb, 0, none⟩ = some (.int .i64 s0)) := Lib.hid e12
  have Z : Hid (w1.drew.frozen? ⟨sb, 0, none⟩ = false) := Lib.hid e14
  have p5 : w1.drew.cell? ⟨w.heap.size, 1, none⟩ = some (.int .i64 5) := q5
  go_region_held3 (fun w' => w'.cell? ⟨w.heap.size, 1, none⟩ = some (.int .i64 5)) (first | exact p5 | exact (World.cell?_setCell_other _ _ _ _ (fun g => by injection g with g1 _; omega)).trans p5) (first | (go_at_call 105; refine (find_y h ob x cp _ F.out G.out).mono ?_; rintro e w' ⟨rfl, rfl⟩) | (go_at_call 165; refine (putm_c x sb s0 5 _ X.out Y.out Z.out).mono ?_; rintro e w' ⟨rfl, rfl⟩))
  have hs1 := HB.out.size
  go_wp2
  have ne : ∀ b o, b ≠ sb → (⟨sb, 0, none⟩ : Addr) ≠ ⟨b, o, none⟩ := fun b o hb g => hb (by injection g with g1 _; exact g1.symm)
  have ne1 : (⟨sb, 0, none⟩ : Addr) ≠ ⟨sb, 1, none⟩ := fun g => by injection g with _ g2; omega
  have hx : ∀ b o, b ≠ sb → (w1.setCell ⟨sb, 0, none⟩ (.int .i64 5)).cell? ⟨b, o, none⟩ = w1.cell? ⟨b, o, none⟩ := fun b o hb => World.cell?_setCell_other _ _ _ _ (ne b o hb)
  have hob : ob ≠ sb := fun g => by rw [g, e12] at e4; injection e4 with e4; cases e4
  have hf : ∀ a, (w1.setCell ⟨sb, 0, none⟩ (.int .i64 5)).frozen? a = w1.frozen? a := fun a => World.frozen?_setCell _ _ _ _
  refine bodyPost_ret (v := .bool true) (by simp [results, Try.results101, go_sem]) rfl ⟨rfl, (HB.out.setCell (by simp; omega) _).drew, ?_⟩
  have hz : (w1.setCell ⟨sb, 0, none⟩ (.int .i64 5)).drew.heap.size = w1.heap.size := by simp [World.setCell, World.drew]
  exact ⟨⟨a1, a2, a3, a4, a5, by rw [hz]; exact a6, by rw [hz]; exact a7⟩, (hx _ _ (by omega)).trans e1, (hx _ _ (by omega)).trans e2, (hx _ _ (by omega)).trans e3, (hx _ _ hob).trans e4, (hx _ _ (by omega)).trans e5, (hx _ _ (by omega)).trans e6, (hx _ _ (by omega)).trans e7, (hx _ _ (by omega)).trans e8, (hx _ _ (by omega)).trans e9, (hf _).trans e10, (hf _).trans e11, World.cell?_setCell_same _ _ _ e12, (World.cell?_setCell_other _ _ _ _ ne1).trans e13, (hf _).trans e14, (hx _ _ (by omega)).trans e15, (hx _ _ (by omega)).trans e16⟩
set_option maxRecDepth 100000 in
theorem getm_c (x sb rb rc j : Nat) (s : Int) (b : Bool) (w : World) (hj : j < 2) (hx : x < w.heap.size) (hs : sb < w.heap.size) (hr : rb < w.heap.size) (e5 : w.cell? ⟨x, 0, none⟩ = some (.int .i64 0)) (e6 : w.cell? ⟨x, 1, none⟩ = some (.slice (some ⟨rb, 0, none⟩) 2 rc)) (e7 : w.cell? ⟨x, 2, none⟩ = some (.slice (some ⟨sb, 0, none⟩) 2 2))
    (es : w.cell? ⟨sb, j, none⟩ = some (.int .i64 s)) (er : w.cell? ⟨rb, j, none⟩ = some (.bool b)) :
    Calls Try.prog 162 #[.pointer (some ⟨x, 0, none⟩), .int .i64 j] w fun e w' => e = .returned (.agg #[.bool b, .int .i64 s]) ∧ Below w.heap.size w w' := by
  have hm := meth_isRef #[.int .i64 0, .slice (some ⟨rb, 0, none⟩) 2 rc]
  have HB : Hid (Below w.heap.size w (w.alloc (.cells #[.bool false, .int .i64 0] 126))) := Lib.hid ((Below.refl _ _).alloc (Nat.le_refl _) _)
  have q0 : (w.alloc (.cells #[.bool false, .int .i64 0] 126)).cell? ⟨w.heap.size, 0, none⟩ = some (.bool false) := World.cell?_alloc_at _ _ _ _ rfl
  have q1 : (w.alloc (.cells #[.bool false, .int .i64 0] 126)).cell? ⟨w.heap.size, 1, none⟩ = some (.int .i64 0) := World.cell?_alloc_at _ _ _ _ rfl
  have z0 : (w.alloc (.cells #[.bool false, .int .i64 0] 126)).frozen? ⟨w.heap.size, 0, none⟩ = false := World.frozen?_alloc_at _ _ _ _ rfl
  have z1 : (w.alloc (.cells #[.bool false, .int .i64 0] 126)).frozen? ⟨w.heap.size, 1, none⟩ = false := World.frozen?_alloc_at _ _ _ _ rfl
  have d5 : (w.alloc (.cells #[.bool false, .int .i64 0] 126)).cell? ⟨x, 0, none⟩ = some (.int .i64 0) := (World.cell?_alloc_past _ _ _ hx).trans e5
  have d6 : (w.alloc (.cells #[.bool false, .int .i64 0] 126)).cell? ⟨x, 1, none⟩ = some (.slice (some ⟨rb, 0, none⟩) 2 rc) := (World.cell?_alloc_past _ _ _ hx).trans e6
  have d7 : (w.alloc (.cells #[.bool false, .int .i64 0] 126)).cell? ⟨x, 2, none⟩ = some (.slice (some ⟨sb, 0, none⟩) 2 2) := (World.cell?_alloc_past _ _ _ hx).trans e7
  have ds : (w.alloc (.cells #[.bool false, .int .i64 0] 126)).cell? ⟨sb, j, none⟩ = some (.int .i64 s) := (World.cell?_alloc_past _ _ _ hs).trans es
  have dr : (w.alloc (.cells #[.bool false, .int .i64 0] 126)).cell? ⟨rb, j, none⟩ = some (.bool b) := (World.cell?_alloc_past _ _ _ hr).trans er
  have hj' : (j : Int) < 2 := by omega
  have hz : (w.alloc (.cells #[.bool false, .int .i64 0] 126)).heap.size = w.heap.size + 1 := by simp
  have HZ := Lib.hid hz
  clear hz
  go_enter Try.func162, Try.ntmps162
  go_wp2
  generalize w.alloc (.cells #[.bool false, .int .i64 0] 126) = w1 at *
  have F : Hid (rb < w1.drew.heap.size) := Lib.hid (by have := HZ.out; show rb < w1.heap.size; omega)
  have G : Hid (w1.drew.cell? ⟨rb, j, none⟩ = some (.bool b)) := Lib.hid dr
  have hb1 : x < w1.drew.heap.size := by have := HZ.out; show x < w1.heap.size; omega
  have hb2 : sb < w1.drew.heap.size := by have := HZ.out; show sb < w1.heap.size; omega
  have hb3 : w.heap.size < w1.drew.heap.size := by have := HZ.out; show w.heap.size < w1.heap.size; omega
  have K0 : w1.drew.cell? ⟨x, 0, none⟩ = some (.int .i64 0) ∧ w1.drew.cell? ⟨x, 1, none⟩ = some (.slice (some ⟨rb, 0, none⟩) 2 rc) ∧ w1.drew.cell? ⟨x, 2, none⟩ = some (.slice (some ⟨sb, 0, none⟩) 2 2) ∧ w1.drew.cell? ⟨sb, j, none⟩ = some (.int .i64 s) := ⟨d5, d6, d7, ds⟩
  have hxw : x ≠ w.heap.size := by omega
  have hsw : sb ≠ w.heap.size := by omega
  have ne : ∀ b o i, b ≠ w.heap.size → (⟨w.heap.size, i, none⟩ : Addr) ≠ ⟨b, o, none⟩ := fun b o i hb g => hb (by injection g with g1 _; exact g1.symm)
  have HK0 := Lib.hid K0
  have HN := Lib.hid ne
  clear K0 ne
  go_region_held3 (fun w' => w'.cell? ⟨x, 0, none⟩ = some (.int .i64 0) ∧ w'.cell? ⟨x, 1, none⟩ = some (.slice (some ⟨rb, 0, none⟩) 2 rc) ∧ w'.cell? ⟨x, 2, none⟩ = some (.slice (some ⟨sb, 0, none⟩) 2 2) ∧ w'.cell? ⟨sb, j, none⟩ = some (.int .i64 s)) (first | exact HK0.out | exact ⟨n1, n2, n3, n4⟩ | exact ⟨(World.cell?_setCell_other _ _ _ _ (HN.out _ _ _ hxw)).trans ((World.cell?_setCell_other _ _ _ _ (HN.out _ _ _ hxw)).trans n1), (World.cell?_setCell_other _ _ _ _ (HN.out _ _ _ hxw)).trans ((World.cell?_setCell_other _ _ _ _ (HN.out _ _ _ hxw)).trans n2), (World.cell?_setCell_other _ _ _ _ (HN.out _ _ _ hxw)).trans ((World.cell?_setCell_other _ _ _ _ (HN.out _ _ _ hxw)).trans n3), (World.cell?_setCell_other _ _ _ _ (HN.out _ _ _ hsw)).trans ((World.cell?_setCell_other _ _ _ _ (HN.out _ _ _ hsw)).trans n4)⟩)
    (first | (go_at_call 161; refine (isRef_b rb rc j b _ hj F.out G.out).mono ?_; rintro e w2 ⟨rfl, hB2⟩; have n1 := (hB2.cell (p := ⟨x, 0, none⟩) hb1).trans HK0.out.1; have n2 := (hB2.cell (p := ⟨x, 1, none⟩) hb1).trans HK0.out.2.1; have n3 := (hB2.cell (p := ⟨x, 2, none⟩) hb1).trans HK0.out.2.2.1; have n4 := (hB2.cell (p := ⟨sb, j, none⟩) hb2).trans HK0.out.2.2.2; have k0 := (hB2.cell (p := ⟨w.heap.size, 0, none⟩) hb3).trans q0; have k1 := (hB2.cell (p := ⟨w.heap.size, 1, none⟩) hb3).trans q1; have l0 := (hB2.frozen (p := ⟨w.heap.size, 0, none⟩) hb3).trans z0; have l1 := (hB2.frozen (p := ⟨w.heap.size, 1, none⟩) hb3).trans z1; have HB2 := Lib.hid hB2; clear hB2))
  have hz2 := HZ.out
  go_wp2
  obtain ⟨t0, t1⟩ := set2 w2 w.heap.size _ _ (.bool b) (.int .i64 s) k0 k1
  refine bodyPost_ret (v := .agg #[.bool b, .int .i64 s]) (by simp [results, Try.results162, go_sem, t0, t1]) rfl ⟨rfl, ?_⟩
  exact ((HB.out.drew.trans (HB2.out.mono (Nat.le_of_lt hb3))).setCell (Nat.le_refl _) _).setCell (Nat.le_refl _) _
set_option maxRecDepth 100000 in
theorem get_c (h ob x cp sb rb rc j : Nat) (us s0 s1 th ct : Int) (r0 r1 : Bool) (s : Int) (b : Bool) (w : World) (hj : j < 2) (hs : (if j = 0 then s0 else s1) = s) (hb : (if j = 0 then r0 else r1) = b) (H : Hid (Obj2 w h ob x cp sb rb rc us s0 s1 th ct r0 r1)) :
    Calls Try.prog 102 #[.pointer (some ⟨h, 0, none⟩), .int .i64 1, .int .i64 j] w fun e w' => e = .returned (.tuple #[.agg #[.bool b, .int .i64 s], .bool true]) ∧ Below w.heap.size w w' := by
  have hj' : (j : Int) < 2 := by omega
  have HB : Hid (Below w.heap.size w (w.alloc (.cells #[.bool false, .int .i64 0] 126))) := Lib.hid ((Below.refl _ _).alloc (Nat.le_refl _) _)
  obtain ⟨⟨a1, a2, a3, a4, a5, a6, a7⟩, e1, e2, e3, e4, e5, e6, e7, e8, e9, e10, e11, e12, e13, e14, e15, e16⟩ := (H.out.below HB.out)
  have es : (w.alloc (.cells #[.bool false, .int .i64 0] 126)).cell? ⟨sb, j, none⟩ = some (.int .i64 s) := by
    have : j = 0 ∨ j = 1 := by omega
    rcases this with rfl | rfl
    · rw [← hs]; exact e12
    · rw [← hs]; exact e13
  have er : (w.alloc (.cells #[.bool false, .int .i64 0] 126)).cell? ⟨rb, j, none⟩ = some (.bool b) := by
    have : j = 0 ∨ j = 1 := by omega
    rcases this with rfl | rfl
    · rw [← hb]; exact e15
    · rw [← hb]; exact e16
  have HS := Lib.hid hs
  have HBB := Lib.hid hb
  clear hs hb
  have hm := meth_get x
  have q0 : (w.alloc (.cells #[.bool false, .int .i64 0] 126)).cell? ⟨w.heap.size, 0, none⟩ = some (.bool false) := World.cell?_alloc_at _ _ _ _ rfl
  have q1 : (w.alloc (.cells #[.bool false, .int .i64 0] 126)).cell? ⟨w.heap.size, 1, none⟩ = some (.int .i64 0) := World.cell?_alloc_at _ _ _ _ rfl
  have z0 : (w.alloc (.cells #[.bool false, .int .i64 0] 126)).frozen? ⟨w.heap.size, 0, none⟩ = false := World.frozen?_alloc_at _ _ _ _ rfl
  have z1 : (w.alloc (.cells #[.bool false, .int .i64 0] 126)).frozen? ⟨w.heap.size, 1, none⟩ = false := World.frozen?_alloc_at _ _ _ _ rfl
  have hz : (w.alloc (.cells #[.bool false, .int .i64 0] 126)).heap.size = w.heap.size + 1 := by simp
  have HZ := Lib.hid hz
  clear hz
  go_enter Try.func102, Try.ntmps102
  go_wp2_with (first | (go_at_call 124; refine (hasSlot_c h ob x cp sb j _ (by omega) hj' e3 e4 e7).mono ?_; rintro e w' ⟨rfl, rfl⟩) | (go_at_call 105; refine (find_y h ob x cp _ e3 e4).mono ?_; rintro e w' ⟨rfl, rfl⟩) | (go_at_call 162; refine (getm_c x sb rb rc j s b _ hj a6 (by omega) (by omega) e5 e6 e7 es er).mono ?_; rintro e w2 ⟨rfl, hB2⟩; have k0 := (hB2.cell (p := ⟨w.heap.size, 0, none⟩) (by simp)).trans q0; have k1 := (hB2.cell (p := ⟨w.heap.size, 1, none⟩) (by simp)).trans q1; have l0 := (hB2.frozen (p := ⟨w.heap.size, 0, none⟩) (by simp)).trans z0; have l1 := (hB2.frozen (p := ⟨w.heap.size, 1, none⟩) (by simp)).trans z1; have HB2 := Lib.hid hB2; clear hB2))
  obtain ⟨t0, t1⟩ := set2 w2 w.heap.size _ _ (.bool b) (.int .i64 s) k0 k1
  refine bodyPost_ret (v := .tuple #[.agg #[.bool b, .int .i64 s], .bool true]) (by simp [results, Try.results102, go_sem, t0, t1]) rfl ⟨rfl, ?_⟩
  exact ((HB.out.trans (HB2.out.mono (by simp))).setCell (Nat.le_refl _) _).setCell (Nat.le_refl _) _
end Go.Proofs.Ytapcapcbndooiaa
