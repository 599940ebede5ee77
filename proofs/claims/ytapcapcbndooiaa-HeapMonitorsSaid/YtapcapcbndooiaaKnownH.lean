import Derived.Test.YtapcapcbndooiaaRows
import Derived.WalkKit
import Derived.ProofKit
import Derived.OpenShut
import Derived.Deep.QuietTactic
import Derived.BigQuiet
import Derived.Outline
import Derived.WalkSmall
import Derived.WalkLawsBesides
import Derived.WalkSpells
import Derived.BigGuardPart
import Derived.RegionTactic
import Derived.Deep.RegionHeld3
import Derived.Lib.Hide
import Derived.Deep.OwnRows
import Derived.Test.YtapcapcbndooiaaNewK
import Derived.Test.YtapcapcbndooiaaSlot2
import Derived.Test.YtapcapcbndooiaaObject
import Derived.StillTailTactics
import Derived.Test.YtapcapcbndooiaaHeap
import Derived.Test.YtapcapcbndooiaaMon
import Derived.Maps.AppendAt
import Derived.Deep.AppendLies
import Derived.Below
namespace Go.Proofs.Ytapcapcbndooiaa
open Go.ChangeShapes Go.WideShapes Go.ChangeAt Go.RowKit
set_option linter.unusedVariables false
theorem Obj2.ne {w : World} {h ob x cp sb rb rc : Nat} {us s0 s1 th ct : Int} {r0 r1 : Bool} (g : Obj2 w h ob x cp sb rb rc us s0 s1 th ct r0 r1) : ob ≠ x := by
  obtain ⟨⟨a1, a2, a3, a4, a5, a6, a7⟩, e1, e2, e3, e4, e5, _⟩ := g
  intro k
  rw [k, e5] at e4
  injection e4 with e4
  cases e4
theorem Obj2.set3 {w : World} {h ob x cp sb rb rc : Nat} {us s0 s1 th ct : Int} {r0 r1 : Bool} (g : Obj2 w h ob x cp sb rb rc us s0 s1 th ct r0 r1) (t : Int) : Obj2 (w.setCell ⟨x, 3, none⟩ (.int .i64 t)) h ob x cp sb rb rc us s0 s1 t ct r0 r1 := by
  have hox := g.ne
  obtain ⟨⟨a1, a2, a3, a4, a5, a6, a7⟩, e1, e2, e3, e4, e5, e6, e7, e8, e9, e10, e11, e12, e13, e14, e15, e16⟩ := g
  have ne : ∀ b o, b ≠ x ∨ o ≠ 3 → (⟨x, 3, none⟩ : Addr) ≠ ⟨b, o, none⟩ := fun b o hb g => by injection g with g1 g2; rcases hb with hb | hb <;> omega
  have k : ∀ b o, b ≠ x ∨ o ≠ 3 → (w.setCell ⟨x, 3, none⟩ (.int .i64 t)).cell? ⟨b, o, none⟩ = w.cell? ⟨b, o, none⟩ := fun b o hb => World.cell?_setCell_other _ _ _ _ (ne b o hb)
  have f : ∀ a, (w.setCell ⟨x, 3, none⟩ (.int .i64 t)).frozen? a = w.frozen? a := fun a => World.frozen?_setCell _ _ _ _
  have hz : (w.setCell ⟨x, 3, none⟩ (.int .i64 t)).heap.size = w.heap.size := by simp [World.setCell]
  exact ⟨⟨a1, a2, a3, a4, a5, by omega, by omega⟩, (k _ _ (by omega)).trans e1, (k _ _ (by omega)).trans e2, (k _ _ (by omega)).trans e3, (k _ _ (by omega)).trans e4, (k _ _ (by omega)).trans e5, (k _ _ (by omega)).trans e6, (k _ _ (by omega)).trans e7, World.cell?_setCell_same _ _ _ e8, (k _ _ (by omega)).trans e9, (f _).trans e10, (f _).trans e11, (k _ _ (by omega)).trans e12, (k _ _ (by omega)).trans e13, (f _).trans e14, (k _ _ (by omega)).trans e15, (k _ _ (by omega)).trans e16⟩
theorem Obj2.set4 {w : World} {h ob x cp sb rb rc : Nat} {us s0 s1 th ct : Int} {r0 r1 : Bool} (g : Obj2 w h ob x cp sb rb rc us s0 s1 th ct r0 r1) (t : Int) : Obj2 (w.setCell ⟨x, 4, none⟩ (.int .i64 t)) h ob x cp sb rb rc us s0 s1 th t r0 r1 := by
  have hox := g.ne
  obtain ⟨⟨a1, a2, a3, a4, a5, a6, a7⟩, e1, e2, e3, e4, e5, e6, e7, e8, e9, e10, e11, e12, e13, e14, e15, e16⟩ := g
  have ne : ∀ b o, b ≠ x ∨ o ≠ 4 → (⟨x, 4, none⟩ : Addr) ≠ ⟨b, o, none⟩ := fun b o hb g => by injection g with g1 g2; rcases hb with hb | hb <;> omega
  have k : ∀ b o, b ≠ x ∨ o ≠ 4 → (w.setCell ⟨x, 4, none⟩ (.int .i64 t)).cell? ⟨b, o, none⟩ = w.cell? ⟨b, o, none⟩ := fun b o hb => World.cell?_setCell_other _ _ _ _ (ne b o hb)
  have f : ∀ a, (w.setCell ⟨x, 4, none⟩ (.int .i64 t)).frozen? a = w.frozen? a := fun a => World.frozen?_setCell _ _ _ _
  have hz : (w.setCell ⟨x, 4, none⟩ (.int .i64 t)).heap.size = w.heap.size := by simp [World.setCell]
  exact ⟨⟨a1, a2, a3, a4, a5, by omega, by omega⟩, (k _ _ (by omega)).trans e1, (k _ _ (by omega)).trans e2, (k _ _ (by omega)).trans e3, (k _ _ (by omega)).trans e4, (k _ _ (by omega)).trans e5, (k _ _ (by omega)).trans e6, (k _ _ (by omega)).trans e7, (k _ _ (by omega)).trans e8, World.cell?_setCell_same _ _ _ e9, (f _).trans e10, (f _).trans e11, (k _ _ (by omega)).trans e12, (k _ _ (by omega)).trans e13, (f _).trans e14, (k _ _ (by omega)).trans e15, (k _ _ (by omega)).trans e16⟩
theorem Obj2.x_lt {w : World} {h ob x cp sb rb rc : Nat} {us s0 s1 th ct : Int} {r0 r1 : Bool} (g : Obj2 w h ob x cp sb rb rc us s0 s1 th ct r0 r1) : h < x := by
  obtain ⟨⟨a1, a2, a3, a4, a5, a6, a7⟩, _⟩ := g
  omega
set_option maxRecDepth 1000000 in
set_option maxHeartbeats 2000000 in
theorem known_h (w : World) : Calls Try.prog 42 #[] w fun e w' => e = .returned (.bool true) ∧ Below w.heap.size w w' := by
  go_enter Try.func42, Try.ntmps42
  go_wp2_with (go_at_call 43; refine (new_p 10 _ (by omega) (by omega)).mono ?_; rintro e w1 ⟨h, rfl, hw, hh, c0, c1, c2, z1, z2, hb1⟩; have HB1 := Lib.hid hb1; clear hb1)
  refine (object_k h _ hh c0 c1 c2 z1 z2).mono ?_
  rintro e w2 ⟨ob, x, cp, sb, rb, rc, rfl, hb2, o2⟩
  have HB2 : Hid (Below w.heap.size w w2) := Lib.hid ((HB1.out.alloc (by have := HB1.out.size; omega) _).trans (hb2.mono hw))
  have HO2 := Lib.hid o2
  clear hb2 o2 HB1 c0 c1 c2 z1 z2
  go_wp2_with (go_at_call 44; refine (array_n2 h 1 3 10 5 _ (by omega) (by omega) (by omega) (by omega) (by omega) (by omega) (by omega) HO2.out.2.1 HO2.out.2.2.1).mono ?_; rintro e w3 ⟨rfl, q, rfl⟩; have HO3 := Lib.hid (HO2.out.below (below_drewN (Below.refl _ _) q)); have HB3 := Lib.hid (below_drewN HB2.out q); clear HO2 HB2)
  refine (put_c h ob x cp sb rb rc _ _ _ _ _ _ _ _ HO3).mono ?_
  rintro e w4 ⟨rfl, hb4, o4⟩
  have HB4 := Lib.hid (HB3.out.trans (hb4.mono hw))
  have HO4 := Lib.hid o4
  clear hb4 o4 HB3 HO3
  go_wp2_with (go_at_call 102; refine (get_c h ob x cp sb rb rc 0 _ _ _ _ _ _ _ 5 false _ (by omega) rfl rfl HO4).mono ?_; rintro e w5 ⟨rfl, hb5⟩; have HO5 := Lib.hid (HO4.out.below hb5); have HB5 := Lib.hid (HB4.out.trans (hb5.mono HB4.out.size)); clear hb5 HO4 HB4)
  have HO6 := Lib.hid (HO5.out.below ((Below.refl _ _).alloc (Nat.le_refl _) (.cells #[.bool false, .int .i64 5] 126)))
  refine (get_c h ob x cp sb rb rc 1 _ _ _ _ _ _ _ 0 true _ (by omega) rfl rfl HO6).mono ?_
  rintro e w6 ⟨rfl, hb6⟩
  have hs5 := HB5.out.size
  have v5 : w6.cell? ⟨w5.heap.size, 1, none⟩ = some (.int .i64 5) := (hb6.cell (p := ⟨w5.heap.size, 1, none⟩) (by simp)).trans (World.cell?_alloc_at _ _ _ _ rfl)
  have l5 : w5.heap.size < w6.heap.size := by have := hb6.size; simp at this; omega
  have HO7 := Lib.hid (HO6.out.below hb6)
  have HO8 := Lib.hid (HO7.out.below ((Below.refl _ _).alloc (Nat.le_refl _) (.cells #[.bool true, .int .i64 0] 126)))
  have HB6 := Lib.hid ((HB5.out.alloc hs5 _).trans (hb6.mono (by simp; omega)))
  have HB8 := Lib.hid (HB6.out.alloc HB6.out.size (.cells #[.bool true, .int .i64 0] 126))
  have v8 : (w6.alloc (.cells #[.bool true, .int .i64 0] 126)).cell? ⟨w5.heap.size, 1, none⟩ = some (.int .i64 5) := (World.cell?_alloc_past _ _ _ l5).trans v5
  clear hb6 HO5 HO6 HO7 HB5 HB6 v5
  go_wp2_with (go_at_call 45; refine (used_c h 0 0 5 _ HO8.out.2.2.1).mono ?_; rintro e w' ⟨rfl, rfl⟩)
  have hx8 := HO8.out.x_lt
  obtain ⟨_, f1, f2, f3, f4, f5, f6, f7, f8, f9, f10, f11, _⟩ := HO8.out
  refine (enter_0 h ob x cp 0 2 _ f3 f4 f8 f9 f10 f11).mono ?_
  rintro e w9 ⟨rfl, rfl⟩
  have HO9 := Lib.hid ((HO8.out.set3 2).set4 1)
  have HB9 := Lib.hid ((HB8.out.setCell (by show w.heap.size ≤ x; omega) (.int .i64 2) (p := ⟨x, 3, none⟩)).setCell (by show w.heap.size ≤ x; omega) (.int .i64 1) (p := ⟨x, 4, none⟩))
  generalize ((w6.alloc (.cells #[.bool true, .int .i64 0] 126)).setCell ⟨x, 3, none⟩ (.int .i64 2)).setCell ⟨x, 4, none⟩ (.int .i64 1) = w9 at *
  clear f1 f2 f3 f4 f5 f6 f7 f8 f9 f10 f11
  obtain ⟨_, f1, f2, f3, f4, f5, f6, f7, f8, f9, f10, f11, _⟩ := HO9.out
  go_wp2_with (go_at_call 48; refine (enter_n h ob x cp 2 1 1 _ (by omega) rfl f3 f4 f8 f9 f10 f11).mono ?_; rintro e w' ⟨rfl, rfl⟩)
  refine (exit_y h ob x cp 1 2 _ (by omega) (by omega) f3 f4 f8 f9 f10 f11).mono ?_
  rintro e w10 ⟨rfl, rfl⟩
  have HB10 := Lib.hid (HB9.out.setCell (by show w.heap.size ≤ x; omega) (.int .i64 (1 - 1)) (p := ⟨x, 4, none⟩))
  generalize w9.setCell ⟨x, 4, none⟩ (.int .i64 (1 - 1)) = w10 at *
  clear f1 f2 f3 f4 f5 f6 f7 f8 f9 f10 f11
  go_wp2
  refine bodyPost_ret (v := .bool true) (by simp [results, Try.results42, go_sem]) rfl ⟨rfl, HB10.out⟩
end Go.Proofs.Ytapcapcbndooiaa
