import Derived.Test.YtapcapcbndooiaaRows
import Derived.WalkKit
import Derived.ProofKit
import Derived.OpenShut
import Derived.Deep.QuietTactic
import Derived.BigQuiet
import Derived.Outline
import Derived.WalkSmall
import Derived.WalkLawsBesides
import Derived.WalkSpells
import Derived.BigGuardPart
import Derived.RegionTactic
import Derived.Deep.RegionHeld3
import Derived.Lib.Hide
import Derived.Deep.OwnRows
import Derived.Test.YtapcapcbndooiaaKnownH
import Derived.Test.YtapcapcbndooiaaNewK
import Derived.Test.YtapcapcbndooiaaSlot2
import Derived.Test.YtapcapcbndooiaaObject
import Derived.StillTailTactics
import Derived.Test.YtapcapcbndooiaaHeap
import Derived.Test.YtapcapcbndooiaaMon
import Derived.Maps.AppendAt
import Derived.Deep.AppendLies
import Derived.Below
namespace Go.Proofs.Ytapcapcbndooiaa
open Go.ChangeShapes Go.WideShapes Go.ChangeAt Go.RowKit
set_option linter.unusedVariables false
def Mon (w : World) (B h ob x cp : Nat) (th ct : Int) : Prop := (B ≤ h ∧ B ≤ x ∧ h ≠ x ∧ ob ≠ x) ∧ w.cell? ⟨h, 2, none⟩ = some (.slice (some ⟨ob, 0, none⟩) 1 cp) ∧ w.cell? ⟨ob, 0, none⟩ = some (.iface 143 (.pointer (some ⟨x, 0, none⟩))) ∧ w.cell? ⟨x, 3, none⟩ = some (.int .i64 th) ∧ w.cell? ⟨x, 4, none⟩ = some (.int .i64 ct) ∧ w.frozen? ⟨x, 3, none⟩ = false ∧ w.frozen? ⟨x, 4, none⟩ = false
theorem Mon.set3 {w : World} {B h ob x cp : Nat} {th ct : Int} (g : Mon w B h ob x cp th ct) (t : Int) : Mon (w.setCell ⟨x, 3, none⟩ (.int .i64 t)) B h ob x cp t ct := by
  obtain ⟨⟨a1, a2, a3, a4⟩, e1, e2, e3, e4, e5, e6⟩ := g
  have ne : ∀ b o, b ≠ x ∨ o ≠ 3 → (⟨x, 3, none⟩ : Addr) ≠ ⟨b, o, none⟩ := fun b o hb g => by injection g with g1 g2; rcases hb with hb | hb <;> omega
  have k : ∀ b o, b ≠ x ∨ o ≠ 3 → (w.setCell ⟨x, 3, none⟩ (.int .i64 t)).cell? ⟨b, o, none⟩ = w.cell? ⟨b, o, none⟩ := fun b o hb => World.cell?_setCell_other _ _ _ _ (ne b o hb)
  have f : ∀ a, (w.setCell ⟨x, 3, none⟩ (.int .i64 t)).frozen? a = w.frozen? a := fun a => World.frozen?_setCell _ _ _ _
  exact ⟨⟨a1, a2, a3, a4⟩, (k _ _ (by omega)).trans e1, (k _ _ (by omega)).trans e2, World.cell?_setCell_same _ _ _ e3, (k _ _ (by omega)).trans e4, (f _).trans e5, (f _).trans e6⟩
theorem Mon.set4 {w : World} {B h ob x cp : Nat} {th ct : Int} (g : Mon w B h ob x cp th ct) (t : Int) : Mon (w.setCell ⟨x, 4, none⟩ (.int .i64 t)) B h ob x cp th t := by
  obtain ⟨⟨a1, a2, a3, a4⟩, e1, e2, e3, e4, e5, e6⟩ := g
  have ne : ∀ b o, b ≠ x ∨ o ≠ 4 → (⟨x, 4, none⟩ : Addr) ≠ ⟨b, o, none⟩ := fun b o hb g => by injection g with g1 g2; rcases hb with hb | hb <;> omega
  have k : ∀ b o, b ≠ x ∨ o ≠ 4 → (w.setCell ⟨x, 4, none⟩ (.int .i64 t)).cell? ⟨b, o, none⟩ = w.cell? ⟨b, o, none⟩ := fun b o hb => World.cell?_setCell_other _ _ _ _ (ne b o hb)
  have f : ∀ a, (w.setCell ⟨x, 4, none⟩ (.int .i64 t)).frozen? a = w.frozen? a := fun a => World.frozen?_setCell _ _ _ _
  exact ⟨⟨a1, a2, a3, a4⟩, (k _ _ (by omega)).trans e1, (k _ _ (by omega)).trans e2, (k _ _ (by omega)).trans e3, World.cell?_setCell_same _ _ _ e4, (f _).trans e5, (f _).trans e6⟩
def MonP (B h ob x cp : Nat) (th ct : Int) (b : Bool) (w : World) (e : Ending) (w' : World) : Prop := e = .returned (.bool b) ∧ Mon w' B h ob x cp th ct ∧ Below B w w'
theorem menter_0 (B h ob x cp : Nat) (th t : Int) (w : World) (H : Hid (Mon w B h ob x cp th 0)) : Calls Try.prog 48 #[.pointer (some ⟨h, 0, none⟩), .int .i64 t, .int .i64 1] w (MonP B h ob x cp t 1 true w) := by
  obtain ⟨⟨a1, a2, a3, a4⟩, e1, e2, e3, e4, e5, e6⟩ := H.out
  refine (enter_0 h ob x cp th t w e1 e2 e3 e4 e5 e6).mono ?_
  rintro e w' ⟨rfl, rfl⟩
  exact ⟨rfl, (H.out.set3 t).set4 1, ((Below.refl _ _).setCell a2 _).setCell a2 _⟩
theorem menter_s (B h ob x cp : Nat) (ct t : Int) (w : World) (c0 : 0 < ct) (c1 : ct ≤ 1000000) (H : Hid (Mon w B h ob x cp t ct)) : Calls Try.prog 48 #[.pointer (some ⟨h, 0, none⟩), .int .i64 t, .int .i64 1] w (MonP B h ob x cp t (ct + 1) true w) := by
  obtain ⟨⟨a1, a2, a3, a4⟩, e1, e2, e3, e4, e5, e6⟩ := H.out
  refine (enter_s h ob x cp ct t w c0 c1 e1 e2 e3 e4 e5 e6).mono ?_
  rintro e w' ⟨rfl, rfl⟩
  exact ⟨rfl, (H.out.set3 t).set4 _, ((Below.refl _ _).setCell a2 _).setCell a2 _⟩
theorem menter_n (B h ob x cp : Nat) (th ct t : Int) (w : World) (c0 : 0 < ct) (ne : (th == t) = false) (H : Hid (Mon w B h ob x cp th ct)) : Calls Try.prog 48 #[.pointer (some ⟨h, 0, none⟩), .int .i64 t, .int .i64 1] w (MonP B h ob x cp th ct false w) := by
  obtain ⟨⟨a1, a2, a3, a4⟩, e1, e2, e3, e4, e5, e6⟩ := H.out
  refine (enter_n h ob x cp th ct t w c0 ne e1 e2 e3 e4 e5 e6).mono ?_
  rintro e w' ⟨rfl, rfl⟩
  exact ⟨rfl, H.out, Below.refl _ _⟩
theorem mexit_0 (B h ob x cp : Nat) (th t : Int) (w : World) (H : Hid (Mon w B h ob x cp th 0)) : Calls Try.prog 49 #[.pointer (some ⟨h, 0, none⟩), .int .i64 t, .int .i64 1] w (MonP B h ob x cp th 0 false w) := by
  obtain ⟨⟨a1, a2, a3, a4⟩, e1, e2, e3, e4, e5, e6⟩ := H.out
  refine (exit_0 h ob x cp th t w e1 e2 e3 e4 e5 e6).mono ?_
  rintro e w' ⟨rfl, rfl⟩
  exact ⟨rfl, H.out, Below.refl _ _⟩
theorem mexit_y (B h ob x cp : Nat) (ct t : Int) (w : World) (c0 : 0 < ct) (c1 : ct ≤ 1000000) (H : Hid (Mon w B h ob x cp t ct)) : Calls Try.prog 49 #[.pointer (some ⟨h, 0, none⟩), .int .i64 t, .int .i64 1] w (MonP B h ob x cp t (ct - 1) true w) := by
  obtain ⟨⟨a1, a2, a3, a4⟩, e1, e2, e3, e4, e5, e6⟩ := H.out
  refine (exit_y h ob x cp ct t w c0 c1 e1 e2 e3 e4 e5 e6).mono ?_
  rintro e w' ⟨rfl, rfl⟩
  exact ⟨rfl, H.out.set4 _, (Below.refl _ _).setCell a2 _⟩
theorem mexit_n (B h ob x cp : Nat) (th ct t : Int) (w : World) (c0 : 0 < ct) (ne : (th == t) = false) (H : Hid (Mon w B h ob x cp th ct)) : Calls Try.prog 49 #[.pointer (some ⟨h, 0, none⟩), .int .i64 t, .int .i64 1] w (MonP B h ob x cp th ct false w) := by
  obtain ⟨⟨a1, a2, a3, a4⟩, e1, e2, e3, e4, e5, e6⟩ := H.out
  refine (exit_n h ob x cp th ct t w c0 ne e1 e2 e3 e4 e5 e6).mono ?_
  rintro e w' ⟨rfl, rfl⟩
  exact ⟨rfl, H.out, Below.refl _ _⟩
def MonO (B h ob x cp : Nat) (th ct o n : Int) (w : World) (e : Ending) (w' : World) : Prop := e = .returned (.tuple #[.int .i64 o, .int .i64 n]) ∧ Mon w' B h ob x cp th ct ∧ Below B w w'
theorem mowner_0 (B h ob x cp : Nat) (th : Int) (w : World) (H : Hid (Mon w B h ob x cp th 0)) : Calls Try.prog 50 #[.pointer (some ⟨h, 0, none⟩), .int .i64 1] w (MonO B h ob x cp th 0 (-1) 0 w) := by
  obtain ⟨⟨a1, a2, a3, a4⟩, e1, e2, e3, e4, e5, e6⟩ := H.out
  refine (owner_0 h ob x cp th w e1 e2 e3 e4 e5 e6).mono ?_
  rintro e w' ⟨rfl, rfl⟩
  exact ⟨rfl, H.out, Below.refl _ _⟩
theorem mowner_p (B h ob x cp : Nat) (th ct : Int) (w : World) (c0 : 0 < ct) (H : Hid (Mon w B h ob x cp th ct)) : Calls Try.prog 50 #[.pointer (some ⟨h, 0, none⟩), .int .i64 1] w (MonO B h ob x cp th ct th ct w) := by
  obtain ⟨⟨a1, a2, a3, a4⟩, e1, e2, e3, e4, e5, e6⟩ := H.out
  refine (owner_p h ob x cp th ct w c0 e1 e2 e3 e4 e5 e6).mono ?_
  rintro e w' ⟨rfl, q, rfl⟩
  exact ⟨rfl, H.out, below_drewN (Below.refl _ _) q⟩
def ObjM (h : Nat) (w : World) (e : Ending) (w' : World) : Prop := ∃ ob x cp, e = .returned (.tuple #[.int .i64 1, .bool true]) ∧ Below h w w' ∧ Mon w' h h ob x cp 0 0
theorem object_m (h : Nat) (w : World) (hh : h < w.heap.size) (c0 : w.cell? ⟨h, 0, none⟩ = some (.int .i64 100)) (c1 : w.cell? ⟨h, 1, none⟩ = some (.int .i64 0)) (c2 : w.cell? ⟨h, 2, none⟩ = some (.slice none 0 0)) (z1 : w.frozen? ⟨h, 1, none⟩ = false) (z2 : w.frozen? ⟨h, 2, none⟩ = false) :
    Calls Try.prog 47 #[.pointer (some ⟨h, 0, none⟩), .int .i64 0, .slice none 0 0] w (ObjM h w) := by
  refine (object_c h 0 0 none [] 100 0 w (by omega) hh (by omega) (by omega) (by omega) (by omega) (by omega) (Lib.hid (fun j hj => absurd hj (by omega))) c0 c1 c2 z1 z2).mono ?_
  rintro e w' ⟨rfl, hB, ob, x, cp, sb, v, ⟨a1, a2, a3, a4, a5, a6, e1, e2, e3, e4, e5, e6, e7, e8, e9, e10, e11, hs⟩⟩
  have hox : ob ≠ x := by
    intro k
    rw [k, e5] at e4
    injection e4 with e4
    cases e4
  exact ⟨ob, x, cp, rfl, hB, ⟨⟨Nat.le_refl _, by omega, by omega, hox⟩, e3, e4, e8, e9, e10, e11⟩⟩
end Go.Proofs.Ytapcapcbndooiaa
