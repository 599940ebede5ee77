import Derived.Test.YtapcapcbndooiaaRows
import Derived.WalkKit
import Derived.ProofKit
import Derived.OpenShut
import Derived.Deep.QuietTactic
import Derived.BigQuiet
import Derived.Outline
import Derived.WalkSmall
import Derived.WalkLawsBesides
import Derived.WalkSpells
import Derived.BigGuardPart
import Derived.RegionTactic
import Derived.Deep.RegionHeld3
import Derived.Lib.Hide
import Derived.Deep.OwnRows
import Derived.Test.YtapcapcbndooiaaSlot2
import Derived.Test.YtapcapcbndooiaaObject
import Derived.StillTailTactics
import Derived.Test.YtapcapcbndooiaaHeap
import Derived.Test.YtapcapcbndooiaaMon
import Derived.Maps.AppendAt
import Derived.Deep.AppendLies
import Derived.Below
namespace Go.Proofs.Ytapcapcbndooiaa
open Go.ChangeShapes Go.WideShapes Go.ChangeAt Go.RowKit
set_option linter.unusedVariables false
set_option maxRecDepth 100000 in
theorem array_n2 (h : Nat) (t n wd us : Int) (w : World) (d0 : 0 ≤ wd) (d1 : wd ≤ 65536) (u0 : 0 ≤ us) (u1 : us ≤ 65536) (g0 : 0 ≤ n) (g1 : n ≤ 9223372036854775807) (hn : wd - us - 3 < n) (c0 : w.cell? ⟨h, 0, none⟩ = some (.int .i64 wd)) (c1 : w.cell? ⟨h, 1, none⟩ = some (.int .i64 us)) :
    Calls Try.prog 44 #[.pointer (some ⟨h, 0, none⟩), .int .i64 t, .int .i64 n] w (ArrN h 0 wd us w) := by
  have hd : decide (n < 0) = false := decide_eq_false (by omega)
  go_enter Try.func44, Try.ntmps44
  go_wp2_with (go_at_call 103; refine (take_n h wd us n _ (by omega) g1 d0 d1 u0 u1 hn c0 c1).mono ?_; rintro e w' ⟨rfl, q, rfl⟩)
  refine bodyPost_ret (v := .tuple #[.int .i64 0, .bool false]) (by simp [results, Try.results44, go_sem]) rfl ⟨rfl, q, rfl⟩
def NewP (n : Int) (w : World) (e : Ending) (w' : World) : Prop := ∃ h, e = .returned (.tuple #[.pointer (some ⟨h, 0, none⟩), .int .i64 0]) ∧ w.heap.size ≤ h ∧ h < w'.heap.size ∧ w'.cell? ⟨h, 0, none⟩ = some (.int .i64 n) ∧ w'.cell? ⟨h, 1, none⟩ = some (.int .i64 0) ∧ w'.cell? ⟨h, 2, none⟩ = some (.slice none 0 0) ∧ w'.frozen? ⟨h, 1, none⟩ = false ∧ w'.frozen? ⟨h, 2, none⟩ = false ∧ Below w.heap.size w w'
theorem new_p (n : Int) (w : World) (h0 : 0 ≤ n) (h1 : n ≤ 65536) : Calls Try.prog 43 #[.int .i64 n] w (NewP n w) := by
  refine (new_c n w h0 h1).mono ?_
  rintro e w' ⟨rfl, rfl⟩
  exact ⟨w.heap.size, rfl, Nat.le_refl _, by simp, World.cell?_alloc_at _ _ _ _ rfl, World.cell?_alloc_at _ _ _ _ rfl, World.cell?_alloc_at _ _ _ _ rfl, World.frozen?_alloc_at _ _ _ _ rfl, World.frozen?_alloc_at _ _ _ _ rfl, (Below.refl _ _).alloc (Nat.le_refl _) _⟩
def ObjK (h : Nat) (w : World) (e : Ending) (w' : World) : Prop := ∃ ob x cp sb rb rc, e = .returned (.tuple #[.int .i64 1, .bool true]) ∧ Below h w w' ∧ Obj2 w' h ob x cp sb rb rc 5 0 0 0 0 false true
theorem object_k (h : Nat) (w : World) (hh : h < w.heap.size) (c0 : w.cell? ⟨h, 0, none⟩ = some (.int .i64 10)) (c1 : w.cell? ⟨h, 1, none⟩ = some (.int .i64 0)) (c2 : w.cell? ⟨h, 2, none⟩ = some (.slice none 0 0)) (z1 : w.frozen? ⟨h, 1, none⟩ = false) (z2 : w.frozen? ⟨h, 2, none⟩ = false) :
    Calls Try.prog 47 #[.pointer (some ⟨h, 0, none⟩), .int .i64 0, .slice (some ⟨w.heap.size, 0, none⟩) 2 2] (w.alloc (.cells #[.int .i64 1, .bool false, .int .i64 2, .bool false] 122)) (ObjK h (w.alloc (.cells #[.int .i64 1, .bool false, .int .i64 2, .bool false] 122))) := by
  have HF : Hid (FieldsAt (w.alloc (.cells #[.int .i64 1, .bool false, .int .i64 2, .bool false] 122)) (w.alloc (.cells #[.int .i64 1, .bool false, .int .i64 2, .bool false] 122)).heap.size h (some ⟨w.heap.size, 0, none⟩) 2 [1, 2]) := Lib.hid (by
    intro j hj
    have : j = 0 ∨ j = 1 := by omega
    rcases this with rfl | rfl
    · exact ⟨w.heap.size, 1, false, rfl, by simp, by omega, rfl, World.cell?_alloc_at _ _ _ _ rfl, World.cell?_alloc_at _ _ _ _ rfl⟩
    · exact ⟨w.heap.size, 2, false, rfl, by simp, by omega, rfl, World.cell?_alloc_at _ _ _ _ rfl, World.cell?_alloc_at _ _ _ _ rfl⟩)
  refine (object_c h 2 2 (some ⟨w.heap.size, 0, none⟩) [1, 2] 10 0 _ (by omega) (by simp; omega) (by omega) (by omega) (by omega) (by omega) (by omega) HF ((World.cell?_alloc_past _ _ _ hh).trans c0) ((World.cell?_alloc_past _ _ _ hh).trans c1) ((World.cell?_alloc_past _ _ _ hh).trans c2) ((World.frozen?_alloc_past _ _ _ hh).trans z1) ((World.frozen?_alloc_past _ _ _ hh).trans z2)).mono ?_
  rintro e w' ⟨rfl, hB, ob, x, cp, sb, v, ⟨a1, a2, a3, a4, a5, a6, e1, e2, e3, e4, e5, e6, e7, e8, e9, e10, e11, hs⟩⟩
  obtain ⟨k0, l0, rb, rc, rfl, b1, b2, r0⟩ := hs 0 (by omega)
  obtain ⟨k1, l1, rb', rc', hv, _, _, r1⟩ := hs 1 (by omega)
  injection hv with hv1 hv2 hv3
  injection hv1 with hv1
  injection hv1 with hv1
  subst hv1 hv3
  exact ⟨ob, x, cp, sb, rb, rc, rfl, hB, ⟨⟨a1, a2, a3, b1, b2, a4, a5⟩, e1, e2, e3, e4, e5, e6, e7, e8, e9, e10, e11, k0, k1, l0, r0, r1⟩⟩
end Go.Proofs.Ytapcapcbndooiaa
