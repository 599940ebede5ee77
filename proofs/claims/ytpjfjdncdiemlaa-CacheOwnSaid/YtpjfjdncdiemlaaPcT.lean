import Derived.Test.YtpjfjdncdiemlaaRows
import Derived.WalkKit
import Derived.ProofKit
import Derived.OpenShut
import Derived.Deep.QuietTactic
import Derived.BigQuiet
import Derived.Outline
import Derived.WalkSmall
import Derived.WalkLawsBesides
import Derived.WalkSpells
import Derived.BigGuardPart
import Derived.RegionTactic
import Derived.Deep.RegionHeld3
import Derived.Lib.Hide
import Derived.Deep.OwnRows
import Derived.Maps.AppendAt
import Derived.Deep.AppendLies
import Derived.Below
import Derived.Deep.RegionLaw
import Derived.Test.YtpjfjdncdiemlaaPcA
namespace Go.Proofs.Ytpjfjdncdiemlaa
open Go.ChangeShapes Go.WideShapes Go.ChangeAt Go.RowKit
set_option linter.unusedVariables false
theorem info91 : (Try.prog.info? 91).map (fun i => (i.zero, i.size, i.bytes)) = some (some (.agg #[.int .i64 0, .int .u64 0, .slice none 0 0, .int .i64 0, .int .i64 0, .int .i64 0]), 6, 64) := by kernel_rfl
def roomOf (n : Int) : Int := (n + 15) / 16 * 16
theorem roomOf_le (n l : Int) (h1 : 1 ≤ n) (h2 : n ≤ l) (h3 : l % 16 = 0) : n ≤ roomOf n ∧ roomOf n ≤ l ∧ roomOf n % 16 = 0 := by unfold roomOf; omega
def tkRow (m a f r : Int) : List Value := [.int .i64 m, .int .u64 a, .slice none 0 0, .int .i64 0, .int .i64 f, .int .i64 r]
def TakeP (cb at0 n : Nat) (wd tk m k : Int) (xs : List Value) (w : World) (e : Ending) (w' : World) : Prop := e = .returned (.tuple #[.int .u64 (at0 + 4 * tk), .int .i64 0]) ∧ Below cb w w' ∧ ∃ v', CaAt w' cb at0 wd (tk + roomOf k) v' (n + 1) (xs ++ tkRow m (at0 + 4 * tk) tk (roomOf k))
theorem far_cell {w3 w5 : World} {v : Value} {o : Obj} (hg : ((w3.alloc o).drew).grownBy w5 v.ownBlock) {b : Nat} (p : Nat) (hb : b < w3.heap.size) (hne : v.ownBlock ≠ some b) : w5.cell? ⟨b, p, none⟩ = w3.cell? ⟨b, p, none⟩ :=
  (hg.cell_far ⟨b, p, none⟩ (by show b < (w3.alloc o).heap.size; simp; omega) (Ne.symm hne)).trans (World.cell?_alloc_past _ _ _ hb)
theorem far_frz {w3 w5 : World} {v : Value} {o : Obj} (hg : ((w3.alloc o).drew).grownBy w5 v.ownBlock) {b : Nat} (p : Nat) (hb : b < w3.heap.size) (hne : v.ownBlock ≠ some b) : w5.frozen? ⟨b, p, none⟩ = w3.frozen? ⟨b, p, none⟩ :=
  (hg.frozen_far ⟨b, p, none⟩ (by show b < (w3.alloc o).heap.size; simp; omega) (Ne.symm hne)).trans (World.frozen?_alloc_past _ _ _ hb)
theorem set_far (w : World) (a b : Addr) (u : Value) (h : a ≠ b) : (w.setCell a u).cell? b = w.cell? b := World.cell?_setCell_other (h := h) ..
theorem ca_row {w3 w5 : World} {cb at0 n n' : Nat} {wd tk : Int} {v nv : Value} {xs ys : List Value} {o : Obj} (HC : CaAt w3 cb at0 wd tk v n xs) (hg : ((w3.alloc o).drew).grownBy w5 v.ownBlock) (hown : w5.ownsRow (cb + 1) 91 6 nv n' ys) : CaAt (w5.setCell ⟨cb, 3, none⟩ nv) cb at0 wd tk nv n' ys := by
  obtain ⟨h0, a0, a1, a2, a3, z2, z3, ho⟩ := HC
  have hor : v.ownBlock ≠ some cb := fun he => by have := (World.ownsRow.lt ho cb he).1; omega
  have hs : w3.heap.size + 1 ≤ w5.heap.size := by have := hg.size; have h2 : ((w3.alloc o).drew).heap.size = w3.heap.size + 1 := by (show (w3.alloc o).heap.size = _; simp)
                                                  omega
  have hz : (w5.setCell ⟨cb, 3, none⟩ nv).heap.size = w5.heap.size := by simp [World.setCell]
  exact ⟨by omega, (set_far _ _ _ _ (by simp)).trans ((far_cell hg 0 h0 hor).trans a0), (set_far _ _ _ _ (by simp)).trans ((far_cell hg 1 h0 hor).trans a1), (set_far _ _ _ _ (by simp)).trans ((far_cell hg 2 h0 hor).trans a2), World.cell?_setCell_same _ _ _ ((far_cell hg 3 h0 hor).trans a3), (World.frozen?_setCell _ _ _ _).trans ((far_frz hg 2 h0 hor).trans z2), (World.frozen?_setCell _ _ _ _).trans ((far_frz hg 3 h0 hor).trans z3), ownsRow_setCell_below hown (by simp) _⟩
theorem ca_tk {w : World} {cb at0 n : Nat} {wd tk : Int} {v : Value} {xs : List Value} (t' : Int) (HC : CaAt w cb at0 wd tk v n xs) : CaAt (w.setCell ⟨cb, 2, none⟩ (.int .i64 t')) cb at0 wd t' v n xs := by
  obtain ⟨h0, a0, a1, a2, a3, z2, z3, ho⟩ := HC
  have hz : (w.setCell ⟨cb, 2, none⟩ (.int .i64 t')).heap.size = w.heap.size := by simp [World.setCell]
  exact ⟨by omega, (set_far _ _ _ _ (by simp)).trans a0, (set_far _ _ _ _ (by simp)).trans a1, World.cell?_setCell_same _ _ _ a2, (set_far _ _ _ _ (by simp)).trans a3, (World.frozen?_setCell _ _ _ _).trans z2, (World.frozen?_setCell _ _ _ _).trans z3, ownsRow_setCell_below ho (by simp) _⟩
theorem ca_below {w3 w5 : World} {cb at0 n : Nat} {wd tk : Int} {v : Value} (nv : Value) {xs : List Value} {o : Obj} (HC : CaAt w3 cb at0 wd tk v n xs) (hg : ((w3.alloc o).drew).grownBy w5 v.ownBlock) : Below cb w3 (w5.setCell ⟨cb, 3, none⟩ nv) := by
  obtain ⟨h0, _, _, _, _, _, _, ho⟩ := HC
  have h1 : Below cb w3 (w3.alloc o).drew := ((Below.refl _ _).alloc (by omega) _).drew
  exact (h1.grown hg (by show cb ≤ (w3.alloc o).heap.size; simp; omega) (fun b hb => by have := (World.ownsRow.lt ho b hb).1; omega)).setCell (by simp) _
set_option maxRecDepth 100000 in
set_option maxHeartbeats 4000000 in
theorem take_y (cb at0 n : Nat) (wd tk m k : Int) (v : Value) (xs : List Value) (w : World) (hn : n ≤ 900) (ha : at0 ≤ 16777216) (h1 : 0 ≤ tk) (h2 : tk ≤ wd) (h3 : wd ≤ 65536) (hk : 1 ≤ k) (hk2 : k ≤ wd - tk) (HC : Hid (CaAt w cb at0 wd tk v n xs)) (HN : Hid (∀ j, j < n → ∃ m', TkLM xs j m' ∧ (m' == m) = false)) :
    Calls Try.prog 26 #[.pointer (some ⟨cb, 0, none⟩), .int .i64 m, .int .i64 k] w (TakeP cb at0 n wd tk m k xs w) := by
  obtain ⟨i0, hi, hz0, hz1, hz2⟩ := info_parts info91
  have d1 : decide (k < 1) = false := decide_eq_false (by omega)
  have d2 : decide (wd - tk < k) = false := decide_eq_false (by omega)
  obtain ⟨rm, hrm⟩ : ∃ rm, (k + 16 - 1) / 16 * 16 = rm := ⟨_, rfl⟩
  have HRM : Hid (rm = roomOf k) := Lib.hid (by rw [← hrm]; unfold roomOf; rw [show k + 16 - 1 = k + 15 by omega])
  have hrm2 : 0 ≤ rm ∧ rm ≤ 65552 := by rw [← hrm]; omega
  go_enter Try.func26, Try.ntmps26
  go_wp2_with (go_at_call 45; refine (pfind_n cb at0 n wd tk m v xs _ (by omega) HC HN).mono ?_; rintro e w1 ⟨rfl, hb⟩; have HC1 := Lib.hid (HC.out.below hb); have HB1 := Lib.hid hb; clear hb)
  refine (left_c cb at0 n wd tk v xs _ h1 h2 h3 HC1).mono ?_
  rintro e w2 ⟨rfl, q, rfl⟩
  have HC2 := Lib.hid (HC1.out.below (below_drewN (Below.refl _ _) q))
  have HB2 := Lib.hid (below_drewN HB1.out q)
  clear HC1 HB1
  generalize w1.drewN q = w2 at *
  obtain ⟨h0, a0, a1, a2, a3, z2, z3, ho⟩ := HC2.out
  have HO := Lib.hid ho
  clear ho
  go_wp2
  clear hrm
  have u1 : IntKind.u64.wrap tk = tk := by rw [IntKind.wrap_u64]; omega
  have u2 : IntKind.u64.wrap (4 * tk) = 4 * tk := by rw [IntKind.wrap_u64]; omega
  obtain ⟨pl, hpl⟩ : ∃ pl, (at0 : Int) + 4 * tk = pl := ⟨_, rfl⟩
  have u3 : IntKind.u64.wrap pl = pl := by rw [← hpl, IntKind.wrap_u64]; omega
  go_region_law (fail)
  all_goals
    go_wp2
    have HPL := Lib.hid hpl
    clear u1 u2 u3 hpl
    obtain ⟨tb, htb⟩ : ∃ tb, tb = w2.heap.size := ⟨_, rfl⟩
    rw [← htb]
    have hct : cb < tb := by omega
    have hbt : v.ownBlock ≠ some tb := fun he => by have := (World.ownsRow.lt HO.out tb he).2; omega
    have HC3 := Lib.hid (HC2.out.below (((Below.refl _ _).alloc (Nat.le_refl _) (.cells #[.int .i64 m, .int .u64 pl, .slice none 0 0, .int .i64 0, .int .i64 tk, .int .i64 rm] 91)).drew))
    have HB3 := Lib.hid ((HB2.out.alloc HB2.out.size (.cells #[.int .i64 m, .int .u64 pl, .slice none 0 0, .int .i64 0, .int .i64 tk, .int .i64 rm] 91)).drew)
    have HZ3 : Hid ((w2.alloc (.cells #[.int .i64 m, .int .u64 pl, .slice none 0 0, .int .i64 0, .int .i64 tk, .int .i64 rm] 91)).drew.heap.size = tb + 1) := Lib.hid (by rw [htb]; show (w2.alloc _).heap.size = _; simp)
    have c : ∀ i, (w2.alloc (.cells #[.int .i64 m, .int .u64 pl, .slice none 0 0, .int .i64 0, .int .i64 tk, .int .i64 rm] 91)).drew.cell? ⟨tb, i, none⟩ = (#[Value.int .i64 m, .int .u64 pl, .slice none 0 0, .int .i64 0, .int .i64 tk, .int .i64 rm] : Array Value)[i]? := fun i => World.cell?_alloc_at _ _ _ _ htb
    have c0 := c 0
    have c1 := c 1
    have c2 := c 2
    have c3 := c 3
    have c4 := c 4
    have c5 := c 5
    clear c a0 a1 a2 a3 z2 z3 HO h0 HC2 HB2 htb
    generalize (w2.alloc (.cells #[.int .i64 m, .int .u64 pl, .slice none 0 0, .int .i64 0, .int .i64 tk, .int .i64 rm] 91)).drew = w3 at *
    obtain ⟨h0, a0, a1, a2, a3, z2, z3, ho⟩ := HC3.out
    have HO := Lib.hid ho
    have hz3 := HZ3.out
    have hct3 : tb < w3.heap.size := by omega
    have q3 : ∀ o, (w3.alloc o).drew.cell? ⟨cb, 3, none⟩ = some v := fun o => (World.cell?_alloc_past _ _ _ h0).trans a3
    have y3 : ∀ o, (w3.alloc o).drew.frozen? ⟨cb, 3, none⟩ = false := fun o => (World.frozen?_alloc_past _ _ _ h0).trans z3
    have hor : v.ownBlock ≠ some cb := fun he => by have := (World.ownsRow.lt ho cb he).1; omega
    have hnew : ∀ o, (w3.alloc o).drew.heap[w3.heap.size]? = some o := fun o => heap_alloc_new w3 o
    have HNEW := Lib.hid hnew
    clear ho hnew hz3
    go_region_law (refine step_append_lies _ (by rfl) _ _ _ (by rfl) (cb + 1) 91 i0 _ 6 64 Try.underlying85 hi hz0 hz1 hz2 rfl (by omega) v n xs (by rfl) (HO.out.alloc _) ⟨w3.heap.size, 0, none⟩ 1 1 [.int .i64 m, .int .u64 pl, .slice none 0 0, .int .i64 0, .int .i64 tk, .int .i64 rm] (by rfl) (by rfl) (World.news_of_block (cs := #[.int .i64 m, .int .u64 pl, .slice none 0 0, .int .i64 0, .int .i64 tk, .int .i64 rm]) (t := 91) (fr := (0, 0)) (HNEW.out _)) (by simp [Value.oneCell']) (by omega) (by unfold maxLen; omega) (by omega) (by simp; omega) (w3.heap.size + 1) (by simp) ?_; intro gg cap2 w5 hown1 hgrow hat hlt5; have k3 := (hgrow.cell_far ⟨cb, 3, none⟩ (by simp; omega) (Ne.symm hor)).trans (q3 _); have kf3 := (hgrow.frozen_far ⟨cb, 3, none⟩ (by simp; omega) (Ne.symm hor)).trans (y3 _))
    all_goals
      have HC6 := Lib.hid (ca_row HC3.out hgrow hown1)
      have HB6 := Lib.hid ((HB3.out.mono (Nat.le_of_lt HC.out.1)).trans (ca_below (.slice (some ⟨gg, 0, none⟩) (n + 1) cap2) HC3.out hgrow))
      have e5 := (set_far w5 ⟨cb, 3, none⟩ ⟨tb, 5, none⟩ (.slice (some ⟨gg, 0, none⟩) (n + 1) cap2) (by simp)).trans ((far_cell hgrow 5 hct3 hbt).trans c5)
      have e1 := (set_far w5 ⟨cb, 3, none⟩ ⟨tb, 1, none⟩ (.slice (some ⟨gg, 0, none⟩) (n + 1) cap2) (by simp)).trans ((far_cell hgrow 1 hct3 hbt).trans c1)
      clear hown1 hgrow hat c0 c1 c2 c3 c4 c5 q3 y3 a0 a1 a2 a3 z2 z3 HC3 HB3 HO HNEW hbt hor
      go_wp2
      clear k3 kf3
      generalize w5.setCell ⟨cb, 3, none⟩ (.slice (some ⟨gg, 0, none⟩) (n + 1) cap2) = w6 at *
      have HE1 := Lib.hid e1
      obtain ⟨h06, b0, b1, b2, b3, y2, y3, _⟩ := HC6.out
      clear e1
      have hgl := HZ3.out
      clear HZ3 HN HC
      go_region_law (fail)
      all_goals
        have e1 := HE1.out
        go_wp2
        refine bodyPost_ret (v := .tuple #[.int .u64 pl, .int .i64 0]) (by simp [results, Try.results26, go_sem]) rfl ⟨by rw [HPL.out], (by have HH := HB6.out.setCell (p := ⟨cb, 2, none⟩) (Nat.le_refl cb) (.int .i64 (tk + rm)); first | exact HH.drew | exact HH | exact HH.drew.drew | exact HH.drew.drew.drew), ⟨_, by rw [← HRM.out, HPL.out]; exact ca_tk (tk + rm) HC6.out⟩⟩
end Go.Proofs.Ytpjfjdncdiemlaa
