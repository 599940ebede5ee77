import Derived.Test.YtnbpgoacooddjaaRows
import Derived.WalkKit
import Derived.ProofKit
import Derived.OpenShut
import Derived.Outline
import Derived.WalkSmall
import Derived.WalkLawsBesides
import Derived.WalkSpells
import Derived.BigGuardPart
import Derived.RegionTactic
import Derived.Lib.Hide
import Derived.Below
import Derived.Deep.RegionWith
import Derived.Deep.RegionHeld3
import Derived.Test.YtnbpgoacooddjaaFIs
namespace Go.Proofs.Ytnbpgoacooddjaa.Fr
open Go.ChangeShapes Go.WideShapes Go.ChangeAt Go.RowKit
set_option linter.unusedVariables false
/-- Between two numbers. -/
def wi (v lo hi : Int) : Bool := decide (lo ≤ v ∧ v ≤ hi)
/-- Between two numbers, and a multiple. -/
def wm (v lo hi k : Int) : Bool := wi v lo hi && (v % k == 0)
theorem tm4 (i : Int) : (i.tmod 4 == 0) = (i % 4 == 0) := by
  rw [Bool.eq_iff_iff, beq_iff_eq, beq_iff_eq, ← Int.dvd_iff_tmod_eq_zero]
  omega
def er (b : Bool) : Int := if b then 0 else 1
/-- All of them nothing. -/
def zs (l : List Int) : Bool := l.all (· == 0)
theorem ret_bool {a b : Bool} (h : a = b) : Ending.returned (.bool a) = .returned (.bool b) := by rw [h]
theorem within_i (v lo hi : Int) (w : World) : Calls Try.prog 179 #[.int .i64 v, .int .i64 lo, .int .i64 hi] w fun e w' => e = .returned (.bool (wi v lo hi)) ∧ w' = w := by
  go_enter Try.func179, Try.ntmps179
  go_wp2
  all_goals
    go_ret
    exact ⟨ret_bool (by first | (simp_all [wi]; done) | (simp_all [wi]; omega)), rfl⟩
theorem within_l (v lo hi : Int) (w : World) : Calls Try.prog 180 #[.int .i64 v, .int .i64 lo, .int .i64 hi] w fun e w' => e = .returned (.bool (wi v lo hi)) ∧ w' = w := by
  go_enter Try.func180, Try.ntmps180
  go_wp2
  all_goals
    go_ret
    exact ⟨ret_bool (by first | (simp_all [wi]; done) | (simp_all [wi]; omega)), rfl⟩
/-- The fields that are registers. -/
def rgs (d n m a hi : Int) : Bool := wi d 0 31 && wi n 0 31 && wi m 0 hi && wi a 0 31
/-- An instruction's cells at b. -/
def InsC (w : World) (b : Nat) (a0 a1 a2 a3 a4 a5 a6 : Value) : Prop := b < w.heap.size ∧ w.cell? ⟨b, 0, none⟩ = some a0 ∧ w.cell? ⟨b, 1, none⟩ = some a1 ∧ w.cell? ⟨b, 2, none⟩ = some a2 ∧ w.cell? ⟨b, 3, none⟩ = some a3 ∧ w.cell? ⟨b, 4, none⟩ = some a4 ∧ w.cell? ⟨b, 5, none⟩ = some a5 ∧ w.cell? ⟨b, 6, none⟩ = some a6
theorem InsC.new (w : World) (a0 a1 a2 a3 a4 a5 a6 : Value) : InsC (w.alloc (.cells #[a0, a1, a2, a3, a4, a5, a6] 29)) w.heap.size a0 a1 a2 a3 a4 a5 a6 :=
  ⟨by simp, World.cell?_alloc_at _ _ _ _ rfl, World.cell?_alloc_at _ _ _ _ rfl, World.cell?_alloc_at _ _ _ _ rfl, World.cell?_alloc_at _ _ _ _ rfl, World.cell?_alloc_at _ _ _ _ rfl, World.cell?_alloc_at _ _ _ _ rfl, World.cell?_alloc_at _ _ _ _ rfl⟩
theorem InsC.below' {w W w' : World} {b : Nat} {a0 a1 a2 a3 a4 a5 a6 : Value} (h : InsC w b a0 a1 a2 a3 a4 a5 a6) (hb : Below W.heap.size W w') (he : W.heap = w.heap) : InsC w' b a0 a1 a2 a3 a4 a5 a6 := by
  have hc : ∀ i, W.cell? ⟨b, i, none⟩ = w.cell? ⟨b, i, none⟩ := fun i => by unfold World.cell?; rw [he]
  obtain ⟨h0, c0, c1, c2, c3, c4, c5, c6⟩ := h
  have hl : b < W.heap.size := by rw [he]; exact h0
  have g : ∀ i, w'.cell? ⟨b, i, none⟩ = w.cell? ⟨b, i, none⟩ := fun i => (hb.cell (p := ⟨b, i, none⟩) hl).trans (hc i)
  exact ⟨Nat.lt_of_lt_of_le hl hb.size, (g 0).trans c0, (g 1).trans c1, (g 2).trans c2, (g 3).trans c3, (g 4).trans c4, (g 5).trans c5, (g 6).trans c6⟩
theorem below_step {a w W w' : World} (h : Below a.heap.size a w) (hb : Below W.heap.size W w') (he : W.heap = w.heap) (ho : W.os = w.os) (ht : W.tape = w.tape) (hp : W.output = w.output) : Below a.heap.size a w' := by
  have h1 : Below a.heap.size a W := ⟨ho.trans h.os, ht.trans h.tape, hp.trans h.output, by rw [he]; exact h.size, fun k hk => by rw [he]; exact h.block k hk⟩
  exact h1.trans (hb.mono (by rw [he]; exact h.size))
theorem keepC {w3 w4 w' : World} {b : Nat} {op d n m a c i : Int} (hw : b < w3.heap.size) (h : w4.cell? ⟨b, 0, none⟩ = some (.int .i64 op) ∧ w4.cell? ⟨b, 1, none⟩ = some (.int .i64 d) ∧ w4.cell? ⟨b, 2, none⟩ = some (.int .i64 n) ∧ w4.cell? ⟨b, 3, none⟩ = some (.int .i64 m) ∧ w4.cell? ⟨b, 4, none⟩ = some (.int .i64 a) ∧ w4.cell? ⟨b, 5, none⟩ = some (.int .i64 c) ∧ w4.cell? ⟨b, 6, none⟩ = some (.int .i64 i) ∧ Hid (Below w3.heap.size w3 w4)) (hb : Below w4.heap.size w4 w') :
    w'.cell? ⟨b, 0, none⟩ = some (.int .i64 op) ∧ w'.cell? ⟨b, 1, none⟩ = some (.int .i64 d) ∧ w'.cell? ⟨b, 2, none⟩ = some (.int .i64 n) ∧ w'.cell? ⟨b, 3, none⟩ = some (.int .i64 m) ∧ w'.cell? ⟨b, 4, none⟩ = some (.int .i64 a) ∧ w'.cell? ⟨b, 5, none⟩ = some (.int .i64 c) ∧ w'.cell? ⟨b, 6, none⟩ = some (.int .i64 i) ∧ Hid (Below w3.heap.size w3 w') := by
  obtain ⟨x0, x1, x2, x3, x4, x5, x6, hk⟩ := h
  have hs := hk.out.size
  have g : ∀ i, w'.cell? ⟨b, i, none⟩ = w4.cell? ⟨b, i, none⟩ := fun i => hb.cell (p := ⟨b, i, none⟩) (show b < w4.heap.size by omega)
  exact ⟨(g 0).trans x0, (g 1).trans x1, (g 2).trans x2, (g 3).trans x3, (g 4).trans x4, (g 5).trans x5, (g 6).trans x6, Lib.hid (hk.out.trans (hb.mono hs))⟩
def ok_0 (d n m a c i : Int) : Bool := (d == 0) && (n == 0) && (m == 0) && (a == 0) && (c == 0) && wi i 0 65535
def ok_1 (d n m a c i : Int) : Bool := (d == 0) && (n == 0) && (m == 0) && (a == 0) && (c == 0) && (i == 0)
def ok_2 (d n m a c i : Int) : Bool := wi d 0 31 && (n == 0) && wi m 0 3 && (a == 0) && (c == 0) && wi i 0 65535
def ok_3 (d n m a c i : Int) : Bool := wi d 0 31 && (n == 0) && wi m 0 3 && (a == 0) && (c == 0) && wi i 0 65535
def ok_4 (d n m a c i : Int) : Bool := wi d 0 31 && wi n 0 31 && (m == 0) && (a == 0) && (c == 0) && wi i 0 4095
def ok_5 (d n m a c i : Int) : Bool := wi d 0 31 && wi n 0 31 && (m == 0) && (a == 0) && (c == 0) && wi i 0 4095
def ok_6 (d n m a c i : Int) : Bool := wi d 0 31 && wi n 0 31 && (m == 0) && (a == 0) && (c == 0) && wi i 0 4095
def ok_7 (d n m a c i : Int) : Bool := wi d 0 31 && wi n 0 31 && wi m 0 31 && (a == 0) && (c == 0) && (i == 0)
def ok_8 (d n m a c i : Int) : Bool := wi d 0 31 && wi n 0 31 && wi m 0 31 && (a == 0) && (c == 0) && (i == 0)
def ok_9 (d n m a c i : Int) : Bool := wi d 0 31 && wi n 0 31 && wi m 0 31 && (a == 0) && (c == 0) && (i == 0)
def ok_10 (d n m a c i : Int) : Bool := wi d 0 31 && wi n 0 31 && wi m 0 31 && (a == 0) && (c == 0) && (i == 0)
def ok_11 (d n m a c i : Int) : Bool := wi d 0 31 && wi n 0 31 && wi m 0 31 && (a == 0) && (c == 0) && (i == 0)
def ok_12 (d n m a c i : Int) : Bool := wi d 0 31 && wi n 0 31 && wi m 0 31 && (a == 0) && (c == 0) && (i == 0)
def ok_13 (d n m a c i : Int) : Bool := wi d 0 31 && wi n 0 31 && wi m 0 31 && wi a 0 31 && (c == 0) && (i == 0)
def ok_14 (d n m a c i : Int) : Bool := wi d 0 31 && wi n 0 31 && wi m 0 31 && wi a 0 31 && (c == 0) && (i == 0)
def ok_15 (d n m a c i : Int) : Bool := wi d 0 31 && wi n 0 31 && wi m 0 31 && (a == 0) && (c == 0) && (i == 0)
def ok_16 (d n m a c i : Int) : Bool := wi d 0 31 && wi n 0 31 && wi m 0 31 && (a == 0) && (c == 0) && (i == 0)
def ok_17 (d n m a c i : Int) : Bool := wi d 0 31 && wi n 0 31 && wi m 0 31 && (a == 0) && (c == 0) && (i == 0)
def ok_18 (d n m a c i : Int) : Bool := wi d 0 31 && wi n 0 31 && wi m 0 31 && (a == 0) && (c == 0) && (i == 0)
def ok_19 (d n m a c i : Int) : Bool := wi d 0 31 && wi n 0 31 && wi m 0 31 && (a == 0) && wi c 0 15 && (i == 0)
def ok_20 (d n m a c i : Int) : Bool := (d == 0) && (n == 0) && (m == 0) && (a == 0) && (c == 0) && wm i (-134217728) 134217724 4
def ok_21 (d n m a c i : Int) : Bool := (d == 0) && (n == 0) && (m == 0) && (a == 0) && wi c 0 13 && wm i (-1048576) 1048572 4
def ok_22 (d n m a c i : Int) : Bool := wi d 0 31 && (n == 0) && (m == 0) && (a == 0) && (c == 0) && wm i (-1048576) 1048572 4
def ok_23 (d n m a c i : Int) : Bool := wi d 0 31 && (n == 0) && (m == 0) && (a == 0) && (c == 0) && wm i (-1048576) 1048572 4
def ok_24 (d n m a c i : Int) : Bool := (d == 0) && (n == 0) && (m == 0) && (a == 0) && (c == 0) && wm i (-134217728) 134217724 4
def ok_25 (d n m a c i : Int) : Bool := (d == 0) && wi n 0 31 && (m == 0) && (a == 0) && (c == 0) && (i == 0)
def ok_26 (d n m a c i : Int) : Bool := (d == 0) && wi n 0 31 && (m == 0) && (a == 0) && (c == 0) && (i == 0)
def ok_27 (d n m a c i : Int) : Bool := (d == 0) && wi n 0 31 && (m == 0) && (a == 0) && (c == 0) && (i == 0)
def ok_28 (d n m a c i : Int) : Bool := wi d 0 31 && wi n 0 31 && (m == 0) && (a == 0) && (c == 0) && wm i 0 32760 8
def ok_29 (d n m a c i : Int) : Bool := wi d 0 31 && wi n 0 31 && (m == 0) && (a == 0) && (c == 0) && wm i 0 32760 8
def ok_30 (d n m a c i : Int) : Bool := wi d 0 31 && wi n 0 31 && (m == 0) && (a == 0) && (c == 0) && wi i 0 4095
def ok_31 (d n m a c i : Int) : Bool := wi d 0 31 && wi n 0 31 && wi m 0 31 && (a == 0) && (c == 0) && (i == 0)
def ok_32 (d n m a c i : Int) : Bool := wi d 0 31 && wi n 0 31 && wi m 0 31 && (a == 0) && (c == 0) && (i == 0)
def ok_33 (d n m a c i : Int) : Bool := wi d 0 31 && wi n 0 31 && (m == 0) && (a == 0) && (c == 0) && (i == 0)
def ok_34 (d n m a c i : Int) : Bool := wi d 0 31 && wi n 0 31 && (m == 0) && (a == 0) && (c == 0) && (i == 0)
def ok_35 (d n m a c i : Int) : Bool := wi d 0 31 && wi n 0 31 && (m == 0) && (a == 0) && (c == 0) && (i == 0)
def ok_36 (d n m a c i : Int) : Bool := wi d 0 31 && wi n 0 31 && wi m 0 31 && (a == 0) && (c == 0) && (i == 0)
def ok_37 (d n m a c i : Int) : Bool := (d == 0) && (n == 0) && (m == 0) && (a == 0) && (c == 0) && wi i 0 2
def ok_38 (d n m a c i : Int) : Bool := (d == 0) && (n == 0) && (m == 0) && (a == 0) && (c == 0) && (i == 0)
def ok_39 (d n m a c i : Int) : Bool := (d == 0) && (n == 0) && (m == 0) && (a == 0) && (c == 0) && (i == 0)
def ok_40 (d n m a c i : Int) : Bool := (d == 0) && wi n 0 31 && (m == 0) && (a == 0) && (c == 0) && (i == 0)
def ok_41 (d n m a c i : Int) : Bool := (d == 0) && wi n 0 31 && (m == 0) && (a == 0) && (c == 0) && (i == 0)
def ok_42 (d n m a c i : Int) : Bool := (d == 0) && (n == 0) && (m == 0) && (a == 0) && (c == 0) && wi i 0 65535
set_option maxRecDepth 100000 in
set_option maxHeartbeats 2000000 in
theorem check_non (op d n m a c i F : Int) (w : World) (h34 : ∀ w, Calls Try.prog 110 #[.int .i64 op] w fun e w' => e = .returned (.bool false) ∧ w' = w) :
    Calls Try.prog 31 #[.agg #[.int .i64 op, .int .i64 d, .int .i64 n, .int .i64 m, .int .i64 a, .int .i64 c, .int .i64 i]] w fun e w' => e = .returned (.int .i64 1) ∧ Below w.heap.size w w' := by
  have H34 := Lib.hid h34
  clear h34
  go_enter Try.func31, Try.ntmps31
  go_wp2_with fail
  obtain ⟨x, x0, x1, x2, x3, x4, x5, x6⟩ := InsC.new w (.int .i64 op) (.int .i64 d) (.int .i64 n) (.int .i64 m) (.int .i64 a) (.int .i64 c) (.int .i64 i)
  have HB : Hid (Below w.heap.size w (w.alloc (.cells #[.int .i64 op, .int .i64 d, .int .i64 n, .int .i64 m, .int .i64 a, .int .i64 c, .int .i64 i] 29))) := Lib.hid ((Below.refl _ _).alloc (Nat.le_refl _) _)
  obtain ⟨b, hb⟩ : ∃ b, b = w.heap.size := ⟨_, rfl⟩
  have HN : Hid (w.heap.size = b) := Lib.hid hb.symm
  rw [← hb] at x x0 x1 x2 x3 x4 x5 x6
  rw [← hb]
  clear hb
  generalize w.alloc (.cells #[.int .i64 op, .int .i64 d, .int .i64 n, .int .i64 m, .int .i64 a, .int .i64 c, .int .i64 i] 29) = w1 at *
  have HI := Lib.hid (show InsC w1 b (.int .i64 op) (.int .i64 d) (.int .i64 n) (.int .i64 m) (.int .i64 a) (.int .i64 c) (.int .i64 i) from ⟨x, x0, x1, x2, x3, x4, x5, x6⟩)
  first | (go_region_with (first | (go_at_call 110; refine (H34.out _).mono ?_; rintro e w' ⟨rfl, rfl⟩))) | fail
  all_goals
    go_wp2
    go_ret
    exact ⟨rfl, by first | exact HB.out | exact HB.out.drew | exact HB.out.drew.drew⟩
end Go.Proofs.Ytnbpgoacooddjaa.Fr
