import Derived.Test.YtnbpgoacooddjaaRows
import Derived.WalkKit
import Derived.ProofKit
import Derived.OpenShut
import Derived.Deep.QuietTactic
import Derived.BigQuiet
import Derived.Outline
import Derived.WalkSmall
import Derived.WalkLawsBesides
import Derived.WalkSpells
import Derived.BigGuardPart
import Derived.RegionTactic
import Derived.Deep.RegionHeld3
import Derived.Lib.Hide
import Derived.Deep.MidRow
import Derived.Below
import Derived.Deep.RegionWith
import Derived.Test.YtnbpgoacooddjaaSmA
namespace Go.Proofs.Ytnbpgoacooddjaa
open Go.ChangeShapes Go.WideShapes Go.ChangeAt Go.RowKit
set_option linter.unusedVariables false
/-- An instruction's cells at b. -/
def InsAt (w : World) (b : Nat) (a0 a1 a2 a3 a4 a5 a6 : Value) : Prop := b < w.heap.size ∧ w.cell? ⟨b, 0, none⟩ = some a0 ∧ w.cell? ⟨b, 1, none⟩ = some a1 ∧ w.cell? ⟨b, 2, none⟩ = some a2 ∧ w.cell? ⟨b, 3, none⟩ = some a3 ∧ w.cell? ⟨b, 4, none⟩ = some a4 ∧ w.cell? ⟨b, 5, none⟩ = some a5 ∧ w.cell? ⟨b, 6, none⟩ = some a6
theorem InsAt.new (w : World) (a0 a1 a2 a3 a4 a5 a6 : Value) : InsAt (w.alloc (.cells #[a0, a1, a2, a3, a4, a5, a6] 29)) w.heap.size a0 a1 a2 a3 a4 a5 a6 :=
  ⟨by simp, World.cell?_alloc_at _ _ _ _ rfl, World.cell?_alloc_at _ _ _ _ rfl, World.cell?_alloc_at _ _ _ _ rfl, World.cell?_alloc_at _ _ _ _ rfl, World.cell?_alloc_at _ _ _ _ rfl, World.cell?_alloc_at _ _ _ _ rfl, World.cell?_alloc_at _ _ _ _ rfl⟩
theorem InsAt.below' {w W w' : World} {b : Nat} {a0 a1 a2 a3 a4 a5 a6 : Value} (h : InsAt w b a0 a1 a2 a3 a4 a5 a6) (hb : Below W.heap.size W w') (he : W.heap = w.heap) : InsAt w' b a0 a1 a2 a3 a4 a5 a6 := by
  have hc : ∀ i, W.cell? ⟨b, i, none⟩ = w.cell? ⟨b, i, none⟩ := fun i => by unfold World.cell?; rw [he]
  obtain ⟨h0, c0, c1, c2, c3, c4, c5, c6⟩ := h
  have hl : b < W.heap.size := by rw [he]; exact h0
  have g : ∀ i, w'.cell? ⟨b, i, none⟩ = w.cell? ⟨b, i, none⟩ := fun i => (hb.cell (p := ⟨b, i, none⟩) hl).trans (hc i)
  exact ⟨Nat.lt_of_lt_of_le hl hb.size, (g 0).trans c0, (g 1).trans c1, (g 2).trans c2, (g 3).trans c3, (g 4).trans c4, (g 5).trans c5, (g 6).trans c6⟩
theorem below_step {a w W w' : World} (h : Below a.heap.size a w) (hb : Below W.heap.size W w') (he : W.heap = w.heap) (ho : W.os = w.os) (ht : W.tape = w.tape) (hp : W.output = w.output) : Below a.heap.size a w' := by
  have h1 : Below a.heap.size a W := ⟨ho.trans h.os, ht.trans h.tape, hp.trans h.output, by rw [he]; exact h.size, fun k hk => by rw [he]; exact h.block k hk⟩
  exact h1.trans (hb.mono (by rw [he]; exact h.size))
set_option maxRecDepth 100000 in
set_option maxHeartbeats 2000000 in
theorem check_gen (op d n m a c i F : Int) (w : World) (h32 : ∀ w, Calls Try.prog 110 #[.int .i64 op] w fun e w' => e = .returned (.bool true) ∧ w' = w) (h34 : ∀ w, Calls Try.prog 112 #[.int .i64 op] w fun e w' => e = .returned (.int .i64 F) ∧ w' = w) (h33 : ∀ w, Calls Try.prog 111 #[.agg #[.int .i64 op, .int .i64 d, .int .i64 n, .int .i64 m, .int .i64 a, .int .i64 c, .int .i64 i], .int .i64 F] w fun e w' => e = .returned (.bool true) ∧ Below w.heap.size w w') (h35 : ∀ w, Calls Try.prog 113 #[.agg #[.int .i64 op, .int .i64 d, .int .i64 n, .int .i64 m, .int .i64 a, .int .i64 c, .int .i64 i]] w fun e w' => e = .returned (.bool true) ∧ Below w.heap.size w w') (h36 : ∀ w, Calls Try.prog 114 #[.agg #[.int .i64 op, .int .i64 d, .int .i64 n, .int .i64 m, .int .i64 a, .int .i64 c, .int .i64 i]] w fun e w' => e = .returned (.bool true) ∧ Below w.heap.size w w') (h37 : ∀ w, Calls Try.prog 115 #[.agg #[.int .i64 op, .int .i64 d, .int .i64 n, .int .i64 m, .int .i64 a, .int .i64 c, .int .i64 i]] w fun e w' => e = .returned (.bool true) ∧ Below w.heap.size w w') :
    Calls Try.prog 31 #[.agg #[.int .i64 op, .int .i64 d, .int .i64 n, .int .i64 m, .int .i64 a, .int .i64 c, .int .i64 i]] w fun e w' => e = .returned (.int .i64 0) ∧ Below w.heap.size w w' := by
  have H32 := Lib.hid h32
  have H33 := Lib.hid h33
  have H34 := Lib.hid h34
  have H35 := Lib.hid h35
  have H36 := Lib.hid h36
  have H37 := Lib.hid h37
  clear h32 h33 h34 h35 h36 h37
  go_enter Try.func31, Try.ntmps31
  go_wp2_with fail
  have HI : Hid (InsAt (w.alloc (.cells #[.int .i64 op, .int .i64 d, .int .i64 n, .int .i64 m, .int .i64 a, .int .i64 c, .int .i64 i] 29)) w.heap.size (Value.int .i64 op) (Value.int .i64 d) (Value.int .i64 n) (Value.int .i64 m) (Value.int .i64 a) (Value.int .i64 c) (Value.int .i64 i)) := Lib.hid (InsAt.new _ _ _ _ _ _ _ _)
  have HB : Hid (Below w.heap.size w (w.alloc (.cells #[.int .i64 op, .int .i64 d, .int .i64 n, .int .i64 m, .int .i64 a, .int .i64 c, .int .i64 i] 29))) := Lib.hid ((Below.refl _ _).alloc (Nat.le_refl _) _)
  obtain ⟨b, hb⟩ : ∃ b, b = w.heap.size := ⟨_, rfl⟩
  have HN : Hid (w.heap.size = b) := Lib.hid hb.symm
  rw [← hb] at HI
  rw [← hb]
  clear hb
  generalize w.alloc (.cells #[.int .i64 op, .int .i64 d, .int .i64 n, .int .i64 m, .int .i64 a, .int .i64 c, .int .i64 i] 29) = w1 at *
  obtain ⟨hl, i0, i1, i2, i3, i4, i5, i6⟩ := HI.out
  go_region_with (first | (go_at_call 110; refine (H32.out _).mono ?_; rintro e w' ⟨rfl, rfl⟩) | (go_at_call 112; refine (H34.out _).mono ?_; rintro e w' ⟨rfl, rfl⟩) | (go_at_call 111; refine (H33.out _).mono ?_; rintro e w2 ⟨rfl, hb1⟩; have HI2 := Lib.hid (HI.out.below' hb1 rfl); have HB2 := Lib.hid (below_step HB.out hb1 rfl rfl rfl rfl); obtain ⟨hl, i0, i1, i2, i3, i4, i5, i6⟩ := HI2.out; clear hb1) | (go_at_call 113; refine (H35.out _).mono ?_; rintro e w3 ⟨rfl, hb1⟩; have HI3 := Lib.hid (HI2.out.below' hb1 rfl); have HB3 := Lib.hid (below_step HB2.out hb1 rfl rfl rfl rfl); obtain ⟨hl, i0, i1, i2, i3, i4, i5, i6⟩ := HI3.out; clear hb1) | (go_at_call 114; refine (H36.out _).mono ?_; rintro e w4 ⟨rfl, hb1⟩; have HI4 := Lib.hid (HI3.out.below' hb1 rfl); have HB4 := Lib.hid (below_step HB3.out hb1 rfl rfl rfl rfl); obtain ⟨hl, i0, i1, i2, i3, i4, i5, i6⟩ := HI4.out; clear hb1) | (go_at_call 115; refine (H37.out _).mono ?_; rintro e w5 ⟨rfl, hb1⟩; have HB5 := Lib.hid (below_step HB4.out hb1 rfl rfl rfl rfl); clear hb1))
  all_goals
    go_wp2
    go_ret
    exact ⟨rfl, by first | exact HB5.out | exact HB5.out.drew | exact HB5.out.drew.drew⟩
end Go.Proofs.Ytnbpgoacooddjaa
