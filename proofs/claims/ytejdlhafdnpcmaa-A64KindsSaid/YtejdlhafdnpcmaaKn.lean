import Derived.Test.YtejdlhafdnpcmaaIoA
import Derived.WalkLawsBesides
import Derived.WalkSpells
namespace Go.Proofs.Ytejdlhafdnpcmaa
open Go.RowKit
set_option linter.unusedVariables false
theorem rowP_one {x : Int} {T : List Int} (hT : puts T = [x]) {w w' : World} {e : Ending} (h : RowP T w e w') : ∃ g cap, e = .returned (.slice (some ⟨g, 0, none⟩) 1 cap) ∧ 1 ≤ cap ∧ w'.ownsRow w.heap.size 3 1 (.slice (some ⟨g, 0, none⟩) 1 cap) 1 (ivs [x]) ∧ Below w.heap.size w w' := by
  obtain ⟨v, rfl, h2, _, h4⟩ := h
  rw [hT] at h2
  obtain ⟨g, cap, rfl⟩ := ownsRow_succ (k := 0) h2
  exact ⟨g, cap, rfl, (rows_of h2).2.1, h2, h4⟩
theorem rowP_two {x y : Int} {T : List Int} (hT : puts T = [x, y]) {w w' : World} {e : Ending} (h : RowP T w e w') : ∃ g cap, e = .returned (.slice (some ⟨g, 0, none⟩) 2 cap) ∧ 2 ≤ cap ∧ w'.ownsRow w.heap.size 3 1 (.slice (some ⟨g, 0, none⟩) 2 cap) 2 (ivs [x, y]) ∧ Below w.heap.size w w' := by
  obtain ⟨v, rfl, h2, _, h4⟩ := h
  rw [hT] at h2
  obtain ⟨g, cap, rfl⟩ := ownsRow_succ (k := 1) h2
  exact ⟨g, cap, rfl, (rows_of h2).2.1, h2, h4⟩
theorem row_past {w w' : World} {B n : Nat} {v : Value} {xs : List Value} (h : w.ownsRow B 3 1 v n xs) (hb : Below w.heap.size w w') : w'.ownsRow B 3 1 v n xs :=
  h.kept (row := none) ⟨hb.os, hb.tape, hb.output, hb.size, fun k hk _ => hb.block k hk⟩ (by
    rcases h.2 with ⟨rfl, _⟩ | ⟨g, cap, cur, rfl, _⟩
    · exact .inl rfl
    · exact .inr (by simp [Value.ownBlock]))
theorem in_a (w : World) : Calls Try.prog 12 #[.agg #[.int .i64 7, .int .i64 1, .int .i64 2, .int .i64 31, .int .i64 0, .int .i64 0, .int .i64 0]] w (RowP [2, 31] w) := in_7 1 2 31 0 0 0 w (by decide)
theorem out_a (w : World) : Calls Try.prog 14 #[.agg #[.int .i64 6, .int .i64 31, .int .i64 0, .int .i64 0, .int .i64 0, .int .i64 0, .int .i64 5]] w (RowP [31, 33] w) := out_6 31 0 0 0 0 5 w (by decide)
theorem in_b (w : World) : Calls Try.prog 12 #[.agg #[.int .i64 36, .int .i64 3, .int .i64 31, .int .i64 4, .int .i64 0, .int .i64 0, .int .i64 0]] w (RowP [32, 4] w) := in_36 3 31 4 0 0 0 w (by decide)
theorem name_21 (w : World) : Calls Try.prog 16 #[.int .i64 21] w fun e w' => e = .returned (.string ⟨#[98, 46]⟩) ∧ w' = w := (name_y 21 w (by decide)).mono fun e w' h => ⟨h.1.trans (ret_str (by decide)), h.2⟩
set_option maxRecDepth 100000 in
set_option maxHeartbeats 2000000 in
theorem known_c (w : World) : Calls Try.prog 8 #[] w fun e w' => e = .returned (.bool true) ∧ Below w.heap.size w w' := by
  go_enter Try.func8, Try.ntmps8
  go_wp2_with fail
  refine (in_a _).mono ?_
  rintro e w1 h1
  obtain ⟨g1, p1, rfl, q1, r1, b1⟩ := rowP_one (x := 2) (by decide) h1
  have R1 := Lib.hid r1
  have B1 := Lib.hid b1
  have s1 := b1.size
  clear h1 r1 b1
  go_wp2_with fail
  refine (out_a _).mono ?_
  rintro e w2 h1
  obtain ⟨g2, p2, rfl, q2, r2, b2⟩ := rowP_one (x := 33) (by decide) h1
  have R1' := Lib.hid (row_past R1.out b2)
  have R2 := Lib.hid r2
  have B2 := Lib.hid (B1.out.trans (b2.mono s1))
  have s2 := b2.size
  clear h1 r2 b2 R1 B1
  go_wp2_with fail
  refine (in_b _).mono ?_
  rintro e w3 h1
  obtain ⟨g3, p3, rfl, q3, r3, b3⟩ := rowP_two (x := 4) (y := 32) (by decide) h1
  have R1 := Lib.hid (row_past R1'.out b3)
  have R2' := Lib.hid (row_past R2.out b3)
  have B3 := Lib.hid (B2.out.trans (b3.mono (by omega)))
  have c1 := (rows_of R1.out).2.2.1 0 _ rfl
  have c2 := (rows_of R2'.out).2.2.1 0 _ rfl
  have c3 := (rows_of r3).2.2.1 0 _ rfl
  have c4 := (rows_of r3).2.2.1 1 _ rfl
  clear h1 r3 b3 R1' R2 B2
  go_wp2_with (go_at_call 16; refine (name_21 _).mono ?_; rintro e w' ⟨rfl, rfl⟩)
  go_ret
  exact ⟨rfl, B3.out⟩
end Go.Proofs.Ytejdlhafdnpcmaa
