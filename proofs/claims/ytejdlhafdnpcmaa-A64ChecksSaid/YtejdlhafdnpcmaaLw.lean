import Derived.Deep.RegionHeld3
import Derived.Test.YtejdlhafdnpcmaaSa
namespace Go.Proofs.Ytejdlhafdnpcmaa
open Go.RowKit
set_option linter.unusedVariables false
set_option maxRecDepth 100000 in
set_option maxHeartbeats 2000000 in
theorem checks_gen (op d n m a c i E : Int) (A B A' B' : List Int) (hA : puts A' = puts A) (hB : puts B' = puts B) (lA : A.length ≤ 40) (lB : B.length ≤ 40) (w : World) (h9 : ∀ w, Calls Try.prog 9 #[.agg #[.int .i64 op, .int .i64 d, .int .i64 n, .int .i64 m, .int .i64 a, .int .i64 c, .int .i64 i]] w (fun e w' => e = .returned (.int .i64 E) ∧ Below w.heap.size w w')) (h10 : ∀ w, Calls Try.prog 10 #[.agg #[.int .i64 op, .int .i64 d, .int .i64 n, .int .i64 m, .int .i64 a, .int .i64 c, .int .i64 i]] w (fun e w' => e = .returned (.int .i64 E) ∧ Below w.heap.size w w'))
    (h12 : ∀ w, Calls Try.prog 12 #[.agg #[.int .i64 op, .int .i64 d, .int .i64 n, .int .i64 m, .int .i64 a, .int .i64 c, .int .i64 i]] w (RowP A w)) (h13 : ∀ w, Calls Try.prog 13 #[.agg #[.int .i64 op, .int .i64 d, .int .i64 n, .int .i64 m, .int .i64 a, .int .i64 c, .int .i64 i]] w (RowP A' w)) (h14 : ∀ w, Calls Try.prog 14 #[.agg #[.int .i64 op, .int .i64 d, .int .i64 n, .int .i64 m, .int .i64 a, .int .i64 c, .int .i64 i]] w (RowP B w)) (h15 : ∀ w, Calls Try.prog 15 #[.agg #[.int .i64 op, .int .i64 d, .int .i64 n, .int .i64 m, .int .i64 a, .int .i64 c, .int .i64 i]] w (RowP B' w)) :
    Calls Try.prog 3 #[.agg #[.int .i64 op, .int .i64 d, .int .i64 n, .int .i64 m, .int .i64 a, .int .i64 c, .int .i64 i]] w fun e w' => e = .returned (.bool true) ∧ Below w.heap.size w w' := by
  have hSA : ∀ (v1 v2 : Value) (B1 B2 : Nat) (w : World), w.ownsRow B1 3 1 v1 (puts A).length (ivs (puts A)) → w.ownsRow B2 3 1 v2 (puts A).length (ivs (puts A)) → Calls Try.prog 11 #[v1, v2] w fun e w' => e = .returned (.bool true) ∧ Below w.heap.size w w' := fun v1 v2 B1 B2 w => same_c B1 B2 (puts A) v1 v2 w (by have := puts_length A; omega)
  have hSB : ∀ (v1 v2 : Value) (B1 B2 : Nat) (w : World), w.ownsRow B1 3 1 v1 (puts B).length (ivs (puts B)) → w.ownsRow B2 3 1 v2 (puts B).length (ivs (puts B)) → Calls Try.prog 11 #[v1, v2] w fun e w' => e = .returned (.bool true) ∧ Below w.heap.size w w' := fun v1 v2 B1 B2 w => same_c B1 B2 (puts B) v1 v2 w (by have := puts_length B; omega)
  have HSA := Lib.hid hSA
  have HSB := Lib.hid hSB
  have H9 := Lib.hid h9
  have H10 := Lib.hid h10
  have H12 := Lib.hid h12
  have H13 := Lib.hid h13
  have H14 := Lib.hid h14
  have H15 := Lib.hid h15
  clear hSA hSB h9 h10 h12 h13 h14 h15
  have HA := Lib.hid hA
  have HB0 := Lib.hid hB
  clear hA hB
  go_enter Try.func3, Try.ntmps3
  go_wp2_with (go_at_call 8; refine (known_c _).mono ?_; rintro e w0 ⟨rfl, hb⟩; have HK0 := Lib.hid ((InsC.new w (.int .i64 op) (.int .i64 d) (.int .i64 n) (.int .i64 m) (.int .i64 a) (.int .i64 c) (.int .i64 i)).below' hb rfl); have HB := Lib.hid (((Below.refl _ _).alloc (Nat.le_refl _) _).trans (hb.mono (by simp)) : Below w.heap.size w w0); clear hb)
  obtain ⟨x, x0, x1, x2, x3, x4, x5, x6⟩ := HK0.out
  obtain ⟨b, hb⟩ : ∃ b, b = w.heap.size := ⟨_, rfl⟩
  have HN : Hid (w.heap.size = b) := Lib.hid hb.symm
  rw [← hb] at x x0 x1 x2 x3 x4 x5 x6
  rw [← hb]
  clear hb HK0
  have HQ : Hid (Below w0.heap.size w0 w0.drew) := Lib.hid (Below.refl _ _).drew
  go_region_held3 (fun w' => w'.cell? ⟨b, 0, none⟩ = some (.int .i64 op) ∧ w'.cell? ⟨b, 1, none⟩ = some (.int .i64 d) ∧ w'.cell? ⟨b, 2, none⟩ = some (.int .i64 n) ∧ w'.cell? ⟨b, 3, none⟩ = some (.int .i64 m) ∧ w'.cell? ⟨b, 4, none⟩ = some (.int .i64 a) ∧ w'.cell? ⟨b, 5, none⟩ = some (.int .i64 c) ∧ w'.cell? ⟨b, 6, none⟩ = some (.int .i64 i) ∧ Hid (Below w0.heap.size w0 w')) (first | exact ⟨x0, x1, x2, x3, x4, x5, x6, HQ⟩ | exact keepC x (by assumption) (by assumption)) (first | (go_at_call 9; refine (H9.out _).mono ?_; rintro e w1 ⟨rfl, hb1⟩) | (go_at_call 10; refine (H10.out _).mono ?_; rintro e w2 ⟨rfl, hb2⟩) | (go_at_call 12; refine (H12.out _).mono ?_; rintro e w3 ⟨v3, rfl, ho3, _, hb3⟩; have HO3 := Lib.hid ho3; clear ho3) | (go_at_call 13; refine (H13.out _).mono ?_; rintro e w4 ⟨v4, rfl, ho4, _, hb4⟩; have HO4 := Lib.hid (HA.out ▸ ho4); have HO3' := Lib.hid (row_past HO3.out hb4); clear ho4) | (go_at_call 11; (with_reducible refine (HSA.out _ _ _ _ _ HO3'.out HO4.out).mono ?_); rintro e w5 ⟨rfl, hb5⟩) | (go_at_call 14; refine (H14.out _).mono ?_; rintro e w6 ⟨v6, rfl, ho6, _, hb6⟩; have HO6 := Lib.hid ho6; clear ho6) | (go_at_call 15; refine (H15.out _).mono ?_; rintro e w7 ⟨v7, rfl, ho7, _, hb7⟩; have HO7 := Lib.hid (HB0.out ▸ ho7); have HO6' := Lib.hid (row_past HO6.out hb7); clear ho7) | (go_at_call 11; (with_reducible refine (HSB.out _ _ _ _ _ HO6'.out HO7.out).mono ?_); rintro e w8 ⟨rfl, hb8⟩))
  rename_i hH
  obtain ⟨_, _, _, _, _, _, _, hk⟩ := hH
  have HB5 := Lib.hid (HB.out.trans (hk.out.mono HB.out.size))
  clear hk
  go_wp2
  go_ret
  exact ⟨rfl, HB5.out⟩
end Go.Proofs.Ytejdlhafdnpcmaa
