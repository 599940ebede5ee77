import Derived.Deep.RegionHeld3
import Derived.Test.YtejdlhafdnpcmaaKi
namespace Go.Proofs.Ytejdlhafdnpcmaa
open Go.RowKit
set_option linter.unusedVariables false
set_option maxRecDepth 100000 in
set_option maxHeartbeats 2000000 in
theorem kin_yd (op d n m a c i : Int) (A B : List Int) (lA : A.length ≤ 40) (lB : B.length ≤ 40) (hg : ∀ x ∈ puts A ++ puts B, good op d n m a x) (w : World) (h9 : ∀ w, Calls Try.prog 9 #[.agg #[.int .i64 op, .int .i64 d, .int .i64 n, .int .i64 m, .int .i64 a, .int .i64 c, .int .i64 i]] w (fun e w' => e = .returned (.int .i64 0) ∧ Below w.heap.size w w'))
    (h12 : ∀ w, Calls Try.prog 12 #[.agg #[.int .i64 op, .int .i64 d, .int .i64 n, .int .i64 m, .int .i64 a, .int .i64 c, .int .i64 i]] w (RowP A w)) (h14 : ∀ w, Calls Try.prog 14 #[.agg #[.int .i64 op, .int .i64 d, .int .i64 n, .int .i64 m, .int .i64 a, .int .i64 c, .int .i64 i]] w (RowP B w)) (h18 : ∀ w, Calls Try.prog 18 #[.int .i64 op] w fun e w' => e = .returned (.bool false) ∧ w' = w) (h20 : ∀ w, Calls Try.prog 20 #[.int .i64 op] w fun e w' => e = .returned (.bool false) ∧ w' = w) (h22 : ∀ w, Calls Try.prog 22 #[.int .i64 op] w fun e w' => e = .returned (.bool false) ∧ w' = w) (h24 : ∀ w, Calls Try.prog 24 #[.int .i64 op] w fun e w' => e = .returned (.bool false) ∧ w' = w) :
    Calls Try.prog 5 #[.agg #[.int .i64 op, .int .i64 d, .int .i64 n, .int .i64 m, .int .i64 a, .int .i64 c, .int .i64 i]] w fun e w' => e = .returned (.bool true) ∧ Below w.heap.size w w' := by
  obtain ⟨i0, hi, hz0, hz1, hz2⟩ := info_parts info3
  have LA := Lib.hid (show (puts A).length ≤ 40 by have := puts_length A; omega)
  have LB := Lib.hid (show (puts B).length ≤ 40 by have := puts_length B; omega)
  have HG := Lib.hid hg
  have H9 := Lib.hid h9
  have H12 := Lib.hid h12
  have H14 := Lib.hid h14
  have H18 := Lib.hid h18
  have H20 := Lib.hid h20
  have H22 := Lib.hid h22
  have H24 := Lib.hid h24
  clear h9 h12 h14 h18 h20 h22 h24 hg
  go_enter Try.func5, Try.ntmps5
  go_wp2_with fail
  refine (known_c _).mono ?_
  rintro e w0 ⟨rfl, hb⟩
  have HI0 := Lib.hid ((InsC.new w (.int .i64 op) (.int .i64 d) (.int .i64 n) (.int .i64 m) (.int .i64 a) (.int .i64 c) (.int .i64 i)).below' hb rfl)
  have HB0 := Lib.hid (((Below.refl _ _).alloc (Nat.le_refl _) _).trans (hb.mono (by simp)) : Below w.heap.size w w0)
  obtain ⟨x, x0, x1, x2, x3, x4, x5, x6⟩ := HI0.out
  clear hb
  go_wp2_with fail
  refine (H9.out _).mono ?_
  rintro e w1 ⟨rfl, hb⟩
  have HI1 := Lib.hid (HI0.out.below' hb rfl)
  have HB1 := Lib.hid (HB0.out.trans (hb.mono HB0.out.size))
  clear hb x x0 x1 x2 x3 x4 x5 x6 HI0 HB0
  obtain ⟨x, x0, x1, x2, x3, x4, x5, x6⟩ := HI1.out
  go_wp2_with (first | (go_at_call 18; refine (H18.out _).mono ?_; rintro e w' ⟨rfl, hw⟩; obtain rfl := hw.symm) | (go_at_call 20; refine (H20.out _).mono ?_; rintro e w' ⟨rfl, hw⟩; obtain rfl := hw.symm) | (go_at_call 22; refine (H22.out _).mono ?_; rintro e w' ⟨rfl, hw⟩; obtain rfl := hw.symm) | (go_at_call 24; refine (H24.out _).mono ?_; rintro e w' ⟨rfl, hw⟩; obtain rfl := hw.symm))
  obtain ⟨b, hb⟩ : ∃ b, b = w.heap.size := ⟨_, rfl⟩
  have HN : Hid (w.heap.size = b) := Lib.hid hb.symm
  rw [← hb] at x x0 x1 x2 x3 x4 x5 x6
  rw [← hb]
  clear hb HI1
  have HQ : Hid (Below w1.heap.size w1 w1.drew) := Lib.hid (Below.refl _ _).drew
  go_region_held3 (fun w' => w'.cell? ⟨b, 0, none⟩ = some (.int .i64 op) ∧ w'.cell? ⟨b, 1, none⟩ = some (.int .i64 d) ∧ w'.cell? ⟨b, 2, none⟩ = some (.int .i64 n) ∧ w'.cell? ⟨b, 3, none⟩ = some (.int .i64 m) ∧ w'.cell? ⟨b, 4, none⟩ = some (.int .i64 a) ∧ w'.cell? ⟨b, 5, none⟩ = some (.int .i64 c) ∧ w'.cell? ⟨b, 6, none⟩ = some (.int .i64 i) ∧ Hid (Below w1.heap.size w1 w')) (first | exact ⟨x0, x1, x2, x3, x4, x5, x6, HQ⟩ | exact keepC x (by assumption) (by assumption) | exact keepA x (by assumption) (by assumption)) (first | (go_at_call 12; refine (H12.out _).mono ?_; rintro e w3 ⟨v3, rfl, ho3, _, hb3⟩; have hs3 : w1.heap.size ≤ w3.heap.size := hb3.size; have HO3 := Lib.hid (ownsRow_mono ho3 (Nat.le_refl _)); clear ho3) | (go_at_call 14; refine (H14.out _).mono ?_; rintro e w6 ⟨v6, rfl, ho6, _, hb6⟩; have hs6 : w3.heap.size ≤ w6.heap.size := hb6.size; have HO6 := Lib.hid ho6; have HO3' := Lib.hid (row_past HO3.out hb6); clear ho6) | (refine step_append_rows (by rfl) _ _ 29 (by rfl) w1.heap.size 3 i0 _ 8 Try.underlying29 hi hz0 hz1 hz2 (by rfl) v3 _ _ (by rfl) HO3'.out w3.heap.size v6 _ _ (by rfl) HO6.out (by intro u hu; simp only [ivs, List.mem_map] at hu; obtain ⟨_, _, rfl⟩ := hu; rfl) (by have := LA.out; have := LB.out; unfold maxLen; omega) (by have := LA.out; have := LB.out; omega) (by omega) ?_; intro v8 w8 ho8 hgrow8; have HB8 : Below w1.heap.size w6 w8 := below_of_row HO3'.out (by omega) hgrow8; have HO8 := Lib.hid ho8; clear ho8 hgrow8))
  rename_i hH
  obtain ⟨y0, y1, y2, y3, y4, y5, y6, hk⟩ := hH
  have HB9 := Lib.hid (HB1.out.trans (hk.out.mono HB1.out.size))
  obtain ⟨xs, hxs⟩ : ∃ xs, xs = puts A ++ puts B := ⟨_, rfl⟩
  have HO9 : Hid (w8.ownsRow w1.heap.size 3 1 v8 xs.length (ivs xs)) := Lib.hid (row_as HO8.out (by rw [hxs]; simp) (by rw [hxs]; simp [ivs]))
  have hlen : xs.length ≤ 80 := by rw [hxs]; have := LA.out; have := LB.out; simp; omega
  have HM : Hid (∀ x ∈ xs, good op d n m a x) := Lib.hid (by rw [hxs]; exact HG.out)
  clear HO8 hxs HG HB8 hb3 hb6 HO3 HO3' HO6 hk x x0 x1 x2 x3 x4 x5 x6 HQ hs3 hs6 HB1
  rcases xs with _ | ⟨z, zs⟩
  · have hv : ∃ A c, v8 = .slice A 0 c := by
      rcases HO9.out.2 with ⟨rfl, _⟩ | ⟨g, cap, cur, rfl, _⟩
      · exact ⟨_, _, rfl⟩
      · exact ⟨_, _, rfl⟩
    obtain ⟨A8, c8, rfl⟩ := hv
    go_wp2
    go_loop [5] (fun i => i = .int .i64 0) (fun i => 0)
    case atStart => rfl
    case round =>
      subst hrel
      go_wp2
      go_ret
      exact ⟨rfl, HB9.out⟩
  · obtain ⟨g8, c8, rfl⟩ := ownsRow_succ (k := zs.length) HO9.out
    obtain ⟨_, q1, r1, _⟩ := rows_of HO9.out
    obtain ⟨l, hl⟩ : ∃ l, l = (z :: zs).length := ⟨_, rfl⟩
    obtain ⟨F, hF⟩ : ∃ F : Nat → Int, F = fun p => (z :: zs).getD p 0 := ⟨_, rfl⟩
    have hc : ∀ p, p < l → w8.cell? ⟨g8, p, none⟩ = some (.int .i64 (F p)) := fun p hp => by rw [hF]; exact r1 p _ (ivs_get _ p (by omega))
    have hm : ∀ p, p < l → good op d n m a (F p) := fun p hp => by
      rw [hF]
      refine HM.out _ ?_
      have hp' : p < (z :: zs).length := by omega
      simp only [List.getD_eq_getElem?_getD, List.getElem?_eq_getElem hp', Option.getD_some]
      exact List.getElem_mem hp'
    have HC := Lib.hid hc
    have HM2 := Lib.hid hm
    have hl1 : 1 ≤ l := by rw [hl]; simp
    have hl80 : l ≤ 80 := by rw [hl]; exact hlen
    rw [show zs.length + 1 = l by rw [hl]; simp] at *
    clear hc hm hF hl r1 HM
    go_wp2
    go_loop [5] (fun i => ∃ k : Nat, k ≤ l ∧ i = .int .i64 k) (fun i => l - (intOf i).toNat)
    case atStart => exact ⟨0, by omega, rfl⟩
    case round =>
      obtain ⟨k, hk, rfl⟩ := hrel
      by_cases hlt : k < l
      · have e1 := HC.out k hlt
        obtain ⟨g1, g2, g3, g4⟩ := HM2.out k hlt
        have gk : (k : Int) < l := by omega
        have gk0 : (0 : Int) ≤ k := by omega
        obtain ⟨f, hf⟩ : ∃ f, f = F k := ⟨_, rfl⟩
        rw [← hf] at e1 g1 g2 g3 g4
        clear hf
        have G4 := Lib.hid g4
        clear g4
        have G31 : (f == 31) = false := by simpa using g3
        by_cases h30 : f ≤ 30
        · by_cases d1 : f = d
          · subst d1
            clear G4
            go_wp2
            exact ⟨⟨k + 1, by omega, by go_num⟩, by simp [intOf]; omega⟩
          · have b1 : (f != d) = true := by simpa using d1
            by_cases d2 : f = n
            · subst d2
              clear G4 d1
              go_wp2
              exact ⟨⟨k + 1, by omega, by go_num⟩, by simp [intOf]; omega⟩
            · have b2 : (f != n) = true := by simpa using d2
              by_cases d3 : f = m
              · subst d3
                clear G4 d1 d2
                go_wp2
                exact ⟨⟨k + 1, by omega, by go_num⟩, by simp [intOf]; omega⟩
              · have b3 : (f != m) = true := by simpa using d3
                by_cases d4 : f = a
                · subst d4
                  clear G4 d1 d2 d3
                  go_wp2
                  exact ⟨⟨k + 1, by omega, by go_num⟩, by simp [intOf]; omega⟩
                · have b4 : (f != a) = true := by simpa using d4
                  rcases G4.out h30 with h | h | h | h | ⟨rfl, rfl | rfl⟩
                  · exact absurd h d1
                  · exact absurd h d2
                  · exact absurd h d3
                  · exact absurd h d4
                  · clear G4 d1 d2 d3 d4
                    go_wp2
                    exact ⟨⟨k + 1, by omega, by go_num⟩, by simp [intOf]; omega⟩
                  · clear G4 d1 d2 d3 d4
                    go_wp2
                    exact ⟨⟨k + 1, by omega, by go_num⟩, by simp [intOf]; omega⟩
        · have h32 : 32 ≤ f := by omega
          have hD : decide (f ≤ 30) = false := by simp; omega
          clear G4 h30
          go_wp2
          all_goals
            first
              | (exfalso; omega)
              | exact ⟨⟨k + 1, by omega, by go_num⟩, by simp [intOf]; omega⟩
      · obtain rfl : k = l := by omega
        go_wp2
        go_ret
        exact ⟨rfl, HB9.out⟩
end Go.Proofs.Ytejdlhafdnpcmaa
