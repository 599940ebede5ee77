import Derived.Test.YtejdlhafdnpcmaaLd0
namespace Go.Proofs.Ytejdlhafdnpcmaa
open Go.RowKit
set_option linter.unusedVariables false
theorem row_as {w : World} {B n n' : Nat} {v : Value} {xs ys : List Value} (h : w.ownsRow B 3 1 v n xs) (e : n = n') (e' : xs = ys) : w.ownsRow B 3 1 v n' ys := by rw [← e, ← e']; exact h
def LaidP (B : Nat) (xs : List Int) (r : Int) (w : World) (e : Ending) (w' : World) : Prop := ∃ v', e = .returned v' ∧ w'.ownsRow B 3 1 v' (put xs r).length (ivs (put xs r)) ∧ (put xs r = [] → v' = .slice none 0 0) ∧ Below w.heap.size w w'
theorem below_of_grown {w w' : World} {k : Nat} {n : Nat} (h : w.grownBy w' (some k)) (hn : n ≤ w.heap.size) (hk : n ≤ k) : Below n w w' :=
  ⟨h.os, h.tape, h.output, h.size, fun x hx => h.block x (by omega) (fun e => by injection e with e; omega)⟩
theorem own_ge {w : World} {B n : Nat} {v : Value} {xs : List Value} (h : w.ownsRow B 3 1 v n xs) (hv : v ≠ .slice none 0 0) : ∃ k, v.ownBlock = some k ∧ B ≤ k := by
  rcases h.2 with ⟨h1, _⟩ | ⟨g, cap, cur, rfl, hb, _⟩
  · exact absurd h1 hv
  · exact ⟨g, rfl, hb⟩
theorem cells_in {w W : World} {g n : Nat} {xs : List Int} {F : Nat → Int} (hF : F = fun p => xs.getD p 0) (hlen : xs.length = n) (hc : ∀ p, p < n → w.cell? ⟨g, p, none⟩ = some (.int .i64 (F p))) (hb : Below w.heap.size w W) (hg : g < w.heap.size) (a m : Nat) (ham : a + m ≤ n) :
    ∀ j u, (ivs ((xs.drop a).take m))[j]? = some u → W.cell? ((⟨g, a, none⟩ : Addr).add j) = some u := by
  intro j u hu
  have hj : j < m := by
    have := (List.getElem?_eq_some_iff.1 hu).1
    simp [ivs] at this
    omega
  have h1 := hc (a + j) (by omega)
  have h2 : (ivs ((xs.drop a).take m))[j]? = some (.int .i64 (F (a + j))) := by
    rw [hF]
    simp only [ivs, List.getElem?_map, List.getElem?_take, hj, if_true, List.getElem?_drop]
    rw [List.getElem?_eq_getElem (by omega : a + j < xs.length)]
    simp [List.getD, List.getElem?_eq_getElem (by omega : a + j < xs.length)]
  rw [h2] at hu
  injection hu with hu
  subst hu
  rw [← h1]
  have he : (⟨g, a, none⟩ : Addr).add j = ⟨g, a + j, none⟩ := by simp [Addr.add]
  rw [he]
  exact hb.cell (p := ⟨g, a + j, none⟩) hg
set_option maxRecDepth 100000 in
set_option maxHeartbeats 2000000 in
theorem laid_s (B g n cap : Nat) (xs : List Int) (r : Int) (w : World) (hB : B ≤ w.heap.size) (hgw : g < w.heap.size) (hlen : xs.length = n) (hn : n ≤ 40) (n1 : 1 ≤ n) (hs : xs.Pairwise (· < ·)) (hr : (r == 31) = false) (HO : Hid (w.ownsRow B 3 1 (.slice (some ⟨g, 0, none⟩) n cap) n (ivs xs))) :
    Calls Try.prog 45 #[.slice (some ⟨g, 0, none⟩) n cap, .int .i64 r] w (LaidP B xs r w) := by
  obtain ⟨i0, hi, hz0, hz1, hz2⟩ := info_parts info3
  obtain ⟨hBg, hncap, hcells0, hfr⟩ := rows_of HO.out
  obtain ⟨F, hF⟩ : ∃ F : Nat → Int, F = fun p => xs.getD p 0 := ⟨_, rfl⟩
  have hcells : ∀ p, p < n → w.cell? ⟨g, p, none⟩ = some (.int .i64 (F p)) := fun p hp => by
    rw [hF]; exact hcells0 p _ (ivs_get xs p (by omega))
  have hput : put xs r = ins xs r := by unfold put; rw [if_neg (by simpa using hr)]
  have HP := Lib.hid hput
  have HC := Lib.hid hcells
  have HF := Lib.hid hF
  have HS := Lib.hid hs
  clear hcells0 hcells hF hs hput
  have HE := Lib.hid (row_empty w w.heap.size (Nat.le_refl _))
  have HBe := Lib.hid ((Below.refl w.heap.size w).alloc (Nat.le_refl _) (.cells #[] 3))
  go_enter Try.func45, Try.ntmps45
  go_wp2
  go_loop [5] (fun i => ∃ k : Nat, k ≤ n ∧ i = .int .i64 k ∧ (k = 0 ∨ F (k - 1) < r)) (fun i => n - (intOf i).toNat)
  case atStart => exact ⟨0, by omega, rfl, .inl rfl⟩
  case round =>
    obtain ⟨k, hk, rfl, hge⟩ := hrel
    by_cases hgo : k < n ∧ F k < r
    · obtain ⟨h0, hrr⟩ := hgo
      have hc := HC.out k h0
      have gk : (k : Int) < n := by omega
      have HG := Lib.hid hge
      clear hge
      go_wp2
      exact ⟨⟨k + 1, by omega, by go_num, .inr hrr⟩, by simp [intOf]; omega⟩
    · have hins := ins_at r xs k HS.out (by omega) (by have := (congrFun HF.out (k - 1) : F (k - 1) = xs.getD (k - 1) 0); omega) (by have := (congrFun HF.out k : F k = xs.getD k 0); rw [← this, hlen]; omega)
      have HI := Lib.hid hins
      have HG := Lib.hid hge
      clear hins hge
      by_cases heq : k < n ∧ F k = r
      · obtain ⟨hkn, heq⟩ := heq
        have hc := HC.out k hkn
        have gk : (k : Int) < n := by omega
        subst heq
        have hxs : put xs (F k) = xs := by rw [HP.out, HI.out, if_pos ⟨by omega, ((congrFun HF.out k : F k = xs.getD k 0)).symm⟩]
        have HXS := Lib.hid hxs
        clear hxs hgo
        go_wp2
        go_ret
        refine ⟨_, rfl, ?_, ?_, Below.refl _ _⟩
        · rw [HXS.out, hlen]; exact HO.out
        · rw [HXS.out]; intro h; rw [h] at hlen; simp at hlen; omega
      · have hxs : put xs r = xs.take k ++ r :: xs.drop k := by rw [HP.out, HI.out, if_neg (by rintro ⟨h1, h⟩; exact heq ⟨by omega, ((congrFun HF.out k : F k = xs.getD k 0)).trans h⟩)]
        have HXS := Lib.hid hxs
        clear hxs
        have HN3 : Hid (n ≤ 40) := Lib.hid hn
        have hkc : (k : Int) ≤ cap := by omega
        have hnc : (n : Int) ≤ cap := by omega
        have hkn' : (k : Int) ≤ n := by omega
        have HK1 := Lib.hid (cells_in HF.out hlen HC.out HBe.out hgw 0 k (by omega))
        by_cases hkn : k < n
        · have hc := HC.out k hkn
          have gk : (k : Int) < n := by omega
          have hb1 : ¬ F k < r := by omega
          have hb2 : ¬ F k = r := by omega
          have hkc2 : ¬ cap = k := by omega
          go_wp2_with (first | (at_builtin; refine wpList_append_own_at _ rfl _ _ 29 rfl w.heap.size 3 i0 _ 1 8 Try.underlying29 hi hz0 hz1 hz2 rfl (by decide) _ 0 [] rfl HE.out ⟨g, 0, none⟩ k cap (ivs ((xs.drop 0).take k)) rfl (by simp only [ivs, List.length_map, List.length_take, List.length_drop]; omega) HK1.out (by intro u hu; simp only [ivs, List.mem_map] at hu; obtain ⟨_, _, rfl⟩ := hu; rfl) (by unfold maxLen; omega) (by omega) (by simp) ?_; intro v1 w1 hown1 hgrow1 hnil1 hblk1; have hne1 : v1 ≠ .slice none 0 0 := (fun h => by have := (hnil1.1 h).1; injection this with h1; cases h1); obtain ⟨b1, hv1, hv1g⟩ := own_ge hown1 hne1; have HB1 := Lib.hid (HBe.out.trans (below_of_grown hgrow1 (by simp) (Nat.le_refl _))); have HO1 := Lib.hid (hown1.alloc (.cells #[.int .i64 r] 3)); have HNE1 := Lib.hid hne1; have HV1 := Lib.hid hv1; have HV1g := Lib.hid hv1g; have hs1 : w.heap.size + 1 ≤ w1.heap.size := (by have := hgrow1.size; simpa using this); clear hown1 hgrow1 hnil1 hblk1 hne1 hv1 hv1g) | (at_builtin; refine wpList_append_own_at _ rfl _ _ 29 rfl w.heap.size 3 i0 _ 1 8 Try.underlying29 hi hz0 hz1 hz2 rfl (by decide) _ (0 + k) _ rfl HO1.out ⟨w1.heap.size, 0, none⟩ 1 1 [.int .i64 r] rfl rfl (cell_one_new w1 _ 3) (by intro u hu; rw [List.mem_singleton] at hu; subst hu; rfl) (by unfold maxLen; omega) (by omega) (by simp; omega) ?_; intro v2 w2 hown2 hgrow2 hnil2 hblk2; have hne2 : v2 ≠ .slice none 0 0 := (fun h => HNE1.out (hnil2.1 h).1); obtain ⟨b2, hv2, hv2g⟩ := own_ge hown2 hne2; have HB2 := Lib.hid ((HB1.out.alloc (by omega) (.cells #[.int .i64 r] 3)).trans (below_of_grown (HV1.out ▸ hgrow2) (by simp; omega) HV1g.out)); have HO2 := Lib.hid hown2; have HV2 := Lib.hid hv2; have HV2g := Lib.hid hv2g; have HNE2 := Lib.hid hne2; have hs2 : w.heap.size + 1 ≤ w2.heap.size := (by have := hgrow2.size; simp at this; omega); clear hown2 hgrow2 hnil2 hblk2 hne2 hv2 hv2g) | (at_builtin; refine wpList_append_own_at _ rfl _ _ 29 rfl w.heap.size 3 i0 _ 1 8 Try.underlying29 hi hz0 hz1 hz2 rfl (by decide) _ (0 + k + 1) _ rfl HO2.out ⟨g, k, none⟩ (n - k) (cap - k) (ivs ((xs.drop k).take (n - k))) rfl (by simp [ivs]; omega) (cells_in HF.out hlen HC.out HB2.out hgw k (n - k) (by omega)) (by intro u hu; simp only [ivs, List.mem_map] at hu; obtain ⟨_, _, rfl⟩ := hu; rfl) (by unfold maxLen; omega) (by omega) (by omega) ?_; intro v3 w3 hown3 hgrow3 hnil3 hblk3; have HB3 := Lib.hid (HB2.out.trans (below_of_grown (HV2.out ▸ hgrow3) (by omega) HV2g.out)); have HO3 := Lib.hid hown3; clear hown3 hgrow3 hnil3 hblk3))
          go_ret
          refine ⟨v3, rfl, ?_, fun h => ?_, HB3.out⟩
          · refine row_as (ownsRow_mono HO3.out hB) ?_ ?_
            · rw [HXS.out]; simp; omega
            · rw [HXS.out, List.take_of_length_le (l := xs.drop k) (i := n - k) (by simp; omega)]; simp [ivs]
          · rw [HXS.out] at h; simp at h
        · obtain rfl : k = n := by omega
          have gk : ¬ (k : Int) < k := by omega
          by_cases hcap : cap = k
          · obtain rfl : k = cap := hcap.symm
            clear hcap
            go_wp2_with (first | (at_builtin; refine wpList_append_own_at _ rfl _ _ 29 rfl w.heap.size 3 i0 _ 1 8 Try.underlying29 hi hz0 hz1 hz2 rfl (by decide) _ 0 [] rfl HE.out ⟨g, 0, none⟩ k k (ivs ((xs.drop 0).take k)) rfl (by simp only [ivs, List.length_map, List.length_take, List.length_drop]; omega) HK1.out (by intro u hu; simp only [ivs, List.mem_map] at hu; obtain ⟨_, _, rfl⟩ := hu; rfl) (by unfold maxLen; omega) (by omega) (by simp) ?_; intro v1 w1 hown1 hgrow1 hnil1 hblk1; have hne1 : v1 ≠ .slice none 0 0 := (fun h => by have := (hnil1.1 h).1; injection this with h1; cases h1); obtain ⟨b1, hv1, hv1g⟩ := own_ge hown1 hne1; have HB1 := Lib.hid (HBe.out.trans (below_of_grown hgrow1 (by simp) (Nat.le_refl _))); have HO1 := Lib.hid (hown1.alloc (.cells #[.int .i64 r] 3)); have HNE1 := Lib.hid hne1; have HV1 := Lib.hid hv1; have HV1g := Lib.hid hv1g; have hs1 : w.heap.size + 1 ≤ w1.heap.size := (by have := hgrow1.size; simpa using this); clear hown1 hgrow1 hnil1 hblk1 hne1 hv1 hv1g) | (at_builtin; refine wpList_append_own_at _ rfl _ _ 29 rfl w.heap.size 3 i0 _ 1 8 Try.underlying29 hi hz0 hz1 hz2 rfl (by decide) _ (0 + k) _ rfl HO1.out ⟨w1.heap.size, 0, none⟩ 1 1 [.int .i64 r] rfl rfl (cell_one_new w1 _ 3) (by intro u hu; rw [List.mem_singleton] at hu; subst hu; rfl) (by unfold maxLen; omega) (by omega) (by simp; omega) ?_; intro v2 w2 hown2 hgrow2 hnil2 hblk2; have hne2 : v2 ≠ .slice none 0 0 := (fun h => HNE1.out (hnil2.1 h).1); obtain ⟨b2, hv2, hv2g⟩ := own_ge hown2 hne2; have HB2 := Lib.hid ((HB1.out.alloc (by omega) (.cells #[.int .i64 r] 3)).trans (below_of_grown (HV1.out ▸ hgrow2) (by simp; omega) HV1g.out)); have HO2 := Lib.hid hown2; have HV2 := Lib.hid hv2; have HV2g := Lib.hid hv2g; have HNE2 := Lib.hid hne2; have hs2 : w.heap.size + 1 ≤ w2.heap.size := (by have := hgrow2.size; simp at this; omega); clear hown2 hgrow2 hnil2 hblk2 hne2 hv2 hv2g) | (at_builtin; (refine wpList_append_own_at _ rfl _ _ 29 rfl w.heap.size 3 i0 _ 1 8 Try.underlying29 hi hz0 hz1 hz2 rfl (by decide) _ (0 + k + 1) _ rfl HO2.out _ _ _ (ivs []) rfl (by simp [ivs]) (by intro j u hu; simp [ivs] at hu) (by intro u hu; simp only [ivs, List.mem_map] at hu; obtain ⟨_, _, rfl⟩ := hu; rfl) (by unfold maxLen; omega) (by omega) (by omega) ?_); intro v3 w3 hown3 hgrow3 hnil3 hblk3; have HB3 := Lib.hid (HB2.out.trans (below_of_grown (HV2.out ▸ hgrow3) (by omega) HV2g.out)); have HO3 := Lib.hid hown3; clear hown3 hgrow3 hnil3 hblk3))
            go_ret
            refine ⟨v3, rfl, ?_, fun h => ?_, HB3.out⟩
            · refine row_as (ownsRow_mono HO3.out hB) ?_ ?_
              · rw [HXS.out]; simp; omega
              · rw [HXS.out, show xs.drop k = [] from List.drop_of_length_le (by omega)]; simp [ivs]
            · rw [HXS.out] at h; simp at h
          · go_wp2_with (first | (at_builtin; refine wpList_append_own_at _ rfl _ _ 29 rfl w.heap.size 3 i0 _ 1 8 Try.underlying29 hi hz0 hz1 hz2 rfl (by decide) _ 0 [] rfl HE.out ⟨g, 0, none⟩ k cap (ivs ((xs.drop 0).take k)) rfl (by simp only [ivs, List.length_map, List.length_take, List.length_drop]; omega) HK1.out (by intro u hu; simp only [ivs, List.mem_map] at hu; obtain ⟨_, _, rfl⟩ := hu; rfl) (by unfold maxLen; omega) (by omega) (by simp) ?_; intro v1 w1 hown1 hgrow1 hnil1 hblk1; have hne1 : v1 ≠ .slice none 0 0 := (fun h => by have := (hnil1.1 h).1; injection this with h1; cases h1); obtain ⟨b1, hv1, hv1g⟩ := own_ge hown1 hne1; have HB1 := Lib.hid (HBe.out.trans (below_of_grown hgrow1 (by simp) (Nat.le_refl _))); have HO1 := Lib.hid (hown1.alloc (.cells #[.int .i64 r] 3)); have HNE1 := Lib.hid hne1; have HV1 := Lib.hid hv1; have HV1g := Lib.hid hv1g; have hs1 : w.heap.size + 1 ≤ w1.heap.size := (by have := hgrow1.size; simpa using this); clear hown1 hgrow1 hnil1 hblk1 hne1 hv1 hv1g) | (at_builtin; refine wpList_append_own_at _ rfl _ _ 29 rfl w.heap.size 3 i0 _ 1 8 Try.underlying29 hi hz0 hz1 hz2 rfl (by decide) _ (0 + k) _ rfl HO1.out ⟨w1.heap.size, 0, none⟩ 1 1 [.int .i64 r] rfl rfl (cell_one_new w1 _ 3) (by intro u hu; rw [List.mem_singleton] at hu; subst hu; rfl) (by unfold maxLen; omega) (by omega) (by simp; omega) ?_; intro v2 w2 hown2 hgrow2 hnil2 hblk2; have hne2 : v2 ≠ .slice none 0 0 := (fun h => HNE1.out (hnil2.1 h).1); obtain ⟨b2, hv2, hv2g⟩ := own_ge hown2 hne2; have HB2 := Lib.hid ((HB1.out.alloc (by omega) (.cells #[.int .i64 r] 3)).trans (below_of_grown (HV1.out ▸ hgrow2) (by simp; omega) HV1g.out)); have HO2 := Lib.hid hown2; have HV2 := Lib.hid hv2; have HV2g := Lib.hid hv2g; have HNE2 := Lib.hid hne2; have hs2 : w.heap.size + 1 ≤ w2.heap.size := (by have := hgrow2.size; simp at this; omega); clear hown2 hgrow2 hnil2 hblk2 hne2 hv2 hv2g) | (at_builtin; (refine wpList_append_own_at _ rfl _ _ 29 rfl w.heap.size 3 i0 _ 1 8 Try.underlying29 hi hz0 hz1 hz2 rfl (by decide) _ (0 + k + 1) _ rfl HO2.out _ _ _ (ivs []) rfl (by simp [ivs]) (by intro j u hu; simp [ivs] at hu) (by intro u hu; simp only [ivs, List.mem_map] at hu; obtain ⟨_, _, rfl⟩ := hu; rfl) (by unfold maxLen; omega) (by omega) (by omega) ?_); intro v3 w3 hown3 hgrow3 hnil3 hblk3; have HB3 := Lib.hid (HB2.out.trans (below_of_grown (HV2.out ▸ hgrow3) (by omega) HV2g.out)); have HO3 := Lib.hid hown3; clear hown3 hgrow3 hnil3 hblk3))
            go_ret
            refine ⟨v3, rfl, ?_, fun h => ?_, HB3.out⟩
            · refine row_as (ownsRow_mono HO3.out hB) ?_ ?_
              · rw [HXS.out]; simp; omega
              · rw [HXS.out, show xs.drop k = [] from List.drop_of_length_le (by omega)]; simp [ivs]
            · rw [HXS.out] at h; simp at h
end Go.Proofs.Ytejdlhafdnpcmaa
