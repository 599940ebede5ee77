import Derived.Test.YtnbpgoacooddjaaFIns2
namespace Go.Proofs.Ytnbpgoacooddjaa.Fr
open Go.RowKit
set_option linter.unusedVariables false
theorem row_cell {w4 : World} {g1 k cap1 : Nat} {L1 cs : List Value} (hc : k + 1 + cs.length ≤ L1.length) (hk : k < cap1) (hl : L1.length = cap1) (hg : w4.heap[g1]? = some (.cells (splice L1 (k + 1) cs).toArray 3 (0, 0))) : ∃ u, w4.cell? ⟨g1, k, none⟩ = some u := by
  rw [cell_of_row w4 g1 k _ 3 _ hg]
  have h := length_splice L1 (k + 1) cs hc
  exact ⟨_, by rw [List.getElem?_toArray]; exact List.getElem?_eq_getElem (by omega)⟩
def InsP (B : Nat) (own : Option Nat) (xs : List Int) (r : Int) (w : World) (e : Ending) (w' : World) : Prop := ∃ v', e = .returned v' ∧ w'.ownsRow B 3 1 v' (ins xs r).length (ivs (ins xs r)) ∧ w.grownBy w' own
set_option maxRecDepth 100000 in
set_option maxHeartbeats 1000000 in
theorem insert_s (B g n cap : Nat) (xs : List Int) (r : Int) (w : World) (hB : B ≤ w.heap.size) (hlen : xs.length = n) (hn : n ≤ 40) (n1 : 1 ≤ n) (hs : xs.Pairwise (· < ·)) (HO : Hid (w.ownsRow B 3 1 (.slice (some ⟨g, 0, none⟩) n cap) n (ivs xs))) :
    Calls Try.prog 188 #[.slice (some ⟨g, 0, none⟩) n cap, .int .i64 r] w (InsP B (some g) xs r w) := by
  obtain ⟨i0, hi, hz0, hz1, hz2⟩ := info_parts info3
  obtain ⟨hBg, hncap, hcells0, hfr⟩ := rows_of HO.out
  obtain ⟨F, hF⟩ : ∃ F : Nat → Int, F = fun p => xs.getD p 0 := ⟨_, rfl⟩
  have hcells : ∀ p, p < n → w.cell? ⟨g, p, none⟩ = some (.int .i64 (F p)) := fun p hp => by
    rw [hF]; exact hcells0 p _ (ivs_get xs p (by omega))
  have HC := Lib.hid hcells
  have HF := Lib.hid hF
  have HS := Lib.hid hs
  clear hcells0 hcells hF hs
  have HO2 : Hid ((w.alloc (.cells #[.int .i64 r] 3)).ownsRow B 3 1 (.slice (some ⟨g, 0, none⟩) n cap) n (ivs xs)) := Lib.hid (HO.out.alloc _)
  go_enter Try.func188, Try.ntmps188
  go_wp2
  go_loop [5] (fun i => ∃ k : Nat, k ≤ n ∧ i = .int .i64 k ∧ (k < n → r ≤ F k)) (fun i => (intOf i).toNat)
  case atStart => exact ⟨n, by omega, rfl, fun h => by omega⟩
  case round =>
    obtain ⟨k, hk, rfl, hge⟩ := hrel
    by_cases hgo : 0 < k ∧ r ≤ F (k - 1)
    · obtain ⟨h0, hr⟩ := hgo
      have hc := HC.out (k - 1) (by omega)
      have e1 : (k : Int) - 1 = ((k - 1 : Nat) : Int) := by omega
      have hk0 : (0 : Int) < k := by omega
      go_wp2
      exact ⟨⟨k - 1, by omega, rfl, fun _ => hr⟩, by simp [intOf]; omega⟩
    · have hend : k = 0 ∨ 0 < k ∧ F (k - 1) < r := by omega
      have HE := Lib.hid hend
      have HG := Lib.hid hge
      clear hge hgo
      have hins := ins_at r xs k HS.out (by omega) (by have := (congrFun HF.out (k - 1) : F (k - 1) = xs.getD (k - 1) 0); omega) (by have := (congrFun HF.out k : F k = xs.getD k 0); rw [← this, hlen]; exact HG.out)
      have HI := Lib.hid hins
      clear hins
      by_cases hkn : k < n
      · have gk : (k : Int) < n := by omega
        have hc2 := HC.out k hkn
        by_cases heq : F k = r
        · subst heq
          have hxs : ins xs (F k) = xs := by rw [HI.out, if_pos ⟨by omega, ((congrFun HF.out k : F k = xs.getD k 0)).symm⟩]
          rcases hend with h0 | ⟨h0, hlt⟩
          · subst h0
            have gk0 : (0 : Int) < n := by omega
            go_wp2
            go_ret
            refine ⟨_, rfl, ?_, ⟨rfl, rfl, rfl, Nat.le_refl _, fun _ _ _ => rfl⟩⟩
            rw [hxs, hlen]; exact HO.out
          · have hc := HC.out (k - 1) (by omega)
            have e1 : (k : Int) - 1 = ((k - 1 : Nat) : Int) := by omega
            have hk0 : (0 : Int) < k := by omega
            have hr : ¬ F k ≤ F (k - 1) := by omega
            go_wp2
            go_ret
            refine ⟨_, rfl, ?_, ⟨rfl, rfl, rfl, Nat.le_refl _, fun _ _ _ => rfl⟩⟩
            rw [hxs, hlen]; exact HO.out
        · have hxs : ins xs r = xs.take k ++ r :: xs.drop k := by rw [HI.out, if_neg (by rintro ⟨_, h⟩; exact heq (((congrFun HF.out k : F k = xs.getD k 0)).trans h))]
          rcases hend with h0 | ⟨h0, hlt⟩
          · subst h0
            have gk0 : (0 : Int) < n := by omega
            go_wp2_with (at_builtin; refine wpList_append_own_at _ rfl _ _ 36 rfl B 3 i0 _ 1 8 Try.underlying36 hi hz0 hz1 hz2 rfl (by decide) _ n (ivs xs) rfl HO2.out ⟨w.heap.size, 0, none⟩ 1 1 [.int .i64 r] rfl rfl (cell_one_new w _ 3) (by intro u hu; rw [List.mem_singleton] at hu; subst hu; rfl) (by unfold maxLen; omega) (by omega) (by simp; omega) ?_)
            intro v1 w1 hown hgrow hnil hblk
            rcases hown.2 with ⟨_, h1⟩ | ⟨g1, cap1, cur, rfl, hb1, hg1, hn1, hm1, hs1, ht1⟩
            · omega
            have HB1 : Hid (w.grownBy w1 (some g)) := Lib.hid ((World.grownBy_alloc w _ _).trans hgrow)
            have HQ : some g1 = (some g) ∨ w.heap.size ≤ g1 := by rcases hblk with h | h <;> simp [Value.ownBlock] at h ⊢ <;> omega
            have HG1 : Hid (w1.heap[g1]? = some (.cells cur.toList.toArray 3 (0, 0))) := Lib.hid hg1
            have HT1 := Lib.hid ht1
            have hcl : cur.toList.length = cap1 := by simpa using hs1
            clear hown hnil hblk hg1 ht1 hs1
            generalize cur.toList = L1 at *
            clear cur
            have hsrc := row_src (k := 0) (by omega) hlen HT1.out HG1.out
            have HSR := Lib.hid hsrc
            clear hsrc
            have c1 : (0 : Int) + 1 ≤ n + 1 := by omega
            have wr : IntKind.i64.wrap 1 = 1 := by decide
            have q2 : (1 : Int) ≤ n + 1 := by omega
            have q0 : (0 : Int) ≤ n + 1 := by omega
            have hc1 : (cap1 = 1) = False := eq_false (by omega)
            have hc0 : (cap1 = 0) = False := eq_false (by omega)
            go_wp2
            go_region_law (refine step_copy_grow rfl (.tmp 41) (.tmp 44) 36 36 rfl 3 Try.underlying36 size3 (some ⟨g1, 1, none⟩) (some ⟨g1, 0, none⟩) n (cap1 - 1) (n + 1) cap1 (by simp [Act.eval, Act.put]) (by simp [Act.eval, Act.put]) g1 (0 + 1) L1 3 HG1.out ((ivs xs).drop 0) (by simp only [List.length_drop, ivs_length, hlen, Nat.min_def, Nat.sub_zero]; split <;> omega) (fun _ => ⟨rfl, _, rfl, HSR.out⟩) (by simp only [List.length_drop, ivs_length, hlen]; omega) (by intro u hu; obtain ⟨p, _, rfl⟩ := List.mem_map.1 (List.mem_of_mem_drop hu); rfl) ?_; intro w4 HG4 HB4)
            have hlt : 0 < cap1 := by omega
            obtain ⟨u, hu⟩ := row_cell (k := 0) (cs := (ivs xs).drop 0) (by simp only [List.length_drop, ivs_length, hlen]; omega) (by omega) hcl HG4.out
            have hfz := frozen_of_row w4 g1 0 _ 3 HG4.out
            have hrow := row_ins (w4 := w4) (k := 0) (r := r) hb1 (by omega) hlen hcl hn1 hm1 HT1.out HG4.out
            rw [← hxs] at hrow
            have HRW := Lib.hid hrow
            have HB4' : Hid (w1.grownBy w4 (some g1)) := Lib.hid ⟨HB4.os, HB4.tape, HB4.output, HB4.size, HB4.block⟩
            have k2 : (0 : Int) < n + 1 := by omega
            clear hrow HG4 HB4
            go_wp2
            go_ret
            refine ⟨_, rfl, ?_, grown3 _ HB1.out HQ HB4'.out⟩
            have hl2 : (ins xs r).length = n + 1 := by rw [hxs]; simp; omega
            rw [hl2]; exact HRW.out
          · have hc := HC.out (k - 1) (by omega)
            have e1 : (k : Int) - 1 = ((k - 1 : Nat) : Int) := by omega
            have hk0 : (0 : Int) < k := by omega
            have hr : ¬ r ≤ F (k - 1) := by omega
            go_wp2_with (at_builtin; refine wpList_append_own_at _ rfl _ _ 36 rfl B 3 i0 _ 1 8 Try.underlying36 hi hz0 hz1 hz2 rfl (by decide) _ n (ivs xs) rfl HO2.out ⟨w.heap.size, 0, none⟩ 1 1 [.int .i64 r] rfl rfl (cell_one_new w _ 3) (by intro u hu; rw [List.mem_singleton] at hu; subst hu; rfl) (by unfold maxLen; omega) (by omega) (by simp; omega) ?_)
            intro v1 w1 hown hgrow hnil hblk
            rcases hown.2 with ⟨_, h1⟩ | ⟨g1, cap1, cur, rfl, hb1, hg1, hn1, hm1, hs1, ht1⟩
            · omega
            have HB1 : Hid (w.grownBy w1 (some g)) := Lib.hid ((World.grownBy_alloc w _ _).trans hgrow)
            have HQ : some g1 = (some g) ∨ w.heap.size ≤ g1 := by rcases hblk with h | h <;> simp [Value.ownBlock] at h ⊢ <;> omega
            have HG1 : Hid (w1.heap[g1]? = some (.cells cur.toList.toArray 3 (0, 0))) := Lib.hid hg1
            have HT1 := Lib.hid ht1
            have hcl : cur.toList.length = cap1 := by simpa using hs1
            clear hown hnil hblk hg1 ht1 hs1
            generalize cur.toList = L1 at *
            clear cur
            have hsrc := row_src (k := k) (by omega) hlen HT1.out HG1.out
            have HSR := Lib.hid hsrc
            clear hsrc
            have c1 : (k : Int) + 1 ≤ n + 1 := by omega
            have wr : IntKind.i64.wrap ((k : Int) + 1) = (k : Int) + 1 := by rw [IntKind.wrap_i64]; omega
            have q1 : (0 : Int) ≤ (k : Int) + 1 := by omega
            have q2 : (k : Int) + 1 ≤ n + 1 := by omega
            have q3 : (k : Int) ≤ n + 1 := by omega
            have t1 : ((k : Int) + 1).toNat = k + 1 := by omega
            have hc1 : (cap1 = k + 1) = False := eq_false (by omega)
            have hc0 : (cap1 = k) = False := eq_false (by omega)
            go_wp2
            go_region_law (refine step_copy_grow rfl (.tmp 41) (.tmp 44) 36 36 rfl 3 Try.underlying36 size3 (some ⟨g1, k + 1, none⟩) (some ⟨g1, k, none⟩) (n - k) (cap1 - (k + 1)) (n + 1 - k) (cap1 - k) (by simp [Act.eval, Act.put]) (by simp [Act.eval, Act.put]) g1 (k + 1) L1 3 HG1.out ((ivs xs).drop k) (by simp only [List.length_drop, ivs_length, hlen, Nat.min_def]; split <;> omega) (fun _ => ⟨rfl, _, rfl, HSR.out⟩) (by simp only [List.length_drop, ivs_length, hlen]; omega) (by intro u hu; obtain ⟨p, _, rfl⟩ := List.mem_map.1 (List.mem_of_mem_drop hu); rfl) ?_; intro w4 HG4 HB4)
            have hlt : k < cap1 := by omega
            obtain ⟨u, hu⟩ := row_cell (k := k) (cs := (ivs xs).drop k) (by simp only [List.length_drop, ivs_length, hlen]; omega) (by omega) hcl HG4.out
            have hfz := frozen_of_row w4 g1 k _ 3 HG4.out
            have hrow := row_ins (w4 := w4) (k := k) (r := r) hb1 (by omega) hlen hcl hn1 hm1 HT1.out HG4.out
            rw [← hxs] at hrow
            have HRW := Lib.hid hrow
            have HB4' : Hid (w1.grownBy w4 (some g1)) := Lib.hid ⟨HB4.os, HB4.tape, HB4.output, HB4.size, HB4.block⟩
            have k2 : (k : Int) < n + 1 := by omega
            clear hrow HG4 HB4
            go_wp2
            go_ret
            refine ⟨_, rfl, ?_, grown3 _ HB1.out HQ HB4'.out⟩
            have hl2 : (ins xs r).length = n + 1 := by rw [hxs]; simp; omega
            rw [hl2]; exact HRW.out
      · obtain rfl : k = n := by omega
        rcases hend with h0 | ⟨h0, hlt⟩
        · omega
        have hxs : ins xs r = xs.take k ++ r :: xs.drop k := by rw [HI.out, if_neg (by omega)]
        have hd0 : (ivs xs).drop k = [] := List.drop_eq_nil_of_le (by rw [ivs_length]; omega)
        have hc := HC.out (k - 1) (by omega)
        have e1 : (k : Int) - 1 = ((k - 1 : Nat) : Int) := by omega
        have hk0 : (0 : Int) < k := by omega
        have hr : ¬ r ≤ F (k - 1) := by omega
        go_wp2_with (at_builtin; refine wpList_append_own_at _ rfl _ _ 36 rfl B 3 i0 _ 1 8 Try.underlying36 hi hz0 hz1 hz2 rfl (by decide) _ k (ivs xs) rfl HO2.out ⟨w.heap.size, 0, none⟩ 1 1 [.int .i64 r] rfl rfl (cell_one_new w _ 3) (by intro u hu; rw [List.mem_singleton] at hu; subst hu; rfl) (by unfold maxLen; omega) (by omega) (by simp; omega) ?_)
        intro v1 w1 hown hgrow hnil hblk
        rcases hown.2 with ⟨_, h1⟩ | ⟨g1, cap1, cur, rfl, hb1, hg1, hn1, hm1, hs1, ht1⟩
        · omega
        have HB1 : Hid (w.grownBy w1 (some g)) := Lib.hid ((World.grownBy_alloc w _ _).trans hgrow)
        have HQ : some g1 = (some g) ∨ w.heap.size ≤ g1 := by rcases hblk with h | h <;> simp [Value.ownBlock] at h ⊢ <;> omega
        have HG1 : Hid (w1.heap[g1]? = some (.cells cur.toList.toArray 3 (0, 0))) := Lib.hid hg1
        have HT1 := Lib.hid ht1
        have hcl : cur.toList.length = cap1 := by simpa using hs1
        clear hown hnil hblk hg1 ht1 hs1
        generalize cur.toList = L1 at *
        clear cur
        have wr : IntKind.i64.wrap ((k : Int) + 1) = (k : Int) + 1 := by rw [IntKind.wrap_i64]; omega
        have q1 : (0 : Int) ≤ (k : Int) + 1 := by omega
        have q3 : (k : Int) ≤ (k : Int) + 1 := by omega
        have t1 : ((k : Int) + 1).toNat = k + 1 := by omega
        have hc0 : (cap1 = k) = False := eq_false (by omega)
        by_cases hcap : cap1 = k + 1
        · subst hcap
          go_wp2
          go_region_law (refine step_copy_grow rfl (.tmp 41) (.tmp 44) 36 36 rfl 3 Try.underlying36 size3 (some ⟨g1, 0, none⟩) (some ⟨g1, k, none⟩) 0 0 1 1 (by simp [Act.eval, Act.put]) (by simp [Act.eval, Act.put]) g1 (k + 1) L1 3 HG1.out ((ivs xs).drop k) (by rw [hd0]; rfl) (fun h => absurd h (by rw [hd0]; decide)) (by rw [hd0]; simp; omega) (by rw [hd0]; simp) ?_; intro w4 HG4 HB4)
          have hlt : k < (k + 1) := by omega
          obtain ⟨u, hu⟩ := row_cell (k := k) (cs := (ivs xs).drop k) (by rw [hd0]; simp; omega) (by omega) hcl HG4.out
          have hfz := frozen_of_row w4 g1 k _ 3 HG4.out
          have hrow := row_ins (w4 := w4) (k := k) (r := r) (n := k) (xs := xs) hb1 (by omega) hlen hcl hn1 hm1 HT1.out HG4.out
          rw [← hxs] at hrow
          have HRW := Lib.hid hrow
          have HB4' : Hid (w1.grownBy w4 (some g1)) := Lib.hid ⟨HB4.os, HB4.tape, HB4.output, HB4.size, HB4.block⟩
          have k2 : (k : Int) < (k : Int) + 1 := by omega
          clear hrow HG4 HB4
          go_wp2
          go_ret
          refine ⟨_, rfl, ?_, grown3 _ HB1.out HQ HB4'.out⟩
          have hl2 : (ins xs r).length = k + 1 := by rw [hxs]; simp [hlen]
          rw [hl2]; exact HRW.out
        · have hcap' : (cap1 = k + 1) = False := eq_false hcap
          go_wp2
          go_region_law (refine step_copy_grow rfl (.tmp 41) (.tmp 44) 36 36 rfl 3 Try.underlying36 size3 (some ⟨g1, k + 1, none⟩) (some ⟨g1, k, none⟩) 0 (cap1 - (k + 1)) 1 (cap1 - k) (by simp [Act.eval, Act.put]) (by simp [Act.eval, Act.put]) g1 (k + 1) L1 3 HG1.out ((ivs xs).drop k) (by rw [hd0]; rfl) (fun h => absurd h (by rw [hd0]; decide)) (by rw [hd0]; simp; omega) (by rw [hd0]; simp) ?_; intro w4 HG4 HB4)
          have hlt : k < cap1 := by omega
          obtain ⟨u, hu⟩ := row_cell (k := k) (cs := (ivs xs).drop k) (by rw [hd0]; simp; omega) (by omega) hcl HG4.out
          have hfz := frozen_of_row w4 g1 k _ 3 HG4.out
          have hrow := row_ins (w4 := w4) (k := k) (r := r) (n := k) (xs := xs) hb1 (by omega) hlen hcl hn1 hm1 HT1.out HG4.out
          rw [← hxs] at hrow
          have HRW := Lib.hid hrow
          have HB4' : Hid (w1.grownBy w4 (some g1)) := Lib.hid ⟨HB4.os, HB4.tape, HB4.output, HB4.size, HB4.block⟩
          have k2 : (k : Int) < (k : Int) + 1 := by omega
          clear hrow HG4 HB4
          go_wp2
          go_ret
          refine ⟨_, rfl, ?_, grown3 _ HB1.out HQ HB4'.out⟩
          have hl2 : (ins xs r).length = k + 1 := by rw [hxs]; simp [hlen]
          rw [hl2]; exact HRW.out
end Go.Proofs.Ytnbpgoacooddjaa.Fr
