import Derived.Test.YtnbpgoacooddjaaPi
import Derived.Deep.Slices
import Derived.Deep.Fields
import Derived.Test.YtnbpgoacooddjaaLm
namespace Go.Proofs.Ytnbpgoacooddjaa.Lab
open Go.ChangeShapes Go.WideShapes Go.ChangeAt Go.RowKit Go.Maps Go.Deep
open Go.Proofs.Ytnbpgoacooddjaa.En
set_option linter.unusedVariables false
attribute [local go_sem] rowAt_drew rowAt_drewN
/-- What is so in the document's loops over the jumps. -/
structure RwI (w : World) (v : Value) (n : Nat) (G : Nat → In) (W : World) : Prop where
  row : W.ownsRow w.heap.size 29 7 v n (insL G n)
  bl : Below w.heap.size w W
theorem RwI.set {w : World} {g n cv a : Nat} {G : Nat → In} {W : World} (h : RwI w (.slice (some ⟨g, 0, none⟩) n cv) n G W) (ha : a < n) (hg : w.heap.size ≤ g) (x : Int) : RwI w (.slice (some ⟨g, 0, none⟩) n cv) n (setI G a x) (W.setCell ⟨g, a * 7 + 6, none⟩ (.int .i64 x)) :=
  ⟨own_setI h.row a ha x, h.bl.setCell (p := ⟨g, a * 7 + 6, none⟩) hg _⟩
theorem RwI.past {w : World} {v : Value} {n : Nat} {G : Nat → In} {W W' : World} (h : RwI w v n G W) (hb : Below W.heap.size W W') : RwI w v n G W' :=
  ⟨ownsRow_kept h.row fun g hg => hb.block g (by obtain ⟨cur, hc⟩ := own_heap h.row hg; exact (Array.getElem?_eq_some_iff.1 hc).1), h.bl.trans (hb.mono h.bl.size)⟩
theorem own_empty (w : World) : (w.alloc (.cells #[] 29)).ownsRow w.heap.size 29 7 (.slice (some ⟨w.heap.size, 0, none⟩) 0 0) 0 [] :=
  ⟨rfl, .inr ⟨w.heap.size, 0, _, rfl, Nat.le_refl _, heap_alloc_new w _, Nat.le_refl _, by unfold maxLen; decide, rfl, rfl⟩⟩
set_option maxRecDepth 100000 in
set_option maxHeartbeats 8000000 in
theorem rwords_miss (w : World) (FP : Nat → Prop) (q : Nat) (S : Lb) (v1 v2 v3 : Value) (lm : Nat → ByteArray) (lt : Nat → Nat) (h : RfC w FP q S v1 v2 v3 lm lt) (he : S.err = 0) (hcn : S.cnt ≤ 1000000) (tk : Nat → Nat) (m0 : Nat) (hm0 : m0 < S.jn) (hjn : S.jn ≤ 1000000) (hmiss : Maps.has S.D (ky (S.nm m0)) = false)
    (hj : ∀ k, k < m0 → Maps.has S.D (ky (S.nm k)) = true ∧ S.D.atKey (ky (S.nm k)) (.lit (.int .i64 0)) = .lit (.int .i64 (tk k : Int))) :
    Calls Try.prog 41 #[.pointer (some ⟨q, 0, none⟩)] w fun e w' => e = .returned (.tuple #[.slice none 0 0, .int .i64 24]) ∧ Below w.heap.size w w' := by
  have H := Lib.hid h
  have HJ := Lib.hid hj
  have HMISS := Lib.hid hmiss
  have hnl := h.nl
  obtain ⟨a1, cp1, rfl, _⟩ := own_form h.ins
  obtain ⟨a3, cp3, rfl, _⟩ := own_form h.jmp
  have c4 := rowAt_cell h.rw 4
  simp only [cellsR, he] at c4
  have HA := Lib.hid (h.past ((Below.refl w.heap.size w).alloc (Nat.le_refl _) (.cells #[] 29)))
  have hc1 := rowAt_cell HA.out.rw 1
  simp only [cellsR] at hc1
  clear h hj hmiss
  go_enter Try.func41, Try.ntmps41
  go_wp2_with (at_builtin; refine wpl_append7 rfl _ _ rfl w.heap.size _ 0 _ rfl (own_empty w) a1 S.n cp1 S.F rfl (src_of_own HA.out.ins) (by omega) (by simp) ?_; intro v4 w4 ho4 hg4 hl4; have HO4 := Lib.hid ho4; have HG4 := Lib.hid hg4; clear ho4 hg4 hl4)
  have hb4 : Below w.heap.size w w4 := ((Below.refl w.heap.size w).alloc (Nat.le_refl _) (.cells #[] 29)).grown HG4.out (by simp) (fun g hg => by have := (World.ownsRow.lt (own_empty w) g hg).1; omega)
  have HB4 := Lib.hid hb4
  have H4 := Lib.hid (H.out.past hb4)
  have c43 := rowAt_cell H4.out.rw 3
  simp only [cellsR] at c43
  clear hb4 HA HG4 HO4 c4 hc1
  go_wp2
  go_loopw [5] (fun s5 W => ∃ k : Nat, k ≤ m0 ∧ s5 = .int .i64 k ∧ Hid (w4 = W)) (fun s5 _ => S.jn - (intOf s5).toNat)
  case atStart => exact ⟨0, Nat.zero_le _, rfl, Lib.hid rfl⟩
  case round =>
    obtain ⟨k, hk, rfl, HW⟩ := hrel
    obtain rfl := HW.out
    have hkj : k < S.jn := by omega
    obtain ⟨g3, cap3, hv3, _, _⟩ := H4.out.jmp.form (by omega)
    injection hv3 with e1 e2 e3
    subst e1 e3
    have cJ := (own_cells H4.out.jmp).1 _ _ (mkL_at S.nm S.pl k S.jn hkj).1
    by_cases hlt : k < m0
    · obtain ⟨hh, ha⟩ := HJ.out k hlt
      have HF := Lib.hid (find_y w4 FP q S _ v2 _ lm lt (S.nm k) (tk k) H4.out hcn hh ha)
      clear hh ha
      go_wp2_with (go_at_call 118; refine HF.out.mono ?_; rintro e w2 ⟨rfl, rfl⟩)
      go_roundw
      case rel => exact ⟨k + 1, by omega, by go_num, Lib.hid (by trivial)⟩
      case measure => simp [intOf]; omega
    · obtain rfl : k = m0 := by omega
      have HF := Lib.hid (find_n w4 FP q S _ v2 _ lm lt (S.nm k) H4.out hcn HMISS.out)
      go_wp2_with (go_at_call 118; refine HF.out.mono ?_; rintro e w2 ⟨rfl, rfl⟩)
      go_ret2
      exact ⟨rfl, HB4.out⟩
set_option maxRecDepth 100000 in
set_option maxHeartbeats 20000000 in
theorem rwords_y (w : World) (FP : Nat → Prop) (q : Nat) (S : Lb) (v1 v2 v3 : Value) (lm : Nat → ByteArray) (lt : Nat → Nat) (h : RfC w FP q S v1 v2 v3 lm lt) (he : S.err = 0) (hcn : S.cnt ≤ 1000000) (ak tk : Nat → Nat) (hjn : S.jn ≤ 1000000) (hjp : Jps S ak) (hgd : good S.F S.n)
    (hj : ∀ k, k < S.jn → Maps.has S.D (ky (S.nm k)) = true ∧ S.D.atKey (ky (S.nm k)) (.lit (.int .i64 0)) = .lit (.int .i64 (tk k : Int)) ∧ tk k ≤ 65536) :
    Calls Try.prog 41 #[.pointer (some ⟨q, 0, none⟩)] w fun e w' => ((good (landF S ak tk S.jn) S.n ∧ ∃ a cp, e = .returned (.tuple #[.slice a S.n cp, .int .i64 0]) ∧ w'.ownsRow w.heap.size 54 1 (.slice a S.n cp) S.n (ws (landF S ak tk S.jn) S.n)) ∨ (¬ good (landF S ak tk S.jn) S.n ∧ e = .returned (.tuple #[.slice none 0 0, .int .i64 7]))) ∧ Below w.heap.size w w' := by
  have H := Lib.hid h
  have HJ := Lib.hid hj
  have HJP := Lib.hid hjp
  have HGL := Lib.hid (good_land S ak tk hjp hgd)
  have hnl := h.nl
  obtain ⟨a1, cp1, rfl, _⟩ := own_form h.ins
  obtain ⟨a3, cp3, rfl, _⟩ := own_form h.jmp
  have c4 := rowAt_cell h.rw 4
  simp only [cellsR, he] at c4
  have HA := Lib.hid (h.past ((Below.refl w.heap.size w).alloc (Nat.le_refl _) (.cells #[] 29)))
  have hc1 := rowAt_cell HA.out.rw 1
  simp only [cellsR] at hc1
  obtain ⟨i0, hi, hz0, hz1, hz2⟩ := info_parts info25
  clear h hj hjp hgd
  go_enter Try.func41, Try.ntmps41
  go_wp2_with (at_builtin; refine wpl_append7 rfl _ _ rfl w.heap.size _ 0 _ rfl (own_empty w) a1 S.n cp1 S.F rfl (src_of_own HA.out.ins) (by omega) (by simp) ?_; intro v4 w4 ho4 hg4 hl4; have HO4 := Lib.hid ho4; have HG4 := Lib.hid hg4; clear ho4 hg4 hl4)
  have hb4 : Below w.heap.size w w4 := ((Below.refl w.heap.size w).alloc (Nat.le_refl _) (.cells #[] 29)).grown HG4.out (by simp) (fun g hg => by have := (World.ownsRow.lt (own_empty w) g hg).1; omega)
  have HO4' : w4.ownsRow w.heap.size 29 7 v4 S.n (insL S.F S.n) := by have := HO4.out; simpa using this
  have HI4 : Hid (RwI w v4 S.n (landF S ak tk 0) w4) := Lib.hid ⟨HO4', hb4⟩
  obtain ⟨a4, cv, rfl, _⟩ := own_form HO4'
  have H4 := Lib.hid (H.out.past hb4)
  have c43 := rowAt_cell H4.out.rw 3
  simp only [cellsR] at c43
  clear hb4 HA HG4 HO4 HO4' c4 hc1
  go_wp2
  go_loopw [5] (fun s5 W => ∃ k : Nat, k ≤ S.jn ∧ s5 = .int .i64 k ∧ Hid (w4 = W)) (fun s5 _ => S.jn - (intOf s5).toNat)
  case atStart => exact ⟨0, Nat.zero_le _, rfl, Lib.hid rfl⟩
  case round =>
    obtain ⟨k, hk, rfl, HW⟩ := hrel
    obtain rfl := HW.out
    by_cases hkj : k < S.jn
    · obtain ⟨g3, cap3, hv3, _, _⟩ := H4.out.jmp.form (by omega)
      injection hv3 with e1 e2 e3
      subst e1 e3
      have cJ := (own_cells H4.out.jmp).1 _ _ (mkL_at S.nm S.pl k S.jn hkj).1
      obtain ⟨hh, ha, _⟩ := HJ.out k hkj
      have HF := Lib.hid (find_y w4 FP q S _ v2 _ lm lt (S.nm k) (tk k) H4.out hcn hh ha)
      clear hh ha
      go_wp2_with (go_at_call 118; refine HF.out.mono ?_; rintro e w2 ⟨rfl, rfl⟩)
      go_roundw
      case rel => exact ⟨k + 1, by omega, by go_num, Lib.hid (by trivial)⟩
      case measure => simp [intOf]; omega
    · obtain rfl : k = S.jn := by omega
      go_wp2
      go_loopw [6] (fun s6 W => ∃ k : Nat, k ≤ S.jn ∧ s6 = .int .i64 k ∧ Hid (RwI w (.slice a4 S.n cv) S.n (landF S ak tk k) W) ∧ Hid (∀ i, i < k → (landF S ak tk (i + 1) (ak i)).e = 0)) (fun s6 _ => S.jn - (intOf s6).toNat)
      case atStart => exact ⟨0, Nat.zero_le _, rfl, HI4, Lib.hid (fun i hi => absurd hi (Nat.not_lt_zero _))⟩
      case round =>
        obtain ⟨k, hk, rfl, HI, HE⟩ := hrel
        have HR := Lib.hid (H.out.past HI.out.bl)
        have cq3 := rowAt_cell HR.out.rw 3
        simp only [cellsR] at cq3
        by_cases hkj : k < S.jn
        · obtain ⟨hh, ha, ht⟩ := HJ.out k hkj
          obtain ⟨hpl, han, hs⟩ := HJP.out.pl k hkj
          obtain ⟨g3, cap3, hv3, _, _⟩ := HR.out.jmp.form (by omega)
          injection hv3 with e1 e2 e3
          subst e1 e3
          have cJ := (own_cells HR.out.jmp).1 _ _ (mkL_at S.nm S.pl k S.jn hkj).1
          have cP := (own_cells HR.out.jmp).1 _ _ (mkL_at S.nm S.pl k S.jn hkj).2
          rw [hpl] at cP
          obtain ⟨g, cap', hv, hgb, hgl⟩ := HI.out.row.form (by omega)
          injection hv with e1 e2 e3
          subst e1 e3
          have HF := Lib.hid (find_y wr FP q S _ v2 _ lm lt (S.nm k) (tk k) HR.out hcn hh ha)
          have c6 : wr.cell? ⟨g, ak k * 7 + 6, none⟩ = some _ := (own_cells HI.out.row).1 _ _ (insL_at (landF S ak tk k) (ak k) 6 (by decide) S.n han)
          have f6 := (own_cells HI.out.row).2 (ak k * 7 + 6)
          have HN := Lib.hid (HI.out.set han hgb (4 * ((tk k : Int) - ak k)))
          have hx : ∀ (x : In), setI (landF S ak tk k) (ak k) (4 * ((tk k : Int) - ak k)) (ak k) = x → ∀ j u, (cl x)[j]? = some u → j < 7 → (wr.setCell ⟨g, ak k * 7 + 6, none⟩ (.int .i64 (4 * ((tk k : Int) - ak k)))).cell? ⟨g, ak k * 7 + j, none⟩ = some u := fun x hx j u hu hj7 => by
            have := (own_cells HN.out.row).1 (ak k * 7 + j) u (by rw [insL_at _ (ak k) j hj7 S.n han, hx]; exact hu)
            exact this
          obtain ⟨x, hxe⟩ : ∃ x, setI (landF S ak tk k) (ak k) (4 * ((tk k : Int) - ak k)) (ak k) = x := ⟨_, rfl⟩
          have HX := Lib.hid hxe
          have x0 := hx x hxe 0 (.int .i64 x.op) rfl (by decide)
          have x1 := hx x hxe 1 (.int .i64 x.d) rfl (by decide)
          have x2 := hx x hxe 2 (.int .i64 x.n) rfl (by decide)
          have x3 := hx x hxe 3 (.int .i64 x.m) rfl (by decide)
          have x4 := hx x hxe 4 (.int .i64 x.a) rfl (by decide)
          have x5 := hx x hxe 5 (.int .i64 x.c) rfl (by decide)
          have x6 := hx x hxe 6 (.int .i64 x.i) rfl (by decide)
          have HLX : Hid ((landF S ak tk (k + 1) (ak k)) = x) := Lib.hid hxe
          have hck := x.rcheck (wr.setCell ⟨g, ak k * 7 + 6, none⟩ (.int .i64 (4 * ((tk k : Int) - ak k))))
          simp only [Nat.add_zero] at x0
          clear hx hxe hh ha hs
          go_upto_region 14 with (go_at_call 118; refine HF.out.mono ?_; rintro e w2 ⟨rfl, rfl⟩)
          generalize wr.setCell ⟨g, ak k * 7 + 6, none⟩ (.int .i64 (4 * ((tk k : Int) - ak k))) = W5 at HN x0 x1 x2 x3 x4 x5 x6 hck ⊢
          rcases x.e_or with hx0 | hx1
          · rw [hx0] at hck
            have HCK : Hid (Calls Try.prog 83 #[.agg #[.int .i64 x.op, .int .i64 x.d, .int .i64 x.n, .int .i64 x.m, .int .i64 x.a, .int .i64 x.c, .int .i64 x.i]] W5 fun e w' => e = .returned (.int .i64 0) ∧ Below W5.heap.size W5 w') := Lib.hid hck
            have HE2 : Hid (∀ i, i < k + 1 → (landF S ak tk (i + 1) (ak i)).e = 0) := Lib.hid (fun i hi => by
              rcases Nat.lt_or_ge i k with h | h
              · exact HE.out i h
              · rw [show i = k by omega, HLX.out]; exact hx0)
            clear hck hx0
            go_wp2_with (go_at_call 83; refine HCK.out.mono ?_; rintro e w6 ⟨rfl, hb6⟩; have HN6 := Lib.hid (HN.out.past hb6); clear hb6)
            go_roundw
            case rel => exact ⟨k + 1, by omega, by go_num, HN6, HE2⟩
            case measure => simp [intOf]; omega
          · rw [hx1] at hck
            have HCK : Hid (Calls Try.prog 83 #[.agg #[.int .i64 x.op, .int .i64 x.d, .int .i64 x.n, .int .i64 x.m, .int .i64 x.a, .int .i64 x.c, .int .i64 x.i]] W5 fun e w' => e = .returned (.int .i64 1) ∧ Below W5.heap.size W5 w') := Lib.hid hck
            have HNG : Hid (¬ good (landF S ak tk S.jn) S.n) := Lib.hid (fun hg => by
              have := (HGL.out.1 hg) k hkj
              rw [HLX.out, hx1] at this
              cases this)
            clear hck hx1
            go_wp2_with (go_at_call 83; refine HCK.out.mono ?_; rintro e w6 ⟨rfl, hb6⟩; have HN6 := Lib.hid (HN.out.past hb6); clear hb6)
            go_ret2
            exact ⟨.inr ⟨HNG.out, rfl⟩, HN6.out.bl⟩
        · obtain rfl : k = S.jn := by omega
          have HGD : Hid (good (landF S ak tk S.jn) S.n) := Lib.hid (HGL.out.2 HE.out)
          obtain ⟨G, hG⟩ : ∃ G, landF S ak tk S.jn = G := ⟨_, rfl⟩
          rw [hG] at HI HGD
          have HGG := Lib.hid hG
          have HOW : Hid (wr.ownsRow w.heap.size 54 1 (.slice none 0 0) 0 (ws G 0)) := Lib.hid (World.ownsRow_nil _ _ _ _)
          clear hG HGL HJ HJP
          go_wp2
          go_loopw [8, 9] (fun s8 s9 W => ∃ (k : Nat) (v8 : Value), k ≤ S.n ∧ s9 = .int .i64 k ∧ s8 = v8 ∧ Hid (RwI w (.slice a4 S.n cv) S.n G W) ∧ Hid (W.ownsRow w.heap.size 54 1 v8 k (ws G k)) ∧ Hid (∀ g, v8.ownBlock = some g → (Value.slice a4 S.n cv).ownBlock ≠ some g)) (fun _ s9 _ => S.n - (intOf s9).toNat)
          case atStart => exact ⟨0, _, Nat.zero_le _, rfl, rfl, HI, HOW, Lib.hid (fun g hg => by cases hg)⟩
          case round =>
            obtain ⟨k, v8, hk, rfl, rfl, HI, HO, HD⟩ := hrel
            obtain ⟨a8, c8, rfl, _⟩ := own_form HO.out
            by_cases hkn : k < S.n
            · obtain ⟨g, cap', hv, hgb, hgl⟩ := HI.out.row.form (by omega)
              injection hv with e1 e2 e3
              subst e1 e3
              obtain ⟨x, hx⟩ : ∃ x, G k = x := ⟨_, rfl⟩
              have HX := Lib.hid hx
              have hcl := fun j (hj : j < 7) => (own_cells HI.out.row).1 (k * 7 + j) ((cl x)[j]'(by simpa [cl] using hj)) (by rw [insL_at G k j hj S.n hkn, hx]; exact List.getElem?_eq_getElem _)
              have x0 : wr.cell? ⟨g, k * 7, none⟩ = some (.int .i64 x.op) := hcl 0 (by decide)
              have x1 : wr.cell? ⟨g, k * 7 + 1, none⟩ = some (.int .i64 x.d) := hcl 1 (by decide)
              have x2 : wr.cell? ⟨g, k * 7 + 2, none⟩ = some (.int .i64 x.n) := hcl 2 (by decide)
              have x3 : wr.cell? ⟨g, k * 7 + 3, none⟩ = some (.int .i64 x.m) := hcl 3 (by decide)
              have x4 : wr.cell? ⟨g, k * 7 + 4, none⟩ = some (.int .i64 x.a) := hcl 4 (by decide)
              have x5 : wr.cell? ⟨g, k * 7 + 5, none⟩ = some (.int .i64 x.c) := hcl 5 (by decide)
              have x6 : wr.cell? ⟨g, k * 7 + 6, none⟩ = some (.int .i64 x.i) := hcl 6 (by decide)
              have HW : Hid (Calls Try.prog 119 #[.agg #[.int .i64 x.op, .int .i64 x.d, .int .i64 x.n, .int .i64 x.m, .int .i64 x.a, .int .i64 x.c, .int .i64 x.i]] wr fun r w' => r = .returned (.tuple #[.int .u32 x.w, .int .i64 x.e]) ∧ Below wr.heap.size wr w') := Lib.hid (x.rword wr)
              have hm3 : k + 1 ≤ maxLen := by unfold maxLen; omega
              have hm4 : (k + 1) * 4 ≤ 140737488355328 := by omega
              clear hx hcl
              go_wp2_with (first | (go_at_call 119; refine HW.out.mono ?_; rintro r w3 ⟨rfl, hb3⟩; have HI3 := Lib.hid (HI.out.past hb3); have HB3 := Lib.hid hb3; have hm5 : w.heap.size ≤ (w3.alloc (.cells #[.int .u32 x.w] 54)).heap.size := by { have := HI.out.bl.size; have := hb3.size; simp; omega }; have HO3 : (w3.alloc (.cells #[.int .u32 x.w] 54)).ownsRow w.heap.size 54 1 (.slice a8 k c8) k (ws G k) := own_alloc (ownsRow_kept HO.out fun g hg => hb3.block g (by obtain ⟨cur, hc⟩ := own_heap HO.out hg; exact (Array.getElem?_eq_some_iff.1 hc).1)) _; clear hb3) | (at_builtin; refine wpList_append_own _ rfl _ _ 46 rfl w.heap.size 54 i0 (.int .u32 0) 1 4 Try.underlying46 hi hz0 hz1 hz2 rfl (by decide) _ _ _ rfl HO3 ⟨w3.heap.size, 0, none⟩ 1 1 [.int .u32 x.w] rfl rfl (cells1 _ _ _) (one32 _) hm3 hm4 hm5 ?_))
              intro v4 w5 hown' hgrow _
              have HI5 : Hid (RwI w (.slice (some ⟨g, 0, none⟩) S.n cv) S.n G w5) := Lib.hid (by
                have hI := HI3.out.past ((Below.refl w3.heap.size w3).alloc (Nat.le_refl _) (.cells #[.int .u32 x.w] 54))
                refine ⟨ownsRow_kept hI.row fun g' hg' => hgrow.block g' (World.ownsRow.lt hI.row g' hg').2 (fun e => HD.out g' e.symm hg'), hI.bl.grown hgrow hI.bl.size (fun g' hg' => (World.ownsRow.lt HO3 g' hg').1)⟩)
              have HO5 : Hid (w5.ownsRow w.heap.size 54 1 v4 (k + 1) (ws G (k + 1))) := Lib.hid (by rw [ws_succ, HX.out]; exact hown')
              have HD5 : Hid (∀ g', v4.ownBlock = some g' → (Value.slice (some ⟨g, 0, none⟩) S.n cv).ownBlock ≠ some g') := Lib.hid (fun g' hg' e => by
                obtain ⟨cur, hc⟩ := own_heap HO5.out hg'
                obtain ⟨cur', hc'⟩ := own_heap HI5.out.row e
                exact ne_of_obj hc hc' (ne_ty (by decide)) rfl)
              clear hown' hgrow
              go_wp2
              go_roundw
              case rel => exact ⟨k + 1, _, by omega, by go_num, rfl, HI5, HO5, HD5⟩
              case measure => simp [intOf]; omega
            · obtain rfl : k = S.n := by omega
              go_wp2
              go_ret2
              exact ⟨.inl ⟨by rw [HGG.out]; exact HGD.out, a8, c8, rfl, by rw [HGG.out]; exact HO.out⟩, HI.out.bl⟩
end Go.Proofs.Ytnbpgoacooddjaa.Lab
namespace Go.Proofs.Ytnbpgoacooddjaa.Lab
open Go.ChangeShapes Go.WideShapes Go.ChangeAt Go.RowKit Go.Maps Go.Deep
open Go.Proofs.Ytnbpgoacooddjaa.En
set_option linter.unusedVariables false
attribute [local go_sem] rowAt_drew rowAt_drewN
/-- The program's code and the document's, side by side above B. -/
def Bo (B N1 N2 : Nat) (w0 w : World) (p q : Nat) (S R : Lb) : Prop :=
  ∃ (FP1 FP2 : Nat → Prop) (mb : Nat) (v1 v3 : Value) (bx bY bz : Nat → Nat) (u1 u2 u3 : Value) (lm : Nat → ByteArray) (lt : Nat → Nat),
    LbC w FP1 p S mb v1 v3 bx bY bz ∧ RfC w FP2 q R u1 u2 u3 lm lt ∧ (∀ k, FP1 k → ¬ FP2 k) ∧ (∀ k, FP1 k → B ≤ k ∧ k < N1) ∧ (∀ k, FP2 k → B ≤ k ∧ k < N2) ∧ B ≤ w.heap.size ∧ Below B w0 w
theorem Bo.past {B N1 N2 : Nat} {w0 w w' : World} {p q : Nat} {S R : Lb} (h : Bo B N1 N2 w0 w p q S R) (hb : Below w.heap.size w w') : Bo B N1 N2 w0 w' p q S R := by
  obtain ⟨FP1, FP2, mb, v1, v3, bx, bY, bz, u1, u2, u3, lm, lt, h1, h2, h3, h4, h5, h6, h7⟩ := h
  exact ⟨FP1, FP2, mb, v1, v3, bx, bY, bz, u1, u2, u3, lm, lt, h1.past hb, h2.past hb, h3, h4, h5, Nat.le_trans h6 hb.size, h7.trans (hb.mono h6)⟩
theorem Bo.bl {B N1 N2 : Nat} {w0 w : World} {p q : Nat} {S R : Lb} (h : Bo B N1 N2 w0 w p q S R) : Below B w0 w := by
  obtain ⟨FP1, FP2, mb, v1, v3, bx, bY, bz, u1, u2, u3, lm, lt, h1, h2, h3, h4, h5, h6, h7⟩ := h
  exact h7
theorem Bo.sz {B N1 N2 : Nat} {w0 w : World} {p q : Nat} {S R : Lb} (h : Bo B N1 N2 w0 w p q S R) : B ≤ w.heap.size := by
  obtain ⟨FP1, FP2, mb, v1, v3, bx, bY, bz, u1, u2, u3, lm, lt, h1, h2, h3, h4, h5, h6, h7⟩ := h
  exact h6
theorem Bo.fit {B N1 N2 : Nat} {w0 w : World} {p q : Nat} {S R : Lb} (h : Bo B N1 N2 w0 w p q S R) : Bo B w.heap.size w.heap.size w0 w p q S R := by
  obtain ⟨FP1, FP2, mb, v1, v3, bx, bY, bz, u1, u2, u3, lm, lt, h1, h2, h3, h4, h5, h6, h7⟩ := h
  exact ⟨FP1, FP2, mb, v1, v3, bx, bY, bz, u1, u2, u3, lm, lt, h1, h2, h3, fun k hk => ⟨(h4 k hk).1, h1.fl k hk⟩, fun k hk => ⟨(h5 k hk).1, h2.fl k hk⟩, h6, h7⟩
/-- What a step of either leaves. -/
def KB (B N : Nat) (w w' : World) : Prop := Kp (fun k => B ≤ k ∧ k < N) w w'
theorem KB.src {B N : Nat} {w w' : World} (h : KB B N w w') {A : Option Addr} {m : Nat} {G : Nat → In} (hs : SrcI w A m G) (hA : 0 < m → ∀ b off, A = some ⟨b, off, none⟩ → b < B ∨ N ≤ b) : SrcI w' A m G := by
  by_cases hm : m = 0
  · exact .inl hm
  · exact SrcI_kp hs h fun b off hb hf => by
      rcases hA (by omega) b off hb with h | h
      · omega
      · omega
theorem KB.rowAt {B N : Nat} {w w' : World} (h : KB B N w w') {b : Nat} {C : Array Value} (hr : rowAt w b = some C) (hb : b < B ∨ N ≤ b) : rowAt w' b = some C := by
  obtain ⟨t, ht⟩ := rowAt_heap hr
  exact rowAt_of ((Kp.block h b (rowAt_lt hr) (fun hf => by omega)).trans ht)
section
variable {B N1 N2 : Nat} {w0 w w' : World} {p q : Nat} {S R : Lb} {FP1 FP2 : Nat → Prop} {mb : Nat} {v1 v3 : Value} {bx bY bz : Nat → Nat} {u1 u2 u3 : Value} {lm : Nat → ByteArray} {lt : Nat → Nat}
theorem bo_p {S' : Lb} (h1 : LbC w FP1 p S mb v1 v3 bx bY bz) (h2 : RfC w FP2 q R u1 u2 u3 lm lt) (h3 : ∀ k, FP1 k → ¬ FP2 k) (h4 : ∀ k, FP1 k → B ≤ k ∧ k < N1) (h5 : ∀ k, FP2 k → B ≤ k ∧ k < N2) (h6 : B ≤ w.heap.size) (h7 : Below B w0 w) (hq : LbQ w FP1 p S' w') : Bo B w'.heap.size N2 w0 w' p q S' R ∧ KB B N1 w w' := by
  obtain ⟨F1, mb', v1', v3', bx', bY', bz', g1, g2, g3, g4⟩ := hq
  refine ⟨⟨F1, FP2, mb', v1', v3', bx', bY', bz', u1, u2, u3, lm, lt, g1, h2.kept g4.size (fun k hk => g4.block k (h2.fl k hk) (fun hf => h3 k hf hk)), fun k hf hk => ?_, fun k hk => ⟨?_, g1.fl k hk⟩, h5, Nat.le_trans h6 g4.size, h7.trans (g4.below h6 fun k hk => (h4 k hk).1)⟩, g4.mono h4⟩
  · rcases g2 k hf with h | h
    · exact h3 k h hk
    · have := h2.fl k hk
      omega
  · rcases g2 k hk with h | h
    · exact (h4 k h).1
    · omega
theorem bo_r {R' : Lb} (h1 : LbC w FP1 p S mb v1 v3 bx bY bz) (h2 : RfC w FP2 q R u1 u2 u3 lm lt) (h3 : ∀ k, FP1 k → ¬ FP2 k) (h4 : ∀ k, FP1 k → B ≤ k ∧ k < N1) (h5 : ∀ k, FP2 k → B ≤ k ∧ k < N2) (h6 : B ≤ w.heap.size) (h7 : Below B w0 w) (hq : RfP w FP2 q R' w') : Bo B N1 w'.heap.size w0 w' p q S R' ∧ KB B N2 w w' := by
  obtain ⟨F2, v1', v2', v3', lm', lt', g1, g2, g3, g4⟩ := hq
  refine ⟨⟨FP1, F2, mb, v1, v3, bx, bY, bz, v1', v2', v3', lm', lt', h1.kept g4.size (fun k hk => g4.block k (h1.fl k hk) (fun hf => h3 k hk hf)), g1, fun k hf hk => ?_, h4, fun k hk => ⟨?_, g1.fl k hk⟩, Nat.le_trans h6 g4.size, h7.trans (g4.below h6 fun k hk => (h5 k hk).1)⟩, g4.mono h5⟩
  · rcases g2 k hk with h | h
    · exact h3 k hf h
    · have := h1.fl k hf
      omega
  · rcases g2 k hk with h | h
    · exact (h5 k h).1
    · omega
end
section
variable {B N1 N2 : Nat} {w0 w : World} {p q : Nat} {S R : Lb}
/-- What both are worth behind a Put. -/
def PutS (S S' : Lb) (m : Nat) (G : Nat → In) : Prop := (good G m ∧ S' = rowS S m G) ∨ (¬ good G m ∧ S' = S.fail 1)
theorem put_bo (h : Bo B N1 N2 w0 w p q S R) (A : Option Addr) (m cap : Nat) (G : Nat → In) (hm : m ≤ 9223372036854775807) (hcap : m ≤ cap) (hA : 0 < m → ∀ b off, A = some ⟨b, off, none⟩ → b < B ∨ N1 ≤ b) (HS : Hid (SrcI w A m G)) :
    Calls Try.prog 29 #[.pointer (some ⟨p, 0, none⟩), .slice A m cap] w fun e w' => e = .returned (.tuple #[]) ∧ (∃ S', PutS S S' m G ∧ Bo B w'.heap.size N2 w0 w' p q S' R) ∧ KB B N1 w w' := by
  obtain ⟨FP1, FP2, mb, v1, v3, bx, bY, bz, u1, u2, u3, lm, lt, h1, h2, h3, h4, h5, h6, h7⟩ := h
  refine (put_q w FP1 p S mb v1 v3 bx bY bz A m cap G h1 hm hcap (fun hm b off hb hf => by have := hA hm b off hb; have := h4 b hf; omega) HS).mono fun e w' hh => ⟨hh.1, ?_⟩
  rcases hh.2 with ⟨hg, hq⟩ | ⟨hg, hq⟩
  · have := bo_p h1 h2 h3 h4 h5 h6 h7 hq
    exact ⟨⟨_, .inl ⟨hg, rfl⟩, this.1⟩, this.2⟩
  · have := bo_p h1 h2 h3 h4 h5 h6 h7 hq
    exact ⟨⟨_, .inr ⟨hg, rfl⟩, this.1⟩, this.2⟩
theorem rput_bo (h : Bo B N1 N2 w0 w p q S R) (A : Option Addr) (m cap : Nat) (G : Nat → In) (hm : m ≤ 9223372036854775807) (hcap : m ≤ cap) (hA : 0 < m → ∀ b off, A = some ⟨b, off, none⟩ → b < B ∨ N2 ≤ b) (HS : Hid (SrcI w A m G)) :
    Calls Try.prog 34 #[.pointer (some ⟨q, 0, none⟩), .slice A m cap] w fun e w' => e = .returned (.tuple #[]) ∧ ∃ R', PutS R R' m G ∧ Bo B N1 w'.heap.size w0 w' p q S R' ∧ KB B N2 w w' := by
  obtain ⟨FP1, FP2, mb, v1, v3, bx, bY, bz, u1, u2, u3, lm, lt, h1, h2, h3, h4, h5, h6, h7⟩ := h
  refine (rput_c w FP2 q R u1 u2 u3 lm lt A m cap G h2 hm hcap (fun hm b off hb hf => by have := hA hm b off hb; have := h5 b hf; omega) HS).mono fun e w' hh => ⟨hh.1, ?_⟩
  rcases hh.2 with ⟨hg, hq⟩ | ⟨hg, hq⟩
  · exact ⟨_, .inl ⟨hg, rfl⟩, bo_r h1 h2 h3 h4 h5 h6 h7 hq⟩
  · exact ⟨_, .inr ⟨hg, rfl⟩, bo_r h1 h2 h3 h4 h5 h6 h7 hq⟩
theorem PutS.uniq {S S1 S2 : Lb} {m : Nat} {G : Nat → In} (h1 : PutS S S1 m G) (h2 : PutS S S2 m G) : S1 = S2 := by
  rcases h1 with ⟨a, rfl⟩ | ⟨a, rfl⟩ <;> rcases h2 with ⟨b, rfl⟩ | ⟨b, rfl⟩
  · rfl
  · exact absurd a b
  · exact absurd b a
  · rfl
/-- What both are worth behind a Label. -/
def LabS (S S' : Lb) (s : ByteArray) : Prop := (Maps.has S.D (ky s) = true ∧ S' = S.fail 24) ∨ (Maps.has S.D (ky s) = false ∧ S' = S.lab s)
theorem LabS.uniq {S S1 S2 : Lb} {s : ByteArray} (h1 : LabS S S1 s) (h2 : LabS S S2 s) : S1 = S2 := by
  rcases h1 with ⟨a, rfl⟩ | ⟨a, rfl⟩ <;> rcases h2 with ⟨b, rfl⟩ | ⟨b, rfl⟩
  · rfl
  · rw [a] at b; cases b
  · rw [a] at b; cases b
  · rfl
theorem label_bo (h : Bo B N1 N2 w0 w p q S R) (s : ByteArray) (hs : s.size ≤ maxLen) (hcn : S.cnt < 1000000) :
    Calls Try.prog 26 #[.pointer (some ⟨p, 0, none⟩), .string s] w fun e w' => e = .returned (.tuple #[]) ∧ ∃ S', LabS S S' s ∧ Bo B w'.heap.size N2 w0 w' p q S' R ∧ KB B N1 w w' := by
  obtain ⟨FP1, FP2, mb, v1, v3, bx, bY, bz, u1, u2, u3, lm, lt, h1, h2, h3, h4, h5, h6, h7⟩ := h
  cases hh : Maps.has S.D (ky s)
  · exact (label_y w FP1 p S mb v1 v3 bx bY bz s hs h1 hcn hh).mono fun e w' g => ⟨g.1, _, .inr ⟨hh, rfl⟩, bo_p h1 h2 h3 h4 h5 h6 h7 (LbQ.of g.2.1 g.2.2)⟩
  · exact (label_n w FP1 p S mb v1 v3 bx bY bz s hs h1 hh).mono fun e w' g => ⟨g.1, _, .inl ⟨hh, rfl⟩, bo_p h1 h2 h3 h4 h5 h6 h7 (LbQ.of g.2.1 g.2.2)⟩
/-- A label's place. -/
theorem RL.tell {D : DataW Unit} {ln : Nat} {lm : Nat → ByteArray} {lt : Nat → Nat} (h : RL D ln lm lt) {s : ByteArray} (hh : Maps.has D (ky s) = true) : ∃ t : Nat, t ≤ 65536 ∧ D.atKey (ky s) (.lit (.int .i64 0)) = .lit (.int .i64 (t : Int)) := by
  obtain ⟨i, hi, rfl⟩ := h.no s hh
  exact ⟨lt i, h.tl i hi, (h.yes i hi).2⟩
theorem Bo.tell (h : Bo B N1 N2 w0 w p q S R) {s : ByteArray} (hh : Maps.has R.D (ky s) = true) : ∃ t : Nat, t ≤ 65536 ∧ R.D.atKey (ky s) (.lit (.int .i64 0)) = .lit (.int .i64 (t : Int)) := by
  obtain ⟨FP1, FP2, mb, v1, v3, bx, bY, bz, u1, u2, u3, lm, lt, h1, h2, h3, h4, h5, h6, h7⟩ := h
  exact h2.rel.tell hh
theorem rlabel_bo (h : Bo B N1 N2 w0 w p q S R) (s : ByteArray) (hs : s.size ≤ maxLen) (hcn : R.cnt ≤ 1000000) :
    Calls Try.prog 35 #[.pointer (some ⟨q, 0, none⟩), .string s] w fun e w' => e = .returned (.tuple #[]) ∧ ∃ R', LabS R R' s ∧ Bo B N1 w'.heap.size w0 w' p q S R' ∧ KB B N2 w w' := by
  have ht := fun hh => h.tell (s := s) hh
  obtain ⟨FP1, FP2, mb, v1, v3, bx, bY, bz, u1, u2, u3, lm, lt, h1, h2, h3, h4, h5, h6, h7⟩ := h
  cases hh : Maps.has R.D (ky s)
  · exact (rlabel_y w FP2 q R u1 u2 u3 lm lt s hs h2 hcn hh).mono fun e w' g => ⟨g.1, _, .inr ⟨hh, rfl⟩, bo_r h1 h2 h3 h4 h5 h6 h7 g.2⟩
  · obtain ⟨t, ht1, ht2⟩ := ht hh
    exact (rlabel_n w FP2 q R u1 u2 u3 lm lt s t h2 hcn hh ht2).mono fun e w' g => ⟨g.1, _, .inl ⟨hh, rfl⟩, bo_r h1 h2 h3 h4 h5 h6 h7 g.2⟩
/-- What both are worth behind a Jump. -/
def JumpS (S S' : Lb) (x : In) (s : ByteArray) : Prop := ((jumpB x.op = false ∨ (zIn x).e = 1) ∧ S' = S.fail 1) ∨ ((jumpB x.op = true ∧ (zIn x).e = 0) ∧ ((S.n < 65536 ∧ S' = S.jump x s) ∨ (¬ S.n < 65536 ∧ S' = S.fail 2)))
theorem JumpS.uniq {S S1 S2 : Lb} {x : In} {s : ByteArray} (h1 : JumpS S S1 x s) (h2 : JumpS S S2 x s) : S1 = S2 := by
  rcases h1 with ⟨a, rfl⟩ | ⟨⟨a1, a2⟩, a⟩ <;> rcases h2 with ⟨b, rfl⟩ | ⟨⟨b1, b2⟩, b⟩
  · rfl
  · rcases a with a | a
    · rw [a] at b1; cases b1
    · rw [a] at b2; cases b2
  · rcases b with b | b
    · rw [b] at a1; cases a1
    · rw [b] at a2; cases a2
  · rcases a with ⟨a, rfl⟩ | ⟨a, rfl⟩ <;> rcases b with ⟨b, rfl⟩ | ⟨b, rfl⟩
    · rfl
    · exact absurd a b
    · exact absurd b a
    · rfl
theorem jump_bo (h : Bo B N1 N2 w0 w p q S R) (x : In) (s : ByteArray) (hjn : S.jn < 1000000) :
    Calls Try.prog 28 #[.pointer (some ⟨p, 0, none⟩), x.v, .string s] w fun e w' => e = .returned (.tuple #[]) ∧ ∃ S', JumpS S S' x s ∧ Bo B w'.heap.size N2 w0 w' p q S' R ∧ KB B N1 w w' := by
  obtain ⟨FP1, FP2, mb, v1, v3, bx, bY, bz, u1, u2, u3, lm, lt, h1, h2, h3, h4, h5, h6, h7⟩ := h
  cases hj : jumpB x.op
  · exact (jump_bad w FP1 p S mb v1 v3 bx bY bz x s h1 (.inl hj)).mono fun e w' g => ⟨g.1, _, .inl ⟨.inl hj, rfl⟩, bo_p h1 h2 h3 h4 h5 h6 h7 g.2⟩
  · rcases (zIn x).e_or with he | he
    · by_cases hn : S.n < 65536
      · exact (jump_y w FP1 p S mb v1 v3 bx bY bz x s h1 hj he hn hjn).mono fun e w' g => ⟨g.1, _, .inr ⟨⟨hj, he⟩, .inl ⟨hn, rfl⟩⟩, bo_p h1 h2 h3 h4 h5 h6 h7 g.2⟩
      · exact (jump_f w FP1 p S mb v1 v3 bx bY bz x s h1 hj he (Lib.hid hn) hjn).mono fun e w' g => ⟨g.1, _, .inr ⟨⟨hj, he⟩, .inr ⟨hn, rfl⟩⟩, bo_p h1 h2 h3 h4 h5 h6 h7 g.2⟩
    · exact (jump_bad w FP1 p S mb v1 v3 bx bY bz x s h1 (.inr ⟨hj, he⟩)).mono fun e w' g => ⟨g.1, _, .inl ⟨.inr he, rfl⟩, bo_p h1 h2 h3 h4 h5 h6 h7 g.2⟩
theorem rjump_bo (h : Bo B N1 N2 w0 w p q S R) (x : In) (s : ByteArray) (hjn : R.jn < 1000000) :
    Calls Try.prog 36 #[.pointer (some ⟨q, 0, none⟩), x.v, .string s] w fun e w' => e = .returned (.tuple #[]) ∧ ∃ R', JumpS R R' x s ∧ Bo B N1 w'.heap.size w0 w' p q S R' ∧ KB B N2 w w' := by
  obtain ⟨FP1, FP2, mb, v1, v3, bx, bY, bz, u1, u2, u3, lm, lt, h1, h2, h3, h4, h5, h6, h7⟩ := h
  cases hj : jumpB x.op
  · exact (rjump_bad w FP2 q R u1 u2 u3 lm lt x s h2 (.inl hj)).mono fun e w' g => ⟨g.1, _, .inl ⟨.inl hj, rfl⟩, bo_r h1 h2 h3 h4 h5 h6 h7 g.2⟩
  · rcases (zIn x).e_or with he | he
    · by_cases hn : R.n < 65536
      · exact (rjump_y w FP2 q R u1 u2 u3 lm lt x s h2 hj he hn hjn).mono fun e w' g => ⟨g.1, _, .inr ⟨⟨hj, he⟩, .inl ⟨hn, rfl⟩⟩, bo_r h1 h2 h3 h4 h5 h6 h7 g.2⟩
      · exact (rjump_f w FP2 q R u1 u2 u3 lm lt x s h2 hj he (by have := h2.nl; omega) hjn).mono fun e w' g => ⟨g.1, _, .inr ⟨⟨hj, he⟩, .inr ⟨hn, rfl⟩⟩, bo_r h1 h2 h3 h4 h5 h6 h7 g.2⟩
    · exact (rjump_bad w FP2 q R u1 u2 u3 lm lt x s h2 (.inr he)).mono fun e w' g => ⟨g.1, _, .inl ⟨.inr he, rfl⟩, bo_r h1 h2 h3 h4 h5 h6 h7 g.2⟩
/-- What both are worth behind a Const. -/
def ConS (S S' : Lb) (r v : Int) : Prop := ((r < 0 ∨ 30 < r) ∧ S' = S.fail 1) ∨ ((0 ≤ r ∧ r ≤ 30) ∧ S' = rowS S (tZ r v).n (tZ r v).F)
theorem ConS.uniq {S S1 S2 : Lb} {r v : Int} (h1 : ConS S S1 r v) (h2 : ConS S S2 r v) : S1 = S2 := by
  rcases h1 with ⟨a, rfl⟩ | ⟨a, rfl⟩ <;> rcases h2 with ⟨b, rfl⟩ | ⟨b, rfl⟩
  · rfl
  · omega
  · omega
  · rfl
theorem const_bo (h : Bo B N1 N2 w0 w p q S R) (r v : Int) (hv : 0 ≤ v ∧ v < 18446744073709551616) :
    Calls Try.prog 21 #[.pointer (some ⟨p, 0, none⟩), .int .i64 r, .int .u64 v] w fun e w' => e = .returned (.tuple #[]) ∧ ∃ S', ConS S S' r v ∧ Bo B w'.heap.size N2 w0 w' p q S' R ∧ KB B N1 w w' := by
  obtain ⟨FP1, FP2, mb, v1, v3, bx, bY, bz, u1, u2, u3, lm, lt, h1, h2, h3, h4, h5, h6, h7⟩ := h
  by_cases hr : 0 ≤ r ∧ r ≤ 30
  · exact (const_q w FP1 p S mb v1 v3 bx bY bz r v h1 hr hv).mono fun e w' g => ⟨g.1, _, .inr ⟨hr, rfl⟩, bo_p h1 h2 h3 h4 h5 h6 h7 g.2⟩
  · exact (const_bad w FP1 p S mb v1 v3 bx bY bz r v h1 (by omega)).mono fun e w' g => ⟨g.1, _, .inl ⟨by omega, rfl⟩, bo_p h1 h2 h3 h4 h5 h6 h7 g.2⟩
theorem rconst_bo (h : Bo B N1 N2 w0 w p q S R) (r v : Int) (hv : 0 ≤ v ∧ v < 18446744073709551616) :
    Calls Try.prog 37 #[.pointer (some ⟨q, 0, none⟩), .int .i64 r, .int .u64 v] w fun e w' => e = .returned (.tuple #[]) ∧ ∃ R', ConS R R' r v ∧ Bo B N1 w'.heap.size w0 w' p q S R' ∧ KB B N2 w w' := by
  obtain ⟨FP1, FP2, mb, v1, v3, bx, bY, bz, u1, u2, u3, lm, lt, h1, h2, h3, h4, h5, h6, h7⟩ := h
  by_cases hr : 0 ≤ r ∧ r ≤ 30
  · exact (rconst_q w FP2 q R u1 u2 u3 lm lt r v h2 hr hv).mono fun e w' g => ⟨g.1, _, .inr ⟨hr, rfl⟩, bo_r h1 h2 h3 h4 h5 h6 h7 g.2⟩
  · exact (rconst_bad w FP2 q R u1 u2 u3 lm lt r v h2 (by omega)).mono fun e w' g => ⟨g.1, _, .inl ⟨by omega, rfl⟩, bo_r h1 h2 h3 h4 h5 h6 h7 g.2⟩
theorem here_bo (h : Bo B N1 N2 w0 w p q S R) : Calls Try.prog 27 #[.pointer (some ⟨p, 0, none⟩)] w fun e w' => e = .returned (.int .u64 (placeS S.at0 S.n)) ∧ w = w' := by
  obtain ⟨FP1, FP2, mb, v1, v3, bx, bY, bz, u1, u2, u3, lm, lt, h1, h2, h3, h4, h5, h6, h7⟩ := h
  exact here_c w FP1 p S mb v1 v3 bx bY bz h1
theorem len_bo (h : Bo B N1 N2 w0 w p q S R) : Calls Try.prog 32 #[.pointer (some ⟨p, 0, none⟩)] w fun e w' => e = .returned (.int .i64 S.n) ∧ w = w' := by
  obtain ⟨FP1, FP2, mb, v1, v3, bx, bY, bz, u1, u2, u3, lm, lt, h1, h2, h3, h4, h5, h6, h7⟩ := h
  exact len_c w FP1 p S mb v1 v3 bx bY bz h1
theorem err_bo (h : Bo B N1 N2 w0 w p q S R) : Calls Try.prog 39 #[.pointer (some ⟨p, 0, none⟩)] w fun e w' => e = .returned (.int .i64 S.err) ∧ w = w' := by
  obtain ⟨FP1, FP2, mb, v1, v3, bx, bY, bz, u1, u2, u3, lm, lt, h1, h2, h3, h4, h5, h6, h7⟩ := h
  exact err_c w FP1 p S mb v1 v3 bx bY bz h1
theorem rhere_bo (h : Bo B N1 N2 w0 w p q S R) : Calls Try.prog 38 #[.pointer (some ⟨q, 0, none⟩)] w fun e w' => e = .returned (.int .u64 (placeS R.at0 R.n)) ∧ Below w.heap.size w w' := by
  obtain ⟨FP1, FP2, mb, v1, v3, bx, bY, bz, u1, u2, u3, lm, lt, h1, h2, h3, h4, h5, h6, h7⟩ := h
  exact rhere_c w FP2 q R u1 u2 u3 lm lt h2
/-- What stands in the document's code. -/
theorem Bo.cells (h : Bo B N1 N2 w0 w p q S R) : (∃ a cap, w.cell? ⟨q, 1, none⟩ = some (.slice a R.n cap)) ∧ w.cell? ⟨q, 4, none⟩ = some (.int .i64 R.err) := by
  obtain ⟨FP1, FP2, mb, v1, v3, bx, bY, bz, u1, u2, u3, lm, lt, h1, h2, h3, h4, h5, h6, h7⟩ := h
  obtain ⟨a, cap, rfl, _⟩ := own_form h2.ins
  exact ⟨⟨a, cap, rowAt_cell h2.rw 1⟩, rowAt_cell h2.rw 4⟩
/-- What Where tells. -/
def WhS (S : Lb) (s : ByteArray) (a : Int) (b : Bool) : Prop := (Maps.has S.D (ky s) = false ∧ a = 0 ∧ b = false) ∨ (∃ t : Nat, Maps.has S.D (ky s) = true ∧ S.D.atKey (ky s) (.lit (.int .i64 0)) = .lit (.int .i64 (t : Int)) ∧ a = placeS S.at0 t ∧ b = true)
theorem WhS.uniq {S : Lb} {s : ByteArray} {a a' : Int} {b b' : Bool} (h : WhS S s a b) (h' : WhS S s a' b') : a = a' ∧ b = b' := by
  rcases h with ⟨h1, rfl, rfl⟩ | ⟨t, h1, h2, rfl, rfl⟩ <;> rcases h' with ⟨g1, rfl, rfl⟩ | ⟨t', g1, g2, rfl, rfl⟩
  · exact ⟨rfl, rfl⟩
  · rw [h1] at g1; cases g1
  · rw [h1] at g1; cases g1
  · rw [h2] at g2
    injection g2 with g2
    injection g2 with _ g2
    have : t = t' := by omega
    subst this
    exact ⟨rfl, rfl⟩
theorem where_bo (h : Bo B N1 N2 w0 w p q S S) (s : ByteArray) (hs : s.size ≤ maxLen) : Calls Try.prog 30 #[.pointer (some ⟨p, 0, none⟩), .string s] w fun e w' => (∃ a b, e = .returned (.tuple #[.int .u64 a, .bool b]) ∧ WhS S s a b) ∧ w = w' := by
  have ht := fun hh => h.tell (s := s) hh
  obtain ⟨FP1, FP2, mb, v1, v3, bx, bY, bz, u1, u2, u3, lm, lt, h1, h2, h3, h4, h5, h6, h7⟩ := h
  cases hh : Maps.has S.D (ky s)
  · exact (where_n w FP1 p S mb v1 v3 bx bY bz s hs h1 hh).mono fun e w' g => ⟨⟨_, _, g.1, .inl ⟨hh, rfl, rfl⟩⟩, g.2⟩
  · obtain ⟨t, ht1, ht2⟩ := ht hh
    exact (where_y w FP1 p S mb v1 v3 bx bY bz s hs h1 hh t (by omega) ht2).mono fun e w' g => ⟨⟨_, _, g.1, .inr ⟨t, hh, ht2, rfl, rfl⟩⟩, g.2⟩
theorem rwhere_bo (h : Bo B N1 N2 w0 w p q S R) (s : ByteArray) (hcn : R.cnt ≤ 1000000) : Calls Try.prog 40 #[.pointer (some ⟨q, 0, none⟩), .string s] w fun e w' => (∃ a b, e = .returned (.tuple #[.int .u64 a, .bool b]) ∧ WhS R s a b) ∧ w = w' := by
  have ht := fun hh => h.tell (s := s) hh
  obtain ⟨FP1, FP2, mb, v1, v3, bx, bY, bz, u1, u2, u3, lm, lt, h1, h2, h3, h4, h5, h6, h7⟩ := h
  cases hh : Maps.has R.D (ky s)
  · exact (rwhere_n w FP2 q R u1 u2 u3 lm lt s h2 hcn hh).mono fun e w' g => ⟨⟨_, _, g.1, .inl ⟨hh, rfl, rfl⟩⟩, g.2⟩
  · obtain ⟨t, ht1, ht2⟩ := ht hh
    exact (rwhere_y w FP2 q R u1 u2 u3 lm lt s t h2 hcn hh ht2 (by omega)).mono fun e w' g => ⟨⟨_, _, g.1, .inr ⟨t, hh, ht2, rfl, rfl⟩⟩, g.2⟩
end
/-- What is always so of what both are worth. -/
structure SI (S : Lb) (i : Nat) : Prop where
  gd : good S.F S.n
  nl : S.n ≤ 65536
  cn : S.cnt ≤ i
  jn : S.jn ≤ i
  jp : ∃ ak, Jps S ak
theorem SI.fail {S : Lb} {i : Nat} (h : SI S i) (e : Int) : SI (S.fail e) (i + 1) := by
  obtain ⟨f1, f2, f3, f4, f5, f6, f7, f8⟩ := fail_n S e
  obtain ⟨ak, hj⟩ := h.jp
  exact ⟨by rw [f1, f2]; exact h.gd, by rw [f1]; exact h.nl, by rw [f5]; have := h.cn; omega, by rw [f6]; have := h.jn; omega, ak, by rw [f1, f6, f7, f8]; exact hj.pl, by rw [f6]; exact hj.lt⟩
theorem SI.app {S : Lb} {i : Nat} (h : SI S i) (m : Nat) (G : Nat → In) (hg : good G m) (hn : S.n + m ≤ 65536) : SI (S.app G m) (i + 1) := by
  obtain ⟨ak, hj⟩ := h.jp
  refine ⟨fun j hl => ?_, hn, by have := h.cn; show S.cnt ≤ _; omega, by have := h.jn; show S.jn ≤ _; omega, ak, fun k hk => ?_, hj.lt⟩
  · have hl' : j < S.n + m := hl
    show (catI S.F S.n G j).e = 0
    unfold catI
    split
    · exact h.gd j (by omega)
    · exact hg _ (by omega)
  · obtain ⟨a, b, c⟩ := hj.pl k hk
    exact ⟨a, by show ak k < S.n + m; omega, c⟩
theorem SI.row {S : Lb} {i : Nat} (h : SI S i) (m : Nat) (G : Nat → In) (hg : good G m) : SI (rowS S m G) (i + 1) := by
  unfold rowS
  split
  · exact h.app m G hg (by assumption)
  · rename_i hn
    have hl := h.nl
    have hF : SI (S.fail 2) i := by
      obtain ⟨f1, f2, f3, f4, f5, f6, f7, f8⟩ := fail_n S 2
      obtain ⟨ak, hj⟩ := h.jp
      exact ⟨by rw [f1, f2]; exact h.gd, by rw [f1]; exact h.nl, by rw [f5]; exact h.cn, by rw [f6]; exact h.jn, ak, by rw [f1, f6, f7, f8]; exact hj.pl, by rw [f6]; exact hj.lt⟩
    exact hF.app _ G (fun j hj => hg j (by omega)) (by rw [(fail_n S 2).1]; omega)
theorem SI.put {S S' : Lb} {i m : Nat} {G : Nat → In} (h : SI S i) (hp : PutS S S' m G) : SI S' (i + 1) := by
  rcases hp with ⟨hg, rfl⟩ | ⟨_, rfl⟩
  · exact h.row m G hg
  · exact h.fail 1
theorem SI.lab {S S' : Lb} {i : Nat} {s : ByteArray} (h : SI S i) (hp : LabS S S' s) : SI S' (i + 1) := by
  rcases hp with ⟨_, rfl⟩ | ⟨_, rfl⟩
  · exact h.fail 24
  · obtain ⟨ak, hj⟩ := h.jp
    exact ⟨h.gd, h.nl, by have := h.cn; show S.cnt + 1 ≤ _; omega, by have := h.jn; show S.jn ≤ _; omega, ak, hj.pl, hj.lt⟩
theorem SI.jump {S S' : Lb} {i : Nat} {x : In} {s : ByteArray} (h : SI S i) (hs : s.size ≤ maxLen) (hp : JumpS S S' x s) : SI S' (i + 1) := by
  rcases hp with ⟨_, rfl⟩ | ⟨⟨_, he⟩, ⟨hn, rfl⟩ | ⟨_, rfl⟩⟩
  · exact h.fail 1
  · obtain ⟨ak, hj⟩ := h.jp
    have ha := h.app 1 (fun _ => zIn x) (fun _ _ => he) (by omega)
    refine ⟨ha.gd, ha.nl, ha.cn, by have := h.jn; show S.jn + 1 ≤ _; omega, fun k => if k = S.jn then S.n else ak k, fun k hk => ?_, fun i k hik hk => ?_⟩
    · have hk' : k < S.jn + 1 := hk
      show (if k = S.jn then (S.n : Int) else S.pl k) = ((if k = S.jn then S.n else ak k : Nat) : Int) ∧ (if k = S.jn then S.n else ak k) < S.n + 1 ∧ (if k = S.jn then s else S.nm k).size ≤ maxLen
      by_cases e : k = S.jn
      · rw [if_pos e, if_pos e, if_pos e]
        exact ⟨rfl, by omega, hs⟩
      · rw [if_neg e, if_neg e, if_neg e]
        obtain ⟨a, b, c⟩ := hj.pl k (by omega)
        exact ⟨a, by omega, c⟩
    · have hk' : k < S.jn + 1 := hk
      show (if i = S.jn then S.n else ak i) < (if k = S.jn then S.n else ak k)
      rw [if_neg (show ¬ i = S.jn by omega)]
      split
      · exact (hj.pl i (by omega)).2.1
      · exact hj.lt i k hik (by omega)
  · exact h.fail 2
theorem SI.con {S S' : Lb} {i : Nat} {r v : Int} (hv : 0 ≤ v ∧ v < 18446744073709551616) (h : SI S i) (hp : ConS S S' r v) : SI S' (i + 1) := by
  rcases hp with ⟨_, rfl⟩ | ⟨hr, rfl⟩
  · exact h.fail 1
  · refine h.row _ _ ?_
    have key : ∀ k, k ≤ 4 → good (tC r v k).F (tC r v k).n := by
      intro k
      induction k with
      | zero => intro _ j hj; exact absurd hj (Nat.not_lt_zero _)
      | succ k ih =>
        intro hk
        by_cases hz : prt v k = 0
        · rw [tC_z r v k hz]
          exact ih (by omega)
        · rw [tC_s r v k hz]
          intro j hj
          show (catI (tC r v k).F (tC r v k).n (fun _ => cI r v k) j).e = 0
          unfold catI
          split
          · exact ih (by omega) j (by assumption)
          · exact cI_ok r v k (by omega) hr.1 hr.2 hv.1 hv.2
    unfold tZ
    split
    · intro j hj
      show (catI (tC r v 4).F (tC r v 4).n (fun _ => ⟨2, r, 0, 0, 0, 0, 0⟩) j).e = 0
      unfold catI
      split
      · exact key 4 (by decide) j (by assumption)
      · exact c0_ok r hr.1 hr.2
    · exact key 4 (by decide)
theorem SI.more {S : Lb} {i : Nat} (h : SI S i) : SI S (i + 1) := ⟨h.gd, h.nl, by have := h.cn; omega, by have := h.jn; omega, h.jp⟩
end Go.Proofs.Ytnbpgoacooddjaa.Lab
namespace Go.Proofs.Ytnbpgoacooddjaa.Lab
open Go.ChangeShapes Go.WideShapes Go.ChangeAt Go.RowKit Go.Maps Go.Deep
open Go.Proofs.Ytnbpgoacooddjaa.En
set_option linter.unusedVariables false
section
variable {H : Type} {enc : TypeId × Value → H} {P : Program} {w : World} {base : Nat} {spare : Nat → Bool} {held : Bool}
theorem open_slice_fields {t e : TypeId} {fs : Array Field} {fuel : Nat} {cs : List Value} {x : DataW H × List MemPlace} (ht : P.underlying t = some (.slice e)) (he : P.underlying e = some (.struct fs))
    (hone : oneCellFields P fs = true) (hC : P.cellsOf e = fs.size) (h : DataW.trod enc P w base spare held fuel t cs = some x) :
    (cs = [.slice none 0 0] ∧ x = (.nil, [])) ∨
    ∃ (a : Addr) (len cap m : Nat) (D : Nat → DataW H) (Pl : Nat → List MemPlace), cs = [.slice (some a) len cap] ∧ base ≤ a.block ∧ len ≤ cap ∧ cap ≤ maxLen ∧ m = (if spare a.block then cap else len) ∧
      x = (.slice ((List.range len).map D) ((List.range (m - len)).map fun j => D (len + j)), MemPlace.row a (m * fs.size) ++ (List.range m).flatMap Pl) ∧
      ∀ i, i < m → ∃ (ys : List (DataW H × List MemPlace)) (n : Nat), D i = .agg (ys.map (·.1)) ∧ Pl i = ys.flatMap (·.2) ∧ ys.length = fs.size ∧
        ∀ (j : Nat) (f : Field), fs[j]? = some f → ∃ (v : Value) (y : DataW H × List MemPlace), w.cell? (a.add (i * fs.size + j)) = some v ∧ ys[j]? = some y ∧ DataW.trod enc P w base spare held n f.type [v] = some y := by
  rcases open_slice ht h with h0 | ⟨a, len, cap, m, n, D, Pl, hcs, hb, hl, hm, hmm, hx, hi⟩
  · exact .inl h0
  · refine .inr ⟨a, len, cap, m, D, Pl, hcs, hb, hl, hm, hmm, by rw [hC] at hx; exact hx, fun i him => ?_⟩
    obtain ⟨cs', hc, ht'⟩ := hi i him
    rw [hC] at hc
    obtain ⟨ys, n', hn', hy, hlen, hyl, hf⟩ := DataW.trod_struct he ht'
    obtain ⟨_, hcl, hat⟩ := World.cells?_some hc
    simp only [Prod.mk.injEq] at hy
    refine ⟨ys, n', hy.1, hy.2, hyl, fun j f hj => ?_⟩
    obtain ⟨ho, hk⟩ := hone_of hone j f hj
    have hjl : j < fs.size := (Array.getElem?_eq_some_iff.1 hj).1
    have hcell := hat j hjl
    have hv : cs'[j]? = some (cs'[j]'(by omega)) := List.getElem?_eq_getElem (by omega)
    have h1 := hf j f hj
    rw [ho, hk] at h1
    have hone' : (cs'.drop j).take 1 = [cs'[j]'(by omega)] := by
      rw [List.drop_eq_getElem_cons (by omega)]
      rfl
    rw [hone'] at h1
    have hys : ys[j]? = some (ys[j]'(by omega)) := List.getElem?_eq_getElem (by omega)
    refine ⟨_, _, ?_, hys, h1.trans hys⟩
    rw [← Go.Deep.add_add, hcell, hv]
end
theorem one_in (W : World) (x : Addr) (i : Nat) (h : ∀ j, j < 7 → ∃ c : Int, W.cell? (x.add (i * 7 + j)) = some (.int .i64 c)) : ∃ I : In, W.cell? (x.add (i * 7 + 0)) = some (.int .i64 I.op) ∧ W.cell? (x.add (i * 7 + 1)) = some (.int .i64 I.d) ∧ W.cell? (x.add (i * 7 + 2)) = some (.int .i64 I.n) ∧ W.cell? (x.add (i * 7 + 3)) = some (.int .i64 I.m) ∧ W.cell? (x.add (i * 7 + 4)) = some (.int .i64 I.a) ∧ W.cell? (x.add (i * 7 + 5)) = some (.int .i64 I.c) ∧ W.cell? (x.add (i * 7 + 6)) = some (.int .i64 I.i) := by
  obtain ⟨c0, h0⟩ := h 0 (by decide)
  obtain ⟨c1, h1⟩ := h 1 (by decide)
  obtain ⟨c2, h2⟩ := h 2 (by decide)
  obtain ⟨c3, h3⟩ := h 3 (by decide)
  obtain ⟨c4, h4⟩ := h 4 (by decide)
  obtain ⟨c5, h5⟩ := h 5 (by decide)
  obtain ⟨c6, h6⟩ := h 6 (by decide)
  exact ⟨⟨c0, c1, c2, c3, c4, c5, c6⟩, h0, h1, h2, h3, h4, h5, h6⟩
/-- A slice of instructions that comes in. -/
theorem insrow_open {H : Type} {enc : TypeId × Value → H} {W : World} {base : Nat} {spare : Nat → Bool} {held : Bool} {a : Option Addr} {n cap : Nat} {d : DataW H} {p : List MemPlace}
    (h : DataW.Trod enc Try.prog W base spare held 63 (.slice a n cap) d p) : n ≤ maxLen ∧ ∃ F, SrcI W a n F := by
  obtain ⟨fuel, hf⟩ := h
  rcases open_slice_fields Try.underlying63 Try.underlying29 (by kernel_rfl) (by kernel_rfl) hf with ⟨hcs, _⟩ | ⟨x, l, c, m, D, Pl, hcs, _, hl, hm, hmm, _, hi⟩
  · simp [Value.cells] at hcs
    obtain ⟨rfl, rfl, rfl⟩ := hcs
    exact ⟨by unfold maxLen; omega, fun _ => ⟨0, 0, 0, 0, 0, 0, 0⟩, .inl rfl⟩
  · simp [Value.cells] at hcs
    obtain ⟨rfl, rfl, rfl⟩ := hcs
    refine ⟨Nat.le_trans hl hm, ?_⟩
    by_cases h0 : n = 0
    · exact ⟨fun _ => ⟨0, 0, 0, 0, 0, 0, 0⟩, .inl h0⟩
    · have hlm : n ≤ m := by rw [hmm]; split <;> omega
      have key : ∀ i, i < n → ∃ I : In, W.cell? (x.add (i * 7 + 0)) = some (.int .i64 I.op) ∧ W.cell? (x.add (i * 7 + 1)) = some (.int .i64 I.d) ∧ W.cell? (x.add (i * 7 + 2)) = some (.int .i64 I.n) ∧ W.cell? (x.add (i * 7 + 3)) = some (.int .i64 I.m) ∧ W.cell? (x.add (i * 7 + 4)) = some (.int .i64 I.a) ∧ W.cell? (x.add (i * 7 + 5)) = some (.int .i64 I.c) ∧ W.cell? (x.add (i * 7 + 6)) = some (.int .i64 I.i) := by
        intro i hin
        obtain ⟨ys, k, _, _, _, hfs⟩ := hi i (by omega)
        refine one_in W x i fun j hj => ?_
        have : j = 0 ∨ j = 1 ∨ j = 2 ∨ j = 3 ∨ j = 4 ∨ j = 5 ∨ j = 6 := by omega
        rcases this with rfl | rfl | rfl | rfl | rfl | rfl | rfl
        · obtain ⟨v, y, c, _, t⟩ := hfs 0 _ rfl
          obtain ⟨q, hq, _⟩ := DataW.trod_int Try.underlying3 t
          injection hq with hq
          subst hq
          exact ⟨q, c⟩
        · obtain ⟨v, y, c, _, t⟩ := hfs 1 _ rfl
          obtain ⟨q, hq, _⟩ := DataW.trod_int Try.underlying3 t
          injection hq with hq
          subst hq
          exact ⟨q, c⟩
        · obtain ⟨v, y, c, _, t⟩ := hfs 2 _ rfl
          obtain ⟨q, hq, _⟩ := DataW.trod_int Try.underlying3 t
          injection hq with hq
          subst hq
          exact ⟨q, c⟩
        · obtain ⟨v, y, c, _, t⟩ := hfs 3 _ rfl
          obtain ⟨q, hq, _⟩ := DataW.trod_int Try.underlying3 t
          injection hq with hq
          subst hq
          exact ⟨q, c⟩
        · obtain ⟨v, y, c, _, t⟩ := hfs 4 _ rfl
          obtain ⟨q, hq, _⟩ := DataW.trod_int Try.underlying3 t
          injection hq with hq
          subst hq
          exact ⟨q, c⟩
        · obtain ⟨v, y, c, _, t⟩ := hfs 5 _ rfl
          obtain ⟨q, hq, _⟩ := DataW.trod_int Try.underlying3 t
          injection hq with hq
          subst hq
          exact ⟨q, c⟩
        · obtain ⟨v, y, c, _, t⟩ := hfs 6 _ rfl
          obtain ⟨q, hq, _⟩ := DataW.trod_int Try.underlying2 t
          injection hq with hq
          subst hq
          exact ⟨q, c⟩
      obtain ⟨b, off, spot⟩ := x
      obtain ⟨_, z0, _⟩ := key 0 (by omega)
      have hspot : spot = none := by simpa [Addr.add] using World.cell?_spot z0
      subst hspot
      have hb : b < W.heap.size := World.block_lt_of_cell? W ⟨b, off, none⟩ (by simpa [Addr.add] using z0)
      have key' : ∀ i, ∃ I : In, i < n → W.cell? ⟨b, off + i * 7, none⟩ = some (.int .i64 I.op) ∧ W.cell? ⟨b, off + i * 7 + 1, none⟩ = some (.int .i64 I.d) ∧ W.cell? ⟨b, off + i * 7 + 2, none⟩ = some (.int .i64 I.n) ∧ W.cell? ⟨b, off + i * 7 + 3, none⟩ = some (.int .i64 I.m) ∧ W.cell? ⟨b, off + i * 7 + 4, none⟩ = some (.int .i64 I.a) ∧ W.cell? ⟨b, off + i * 7 + 5, none⟩ = some (.int .i64 I.c) ∧ W.cell? ⟨b, off + i * 7 + 6, none⟩ = some (.int .i64 I.i) := by
        intro i
        by_cases hin : i < n
        · obtain ⟨I, c0, c1, c2, c3, c4, c5, c6⟩ := key i hin
          rw [Go.WideShapes.add_plain] at c0 c1 c2 c3 c4 c5 c6
          exact ⟨I, fun _ => ⟨c0, c1, c2, c3, c4, c5, c6⟩⟩
        · exact ⟨⟨0, 0, 0, 0, 0, 0, 0⟩, fun h => absurd h hin⟩
      exact ⟨fun i => Classical.choose (key' i), .inr ⟨b, off, rfl, hb, fun i hin => Classical.choose_spec (key' i) hin⟩⟩

end Go.Proofs.Ytnbpgoacooddjaa.Lab
namespace Go.Proofs.Ytnbpgoacooddjaa.Lab
open Go.ChangeShapes Go.WideShapes Go.ChangeAt Go.RowKit Go.Maps Go.Deep
open Go.Proofs.Ytnbpgoacooddjaa.En
set_option linter.unusedVariables false
attribute [local go_sem] rowAt_drew rowAt_drewN
/-- An act. -/
structure Ac where
  op : Int
  la : Option Addr
  ln : Nat
  lc : Nat
  lf : Nat → In
  nm : ByteArray
  reg : Int
  v : Int
  N : Int
/-- Its cells are there. -/
structure AcOk (w : World) (b off : Nat) (x : Ac) : Prop where
  c0 : w.cell? ⟨b, off, none⟩ = some (.int .i64 x.op)
  c1 : w.cell? ⟨b, off + 1, none⟩ = some (.slice x.la x.ln x.lc)
  c2 : w.cell? ⟨b, off + 2, none⟩ = some (.string x.nm)
  c3 : w.cell? ⟨b, off + 3, none⟩ = some (.int .i64 x.reg)
  c4 : w.cell? ⟨b, off + 4, none⟩ = some (.int .u64 x.v)
  c5 : w.cell? ⟨b, off + 5, none⟩ = some (.int .i64 x.N)
  sz : x.nm.size ≤ maxLen
  vr : 0 ≤ x.v ∧ x.v < 18446744073709551616
  lc : x.ln ≤ x.lc
  lm : x.ln ≤ 9223372036854775807
  src : SrcI w x.la x.ln x.lf
def SrcA (w : World) (A : Option Addr) (n : Nat) (X : Nat → Ac) : Prop := n = 0 ∨ ∃ b off, A = some ⟨b, off, none⟩ ∧ b < w.heap.size ∧ ∀ k, k < n → AcOk w b (off + k * 6) (X k)
theorem AcOk.past {w w' : World} {b off : Nat} {x : Ac} (h : AcOk w b off x) (hb : b < w.heap.size) (hl : Below w.heap.size w w') : AcOk w' b off x :=
  have g : ∀ k, w'.cell? ⟨b, k, none⟩ = w.cell? ⟨b, k, none⟩ := fun k => hl.cell (p := ⟨b, k, none⟩) hb
  ⟨(g _).trans h.c0, (g _).trans h.c1, (g _).trans h.c2, (g _).trans h.c3, (g _).trans h.c4, (g _).trans h.c5, h.sz, h.vr, h.lc, h.lm, h.src.past hl⟩
theorem SrcA.past {w w' : World} {A : Option Addr} {n : Nat} {X : Nat → Ac} (h : SrcA w A n X) (hl : Below w.heap.size w w') : SrcA w' A n X := by
  rcases h with h | ⟨b, off, rfl, hb, hc⟩
  · exact .inl h
  · exact .inr ⟨b, off, rfl, Nat.lt_of_lt_of_le hb hl.size, fun k hk => (hc k hk).past hb hl⟩
theorem bds64 {a : Int} (h : (Lit.int .u64 a).wf = true) : 0 ≤ a ∧ a < 18446744073709551616 := by
  simp [Lit.wf, IntKind.min, IntKind.max, IntKind.signed, IntKind.bits] at h; omega
/-- Acts that come in. -/
theorem acts_open {H : Type} {enc : TypeId × Value → H} {W : World} {base : Nat} {spare : Nat → Bool} {held : Bool} {a : Option Addr} {n cap : Nat} {d : DataW H} {p : List MemPlace}
    (h : DataW.Trod enc Try.prog W base spare held 69 (.slice a n cap) d p) : n ≤ maxLen ∧ ∃ X, SrcA W a n X := by
  obtain ⟨fuel, hf⟩ := h
  rcases open_slice_fields Try.underlying69 Try.underlying76 (by kernel_rfl) (by kernel_rfl) hf with ⟨hcs, _⟩ | ⟨x, l, c, m, D, Pl, hcs, _, hl, hm, hmm, _, hi⟩
  · simp [Value.cells] at hcs
    obtain ⟨rfl, rfl, rfl⟩ := hcs
    exact ⟨by unfold maxLen; omega, fun _ => ⟨0, none, 0, 0, fun _ => ⟨0, 0, 0, 0, 0, 0, 0⟩, ByteArray.empty, 0, 0, 0⟩, .inl rfl⟩
  · simp [Value.cells] at hcs
    obtain ⟨rfl, rfl, rfl⟩ := hcs
    refine ⟨Nat.le_trans hl hm, ?_⟩
    by_cases h0 : n = 0
    · exact ⟨fun _ => ⟨0, none, 0, 0, fun _ => ⟨0, 0, 0, 0, 0, 0, 0⟩, ByteArray.empty, 0, 0, 0⟩, .inl h0⟩
    · have hlm : n ≤ m := by rw [hmm]; split <;> omega
      have key : ∀ i, i < n → ∃ X : Ac, W.cell? (x.add (i * 6 + 0)) = some (.int .i64 X.op) ∧ W.cell? (x.add (i * 6 + 1)) = some (.slice X.la X.ln X.lc) ∧ W.cell? (x.add (i * 6 + 2)) = some (.string X.nm) ∧ W.cell? (x.add (i * 6 + 3)) = some (.int .i64 X.reg) ∧ W.cell? (x.add (i * 6 + 4)) = some (.int .u64 X.v) ∧ W.cell? (x.add (i * 6 + 5)) = some (.int .i64 X.N) ∧ X.nm.size ≤ maxLen ∧ (0 ≤ X.v ∧ X.v < 18446744073709551616) ∧ X.ln ≤ X.lc ∧ X.ln ≤ 9223372036854775807 ∧ SrcI W X.la X.ln X.lf := by
        intro i hin
        obtain ⟨ys, k, _, _, _, hfs⟩ := hi i (by omega)
        obtain ⟨u0, y0, k0, _, t0⟩ := hfs 0 _ rfl
        obtain ⟨u1, y1, k1, _, t1⟩ := hfs 1 _ rfl
        obtain ⟨u2, y2, k2, _, t2⟩ := hfs 2 _ rfl
        obtain ⟨u3, y3, k3, _, t3⟩ := hfs 3 _ rfl
        obtain ⟨u4, y4, k4, _, t4⟩ := hfs 4 _ rfl
        obtain ⟨u5, y5, k5, _, t5⟩ := hfs 5 _ rfl
        obtain ⟨q0, hq0, _⟩ := DataW.trod_int Try.underlying3 t0
        obtain ⟨s2, hs2, _, hle⟩ := DataW.trod_string Try.underlying9 t2
        obtain ⟨q3, hq3, _⟩ := DataW.trod_int Try.underlying3 t3
        obtain ⟨q4, hq4, _, hw4⟩ := DataW.trod_int Try.underlying23 t4
        obtain ⟨q5, hq5, _⟩ := DataW.trod_int Try.underlying3 t5
        injection hq0 with hq0
        injection hs2 with hs2
        injection hq3 with hq3
        injection hq4 with hq4
        injection hq5 with hq5
        subst hq0 hs2 hq3 hq4 hq5
        obtain ⟨la, ln, lc, hlc, rfl⟩ : ∃ la ln lc, ln ≤ lc ∧ u1 = .slice la ln lc := by
          rcases open_slice_fields Try.underlying63 Try.underlying29 (by kernel_rfl) (by kernel_rfl) t1 with ⟨hc, _⟩ | ⟨_, l, c, _, _, _, hc, _, hl, _⟩
          · injection hc with hc
            exact ⟨_, _, _, Nat.le_refl _, hc⟩
          · injection hc with hc
            exact ⟨_, l, c, hl, hc⟩
        obtain ⟨h1, F, hF⟩ := insrow_open (a := la) (n := ln) (cap := lc) (d := y1.1) (p := y1.2) ⟨_, t1⟩
        exact ⟨⟨q0, la, ln, lc, F, s2, q3, q4, q5⟩, k0, k1, k2, k3, k4, k5, hle, bds64 hw4, hlc, h1, hF⟩
      obtain ⟨b, off, spot⟩ := x
      obtain ⟨_, z0, _⟩ := key 0 (by omega)
      have hspot : spot = none := by simpa [Addr.add] using World.cell?_spot z0
      subst hspot
      have hb : b < W.heap.size := World.block_lt_of_cell? W ⟨b, off, none⟩ (by simpa [Addr.add] using z0)
      have key' : ∀ i, ∃ X : Ac, i < n → AcOk W b (off + i * 6) X := by
        intro i
        by_cases hin : i < n
        · obtain ⟨X, c0, c1, c2, c3, c4, c5, s1, s2, s3, s4, s5⟩ := key i hin
          rw [Go.WideShapes.add_plain] at c0 c1 c2 c3 c4 c5
          exact ⟨X, fun _ => ⟨c0, c1, c2, c3, c4, c5, s1, s2, s3, s4, s5⟩⟩
        · exact ⟨⟨0, none, 0, 0, fun _ => ⟨0, 0, 0, 0, 0, 0, 0⟩, ByteArray.empty, 0, 0, 0⟩, fun h => absurd h hin⟩
      exact ⟨fun i => Classical.choose (key' i), .inr ⟨b, off, rfl, hb, fun i hin => Classical.choose_spec (key' i) hin⟩⟩
set_option maxRecDepth 100000 in
set_option maxHeartbeats 8000000 in
theorem few_c (A : Option Addr) (n cap : Nat) (X : Nat → Ac) (w : World) (hn : n ≤ 9223372036854775807) (HS : Hid (SrcA w A n X)) :
    Calls Try.prog 33 #[.slice A n cap] w fun e w' => (∃ b, e = .returned (.bool b) ∧ (b = true → n ≤ 300 ∧ ∀ i, i < n → (X i).op = 5 → (X i).N ≤ 40000)) ∧ Below w.heap.size w w' := by
  go_enter Try.func33, Try.ntmps33
  go_wp2
  go_loopw [3, 4] (fun s3 s4 W => ∃ (k : Nat) (c : Int), k ≤ n ∧ s4 = .int .i64 k ∧ s3 = .int .i64 c ∧ Hid (∀ i, i < k → (X i).op = 5 → (X i).N ≤ 40000) ∧ Hid (Below w.heap.size w W)) (fun _ s4 _ => n - (intOf s4).toNat)
  case atStart => exact ⟨0, 0, Nat.zero_le _, rfl, rfl, Lib.hid (fun i hi => absurd hi (Nat.not_lt_zero _)), Lib.hid (Below.refl _ _)⟩
  case round =>
    obtain ⟨k, c, hk, rfl, rfl, HF, HB⟩ := hrel
    by_cases hlt : k < n
    · obtain ⟨b, off, rfl, hb, hc⟩ : ∃ b off, A = some ⟨b, off, none⟩ ∧ b < wr.heap.size ∧ ∀ k, k < n → AcOk wr b (off + k * 6) (X k) := by
        rcases HS.out.past HB.out with h | h
        · omega
        · exact h
      have ha := hc k hlt
      obtain ⟨x, hx⟩ : ∃ x, X k = x := ⟨_, rfl⟩
      rw [hx] at ha
      have HX := Lib.hid hx
      have c0 := ha.c0
      have c1 := ha.c1
      have c2 := ha.c2
      have c5 := ha.c5
      clear hc hx ha
      go_upto_region 5 with (fail)
      go_quiet (fail)
      have d0 : (wr.drewN nq).cell? ⟨b, off + k * 6, none⟩ = some (.int .i64 x.op) := c0
      have d5 : (wr.drewN nq).cell? ⟨b, off + k * 6 + 5, none⟩ = some (.int .i64 x.N) := c5
      have HBd : Hid (Below w.heap.size w (wr.drewN nq)) := Lib.hid (below_drewN HB.out nq)
      obtain ⟨z, hz⟩ : ∃ z, wrap64 (wrap64 (c + (x.ln : Int)) + (x.nm.size : Int)) = z := ⟨_, rfl⟩
      rw [hz]
      clear c0 c1 c2 c5 hz
      generalize wr.drewN nq = V at d0 d5 HBd ⊢
      by_cases h5 : x.op = 5
      · by_cases hN : 40000 < x.N
        · have e5 : (x.op == 5) = true := by simpa using h5
          have eN : decide (40000 < x.N) = true := decide_eq_true hN
          clear h5
          go_wp2
          go_ret
          first
            | exact ⟨.inl rfl, HBd.out⟩
            | exact ⟨⟨false, rfl, fun h => by cases h⟩, HBd.out⟩
        · have HF2 : Hid (∀ i, i < k + 1 → (X i).op = 5 → (X i).N ≤ 40000) := Lib.hid (fun i hi ho => by
            rcases Nat.lt_or_ge i k with h | h
            · exact HF.out i h ho
            · rw [show i = k by omega, HX.out]; omega)
          have e5 : (x.op == 5) = true := by simpa using h5
          have eN : decide (40000 < x.N) = false := decide_eq_false hN
          clear h5
          go_wp2
          exact ⟨⟨k + 1, _, by omega, by go_num, rfl, HF2, HBd⟩, by simp [intOf]; omega⟩
      · have HF2 : Hid (∀ i, i < k + 1 → (X i).op = 5 → (X i).N ≤ 40000) := Lib.hid (fun i hi ho => by
          rcases Nat.lt_or_ge i k with h | h
          · exact HF.out i h ho
          · rw [show i = k by omega, HX.out] at ho; exact absurd ho h5)
        have e5 : (x.op == 5) = false := by simpa using h5
        clear h5
        go_wp2
        exact ⟨⟨k + 1, _, by omega, by go_num, rfl, HF2, HBd⟩, by simp [intOf]; omega⟩
    · obtain rfl : n = k := by omega
      by_cases h3 : n ≤ 300
      · have e3 : decide ((n : Int) ≤ 300) = true := decide_eq_true (by omega)
        have H3 := Lib.hid h3
        by_cases hc : c ≤ 4000
        · have ec : decide (c ≤ 4000) = true := decide_eq_true hc
          go_wp2
          all_goals (try (exfalso; omega))
          go_ret
          first
            | exact ⟨.inr ⟨rfl, H3.out, HF.out⟩, HB.out⟩
            | exact ⟨⟨_, rfl, fun _ => ⟨H3.out, HF.out⟩⟩, HB.out⟩
        · have ec : decide (c ≤ 4000) = false := decide_eq_false hc
          go_wp2
          all_goals (try (exfalso; omega))
          go_ret
          first
            | exact ⟨.inl rfl, HB.out⟩
            | exact ⟨⟨_, rfl, fun _ => ⟨H3.out, HF.out⟩⟩, HB.out⟩
      · have e3 : decide ((n : Int) ≤ 300) = false := decide_eq_false (by omega)
        go_wp2
        all_goals (try (exfalso; omega))
        go_ret
        first
          | exact ⟨.inl rfl, HB.out⟩
          | exact ⟨⟨false, rfl, fun h => by cases h⟩, HB.out⟩
end Go.Proofs.Ytnbpgoacooddjaa.Lab
namespace Go.Proofs.Ytnbpgoacooddjaa.Lab
open Go.ChangeShapes Go.WideShapes Go.ChangeAt Go.RowKit Go.Maps Go.Deep
open Go.Proofs.Ytnbpgoacooddjaa.En
set_option linter.unusedVariables false
attribute [local go_sem] rowAt_drew rowAt_drewN
theorem least (P : Nat → Prop) (n : Nat) : P n → ∃ m, m ≤ n ∧ P m ∧ ∀ k, k < m → ¬ P k := by
  induction n using Nat.strongRecOn with
  | ind n ih =>
    intro h
    by_cases hk : ∃ k, k < n ∧ P k
    · obtain ⟨k, hkn, hp⟩ := hk
      obtain ⟨m, h1, h2, h3⟩ := ih k hkn hp
      exact ⟨m, by omega, h2, h3⟩
    · exact ⟨n, Nat.le_refl _, h, fun k hkn hp => hk ⟨k, hkn, hp⟩⟩
/-- Where a label stands, if there is one. -/
noncomputable def tkS (S : Lb) (k : Nat) : Nat := match S.D.atKey (ky (S.nm k)) (.lit (.int .i64 0)) with
  | .lit (.int .i64 t) => t.toNat
  | _ => 0
def Miss (S : Lb) (k : Nat) : Prop := Maps.has S.D (ky (S.nm k)) = false
/-- What Words tells. -/
def WoS (S : Lb) (ak : Nat → Nat) (n : Nat) (er : Int) (L : List Value) : Prop :=
  (¬ S.err = 0 ∧ er = S.err ∧ n = 0 ∧ L = []) ∨
  (S.err = 0 ∧ (∃ k, k < S.jn ∧ Miss S k) ∧ er = 24 ∧ n = 0 ∧ L = []) ∨
  (S.err = 0 ∧ ¬ (∃ k, k < S.jn ∧ Miss S k) ∧ good (landF S ak (tkS S) S.jn) S.n ∧ er = 0 ∧ n = S.n ∧ L = ws (landF S ak (tkS S) S.jn) S.n) ∨
  (S.err = 0 ∧ ¬ (∃ k, k < S.jn ∧ Miss S k) ∧ ¬ good (landF S ak (tkS S) S.jn) S.n ∧ er = 7 ∧ n = 0 ∧ L = [])
theorem WoS.uniq {S : Lb} {ak : Nat → Nat} {n n' : Nat} {er er' : Int} {L L' : List Value} (h : WoS S ak n er L) (h' : WoS S ak n' er' L') : n = n' ∧ er = er' ∧ L = L' := by
  rcases h with ⟨a1, rfl, rfl, rfl⟩ | ⟨a1, a2, rfl, rfl, rfl⟩ | ⟨a1, a2, a3, rfl, rfl, rfl⟩ | ⟨a1, a2, a3, rfl, rfl, rfl⟩ <;>
  rcases h' with ⟨b1, rfl, rfl, rfl⟩ | ⟨b1, b2, rfl, rfl, rfl⟩ | ⟨b1, b2, b3, rfl, rfl, rfl⟩ | ⟨b1, b2, b3, rfl, rfl, rfl⟩ <;>
  first
    | exact ⟨rfl, rfl, rfl⟩
    | exact absurd a1 b1
    | exact absurd b1 a1
    | exact absurd a2 b2
    | exact absurd b2 a2
    | exact absurd a3 b3
    | exact absurd b3 a3
theorem WoS.get {S : Lb} {ak : Nat → Nat} {n : Nat} {er : Int} {L : List Value} (h : WoS S ak n er L) (i : Nat) (hi : i < n) : ∃ c, L[i]? = some (.int .u32 c) := by
  rcases h with ⟨_, _, rfl, _⟩ | ⟨_, _, _, rfl, _⟩ | ⟨_, _, _, _, rfl, rfl⟩ | ⟨_, _, _, _, rfl, _⟩
  · omega
  · omega
  · exact ⟨_, by unfold ws; rw [List.getElem?_map, List.getElem?_range hi]; rfl⟩
  · omega
theorem WoS.len {S : Lb} {ak : Nat → Nat} {n : Nat} {er : Int} {L : List Value} (h : WoS S ak n er L) (hl : S.n ≤ 65536) : n ≤ 65536 := by
  rcases h with ⟨_, _, rfl, _⟩ | ⟨_, _, _, rfl, _⟩ | ⟨_, _, _, _, rfl, _⟩ | ⟨_, _, _, _, rfl, _⟩ <;> omega
section
variable {B N1 N2 : Nat} {w0 w : World} {p q : Nat} {S : Lb}
theorem Bo.tk (h : Bo B N1 N2 w0 w p q S S) {k : Nat} (hm : ¬ Miss S k) : Maps.has S.D (ky (S.nm k)) = true ∧ S.D.atKey (ky (S.nm k)) (.lit (.int .i64 0)) = .lit (.int .i64 (tkS S k : Int)) ∧ tkS S k ≤ 65536 := by
  have hh : Maps.has S.D (ky (S.nm k)) = true := by
    unfold Miss at hm
    simpa using hm
  obtain ⟨t, h1, h2⟩ := h.tell hh
  have : tkS S k = t := by
    unfold tkS
    rw [h2]
    simp
  rw [this]
  exact ⟨hh, h2, h1⟩
theorem words_bo (h : Bo B N1 N2 w0 w p q S S) (ak : Nat → Nat) (hj : Jps S ak) (hjn : S.jn ≤ 1000000) :
    Calls Try.prog 22 #[.pointer (some ⟨p, 0, none⟩)] w fun e w' => ∃ (a : Option Addr) (n cp : Nat) (er : Int) (L : List Value), e = .returned (.tuple #[.slice a n cp, .int .i64 er]) ∧ WoS S ak n er L ∧ w'.ownsRow 0 54 1 (.slice a n cp) n L ∧ Below w.heap.size w w' := by
  have htk := fun k (hm : ¬ Miss S k) => h.tk hm
  obtain ⟨FP1, FP2, mb, v1, v3, bx, bY, bz, u1, u2, u3, lm, lt, h1, h2, h3, h4, h5, h6, h7⟩ := h
  by_cases he : S.err = 0
  · by_cases hm : ∃ k, k < S.jn ∧ Miss S k
    · obtain ⟨k, hk, hmk⟩ := hm
      obtain ⟨m, hml, hmm, hmb⟩ := least (Miss S) k hmk
      refine (words_miss w FP1 p S mb v1 v3 bx bY bz h1 he ak (tkS S) m (by omega) hjn hmm (hj.pl m (by omega)).2.2 fun i hi => ?_).mono fun e w' g => ⟨none, 0, 0, 24, [], g.1, .inr (.inl ⟨he, ⟨k, hk, hmk⟩, rfl, rfl, rfl⟩), World.ownsRow_nil _ _ _ _, g.2⟩
      obtain ⟨a, b, c⟩ := hj.pl i (by omega)
      obtain ⟨x, y, z⟩ := htk i (hmb i hi)
      exact ⟨a, b, c, x, y, z⟩
    · refine (words_y w FP1 p S mb v1 v3 bx bY bz h1 he ak (tkS S) hjn fun i hi => ?_).mono fun e w' g => ?_
      · obtain ⟨a, b, c⟩ := hj.pl i hi
        obtain ⟨x, y, z⟩ := htk i (fun hmi => hm ⟨i, hi, hmi⟩)
        exact ⟨a, b, c, x, y, z⟩
      · rcases g.1 with ⟨gg, h8, h9, h10, h11⟩ | ⟨h8, h9⟩
        · exact ⟨_, _, _, 0, _, h9, .inr (.inr (.inl ⟨he, hm, h8, rfl, rfl, rfl⟩)), h11, g.2⟩
        · exact ⟨_, _, _, 7, [], h9, .inr (.inr (.inr ⟨he, hm, h8, rfl, rfl, rfl⟩)), World.ownsRow_nil _ _ _ _, g.2⟩
  · exact (words_err w FP1 p S mb v1 v3 bx bY bz h1 he).mono fun e w' g => ⟨none, 0, 0, S.err, [], g.1, .inl ⟨he, rfl, rfl, rfl⟩, World.ownsRow_nil _ _ _ _, g.2⟩
theorem rwords_bo (h : Bo B N1 N2 w0 w p q S S) (ak : Nat → Nat) (hj : Jps S ak) (hjn : S.jn ≤ 1000000) (hcn : S.cnt ≤ 1000000) (hgd : good S.F S.n) :
    Calls Try.prog 41 #[.pointer (some ⟨q, 0, none⟩)] w fun e w' => ∃ (a : Option Addr) (n cp : Nat) (er : Int) (L : List Value), e = .returned (.tuple #[.slice a n cp, .int .i64 er]) ∧ WoS S ak n er L ∧ w'.ownsRow 0 54 1 (.slice a n cp) n L ∧ Below w.heap.size w w' := by
  have htk := fun k (hm : ¬ Miss S k) => h.tk hm
  obtain ⟨FP1, FP2, mb, v1, v3, bx, bY, bz, u1, u2, u3, lm, lt, h1, h2, h3, h4, h5, h6, h7⟩ := h
  by_cases he : S.err = 0
  · by_cases hm : ∃ k, k < S.jn ∧ Miss S k
    · obtain ⟨k, hk, hmk⟩ := hm
      obtain ⟨m, hml, hmm, hmb⟩ := least (Miss S) k hmk
      refine (rwords_miss w FP2 q S u1 u2 u3 lm lt h2 he hcn (tkS S) m (by omega) hjn hmm fun i hi => ?_).mono fun e w' g => ⟨none, 0, 0, 24, [], g.1, .inr (.inl ⟨he, ⟨k, hk, hmk⟩, rfl, rfl, rfl⟩), World.ownsRow_nil _ _ _ _, g.2⟩
      obtain ⟨x, y, z⟩ := htk i (hmb i hi)
      exact ⟨x, y⟩
    · refine (rwords_y w FP2 q S u1 u2 u3 lm lt h2 he hcn ak (tkS S) hjn hj hgd fun i hi => htk i (fun hmi => hm ⟨i, hi, hmi⟩)).mono fun e w' g => ?_
      rcases g.1 with ⟨h8, a, cp, h9, h11⟩ | ⟨h8, h9⟩
      · refine ⟨a, _, cp, 0, _, h9, .inr (.inr (.inl ⟨he, hm, h8, rfl, rfl, rfl⟩)), ⟨h11.1, ?_⟩, g.2⟩
        rcases h11.2 with h | ⟨g', cap, cur, e1, _, e2⟩
        · exact .inl h
        · exact .inr ⟨g', cap, cur, e1, Nat.zero_le _, e2⟩
      · exact ⟨_, _, _, 7, [], h9, .inr (.inr (.inr ⟨he, hm, h8, rfl, rfl, rfl⟩)), World.ownsRow_nil _ _ _ _, g.2⟩
  · exact (rwords_err w FP2 q S u1 u2 u3 lm lt h2 he).mono fun e w' g => ⟨none, 0, 0, S.err, [], g.1, .inl ⟨he, rfl, rfl, rfl⟩, World.ownsRow_nil _ _ _ _, g.2⟩
end
/-- Both in the beginning. -/
theorem bo_new {w2 w3 : World} {p mb : Nat} {at0 : Int} {bx bY bz : Nat → Nat} (h : LbC w3 (fun k => w2.heap.size ≤ k ∧ k < w2.heap.size + 2) p (Lb.new at0) mb (.slice none 0 0) (.slice none 0 0) bx bY bz) (hb : Below w2.heap.size w2 w3) :
    Bo w2.heap.size (w3.heap.size + 1) (w3.heap.size + 1) w2 (w3.alloc (.cells (cellsR at0 (.slice none 0 0) (.slice none 0 0) (.slice none 0 0) 0) 74)) p w3.heap.size (Lb.new at0) (Lb.new at0) := by
  have ha : Below w3.heap.size w3 (w3.alloc (.cells (cellsR at0 (.slice none 0 0) (.slice none 0 0) (.slice none 0 0) 0) 74)) := (Below.refl _ _).alloc (Nat.le_refl _) _
  have hs : (w3.alloc (.cells (cellsR at0 (.slice none 0 0) (.slice none 0 0) (.slice none 0 0) 0) 74)).heap.size = w3.heap.size + 1 := by simp
  refine ⟨_, fun k => k = w3.heap.size, mb, _, _, bx, bY, bz, .slice none 0 0, .slice none 0 0, .slice none 0 0, fun _ => ByteArray.empty, fun _ => 0, h.past ha, ⟨heap_alloc_new _ _, ⟨rfl, .inl ⟨rfl, rfl⟩⟩, ⟨rfl, .inl ⟨rfl, rfl⟩⟩, ⟨rfl, .inl ⟨rfl, rfl⟩⟩, ⟨fun i hi => absurd hi (Nat.not_lt_zero _), fun s hs => (by cases hs), fun i hi => absurd hi (Nat.not_lt_zero _), fun i hi => absurd hi (Nat.not_lt_zero _), ⟨_, rfl⟩⟩, rfl, fun g hg => (by cases hg), fun g hg => (by cases hg), fun g hg => (by cases hg), fun g hg => (by cases hg), fun k hk => (by subst hk; omega), Nat.zero_le _⟩, fun k hk e => ?_, fun k hk => ⟨hk.1, ?_⟩, fun k hk => ⟨?_, ?_⟩, ?_, hb.trans (ha.mono hb.size)⟩
  · have := h.fl k hk
    omega
  · have := h.fl k hk
    omega
  · have := hb.size
    omega
  · omega
  · have := hb.size
    omega
theorem si_new (at0 : Int) : SI (Lb.new at0) 0 := ⟨fun j hj => absurd hj (Nat.not_lt_zero _), Nat.zero_le _, Nat.le_refl _, Nat.le_refl _, fun _ => 0, ⟨fun k hk => absurd hk (Nat.not_lt_zero _), fun i k hik hk => absurd hk (Nat.not_lt_zero _)⟩⟩
end Go.Proofs.Ytnbpgoacooddjaa.Lab
