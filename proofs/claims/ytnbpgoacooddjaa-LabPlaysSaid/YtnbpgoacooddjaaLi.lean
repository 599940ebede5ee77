import Derived.Test.YtnbpgoacooddjaaLh
namespace Go.Proofs.Ytnbpgoacooddjaa.Lab
open Go.ChangeShapes Go.WideShapes Go.ChangeAt Go.RowKit Go.Maps
open Go.Proofs.Ytnbpgoacooddjaa.En
set_option linter.unusedVariables false
attribute [local go_sem] rowAt_drew rowAt_drewN
/-- The instructions when the first k jumps have landed. -/
def landF (S : Lb) (ak tk : Nat → Nat) : Nat → (Nat → In)
  | 0 => S.F
  | k + 1 => setI (landF S ak tk k) (ak k) (4 * ((tk k : Int) - ak k))
theorem own_cells {w : World} {B n cap size : Nat} {e : TypeId} {g : Nat} {xs : List Value} (h : w.ownsRow B e size (.slice (some ⟨g, 0, none⟩) n cap) n xs) : (∀ q u, xs[q]? = some u → w.cell? ⟨g, q, none⟩ = some u) ∧ (∀ q, w.frozen? ⟨g, q, none⟩ = false) := by
  rcases h.2 with ⟨h1, _⟩ | ⟨g', cap', cur, hv, hb, hg, hc, hm, hs, ht⟩
  · cases h1
  · injection hv with e1 e2 e3
    injection e1 with e1
    injection e1 with e1
    subst e1 e3
    have hr : rowAt w g = some cur := rowAt_of hg
    refine ⟨fun q u hu => ?_, fun q => rowAt_frz hr q⟩
    rw [← ht, List.getElem?_take] at hu
    split at hu
    · rw [rowAt_cell hr, ← Array.getElem?_toList]; exact hu
    · cases hu
/-- What is so in the loop over the jumps. -/
structure WdI (w0 : World) (FP : Nat → Prop) (p : Nat) (S : Lb) (mb : Nat) (v1 v3 : Value) (bx bY bz : Nat → Nat) (v : Value) (G : Nat → In) (W : World) : Prop where
  lb : LbC W FP p S mb v1 v3 bx bY bz
  row : W.ownsRow w0.heap.size 29 7 v S.n (insL G S.n)
  bl : Below w0.heap.size w0 W
theorem jmpL_get (bx bY bz : Nat → Nat) (n k : Nat) (hk : k < n) : (jmpL bx bY bz n)[k]? = some (jmpV (bx k) (bY k) (bz k)) := by
  unfold jmpL
  rw [List.getElem?_map, List.getElem?_range hk]
  rfl
theorem WdI.step {w0 : World} {FP : Nat → Prop} {p : Nat} {S : Lb} {mb : Nat} {v1 v3 : Value} {bx bY bz : Nat → Nat} {g cv a : Nat} {G : Nat → In} {W : World} {x : Int} (h : WdI w0 FP p S mb v1 v3 bx bY bz (.slice (some ⟨g, 0, none⟩) S.n cv) G W) (hfl : ∀ k, FP k → k < w0.heap.size) (hg : w0.heap.size ≤ g) (ha : a < S.n) :
    WdI w0 FP p S mb v1 v3 bx bY bz (.slice (some ⟨g, 0, none⟩) S.n cv) (setI G a x) (W.drew.setCell ⟨g, a * 7 + 6, none⟩ (.int .i64 x)) where
  lb := (h.lb.past (Below.refl _ _).drew).kept (by simp) fun k hf => Below.heap_setCell _ _ _ _ (fun e => by have := hfl k hf; simp only at e; omega)
  row := own_setI (w := W.drew) h.row a ha x
  bl := h.bl.drew.setCell (p := ⟨g, a * 7 + 6, none⟩) hg _
set_option maxRecDepth 100000 in
set_option maxHeartbeats 8000000 in
theorem words_y (w : World) (FP : Nat → Prop) (p : Nat) (S : Lb) (mb : Nat) (v1 v3 : Value) (bx bY bz : Nat → Nat) (h : LbC w FP p S mb v1 v3 bx bY bz) (he : S.err = 0) (ak tk : Nat → Nat) (hjn : S.jn ≤ 1000000)
    (hj : ∀ k, k < S.jn → S.pl k = (ak k : Int) ∧ ak k < S.n ∧ (S.nm k).size ≤ maxLen ∧ Maps.has S.D (ky (S.nm k)) = true ∧ S.D.atKey (ky (S.nm k)) (.lit (.int .i64 0)) = .lit (.int .i64 (tk k : Int)) ∧ tk k ≤ 65536) :
    Calls Try.prog 22 #[.pointer (some ⟨p, 0, none⟩)] w fun e w' => ((∃ g, good (landF S ak tk S.jn) S.n ∧ e = .returned (.tuple #[.slice (some ⟨g, 0, none⟩) S.n S.n, .int .i64 0]) ∧ w.heap.size ≤ g ∧ w'.ownsRow 0 54 1 (.slice (some ⟨g, 0, none⟩) S.n S.n) S.n (ws (landF S ak tk S.jn) S.n)) ∨ (¬ good (landF S ak tk S.jn) S.n ∧ e = .returned (.tuple #[.slice none 0 0, .int .i64 7]))) ∧ Below w.heap.size w w' := by
  have H := Lib.hid h
  have HJ := Lib.hid hj
  have hfl := h.fl
  have hnl := h.nl
  obtain ⟨a1, cp1, rfl, _⟩ := own_form h.ins
  obtain ⟨a3, cp3, rfl, _⟩ := own_form h.jmp
  have c1 := rowAt_cell h.rw 1
  have c4 := rowAt_cell h.rw 4
  simp only [cellsL, he] at c1 c4
  have HCL := Lib.hid (clone_c w a1 S.n cp1 S.F h.ins (by omega))
  clear h hj
  go_enter Try.func22, Try.ntmps22
  go_wp2_with (go_at_call 81; refine HCL.out.mono ?_; rintro e w1 ⟨⟨v', rfl, ho1⟩, hb1⟩; obtain ⟨av, cv, rfl, _⟩ := own_form ho1; have hc1 := H.out.past hb1; have c31 := rowAt_cell hc1.rw 3; simp only [cellsL] at c31; have HI : Hid (WdI w FP p S mb _ _ bx bY bz (.slice av S.n cv) (landF S ak tk 0) w1) := Lib.hid ⟨hc1, ho1, hb1⟩; clear hc1 ho1 hb1)
  clear HCL c1 c4
  go_loopw [29] (fun s29 W => ∃ k : Nat, k ≤ S.jn ∧ s29 = .int .i64 k ∧ Hid (WdI w FP p S mb (.slice a1 S.n cp1) (.slice a3 S.jn cp3) bx bY bz (.slice av S.n cv) (landF S ak tk k) W)) (fun s29 _ => S.jn - (intOf s29).toNat)
  case atStart => exact ⟨0, Nat.zero_le _, rfl, HI⟩
  case round =>
    obtain ⟨k, hk, rfl, HIk⟩ := hrel
    by_cases hlt : k < S.jn
    · obtain ⟨hpl, han, hs, hh, ha, ht⟩ := HJ.out k hlt
      obtain ⟨g, cap', hv, hgb, hgl⟩ := HIk.out.row.form (by omega)
      injection hv with e1 e2 e3
      subst e1 e3
      obtain ⟨g3, cap3, hv3, _, _⟩ := HIk.out.lb.jmp.form (by omega)
      injection hv3 with e1 e2 e3
      subst e1 e3
      have cJ := (own_cells HIk.out.lb.jmp).1 k _ (jmpL_get bx bY bz S.jn k hlt)
      obtain ⟨bb1, bb2, bb3, _⟩ := HIk.out.lb.box k hlt
      rw [hpl] at bb3
      have cX : wr.drew.cell? ⟨bx k, 0, none⟩ = some (.pointer (some ⟨p, 0, none⟩)) := bb1.cell
      have cY : wr.drew.cell? ⟨bY k, 0, none⟩ = some (.string (S.nm k)) := bb2.cell
      have cZ : wr.drew.cell? ⟨bz k, 0, none⟩ = some (.int .i64 (ak k : Int)) := bb3.cell
      have c2 : wr.drew.cell? ⟨p, 2, none⟩ = some (.map (some mb)) := rowAt_cell HIk.out.lb.rw 2
      have hm : wr.drew.ownsMap Try.prog 9 (plainElem (H := Unit) Try.prog 3) mb S.cnt S.D := HIk.out.lb.map
      have cg : (wr.drew.cell? ⟨g, ak k * 7 + 6, none⟩).isSome = true := by
        have h6 := insL_at (landF S ak tk k) (ak k) 6 (by decide) S.n han
        have := (own_cells HIk.out.row).1 _ _ h6
        show (wr.cell? ⟨g, ak k * 7 + 6, none⟩).isSome = true
        rw [this]; rfl
      have fg : wr.drew.frozen? ⟨g, ak k * 7 + 6, none⟩ = false := (own_cells HIk.out.row).2 _
      have HL := Lib.hid (land_y wr (bx k) (bY k) (bz k) p mb S.cnt g S.n cv (ak k) (tk k : Int) (S.nm k) S.D cX c2 cY cZ hm hs hh ha (by omega) han (by omega) cg fg)
      have HN := Lib.hid (HIk.out.step (x := 4 * ((tk k : Int) - ak k)) hfl hgb han)
      clear cX cY cZ c2 hm cg fg bb1 bb2 bb3 hs hh ha hpl
      simp only [jmpV] at cJ
      go_wp2_with (go_at_call 107; refine HL.out.mono ?_; rintro e w2 ⟨rfl, rfl⟩)
      go_roundw
      case rel => exact ⟨k + 1, by omega, by go_num, HN⟩
      case measure => simp [intOf]; omega
    · obtain rfl : k = S.jn := by omega
      have HS := Lib.hid (src_of_own HIk.out.row)
      have HW := words_c av S.n cv (landF S ak tk S.jn) wr (by omega) HS
      by_cases hg : good (landF S ak tk S.jn) S.n
      · have HWy : Hid (Calls Try.prog 82 #[.slice av S.n cv] wr fun e w' => e = .returned (.tuple #[.slice (some ⟨wr.heap.size, 0, none⟩) S.n S.n, .int .i64 0]) ∧ w'.ownsRow wr.heap.size 54 1 (.slice (some ⟨wr.heap.size, 0, none⟩) S.n S.n) S.n (ws (landF S ak tk S.jn) S.n) ∧ Below wr.heap.size wr w') := Lib.hid (HW.mono fun e w' hh => by
          rcases hh.1 with ⟨_, h2, h3⟩ | ⟨h1, _⟩
          · exact ⟨h2, h3, hh.2⟩
          · exact absurd hg h1)
        have HG := Lib.hid hg
        clear HW hg
        go_wp2_with (go_at_call 82; refine HWy.out.mono ?_; rintro e w2 ⟨rfl, ho2, hb2⟩; have HO2 := Lib.hid ho2; have HB2 := Lib.hid hb2; clear ho2 hb2)
        go_ret2
        refine ⟨.inl ⟨wr.heap.size, HG.out, rfl, HIk.out.bl.size, ⟨HO2.out.1, ?_⟩⟩, HIk.out.bl.trans (HB2.out.mono HIk.out.bl.size)⟩
        rcases HO2.out.2 with h1 | ⟨g, cap, cur, h1, _, h3⟩
        · exact .inl h1
        · exact .inr ⟨g, cap, cur, h1, Nat.zero_le _, h3⟩
      · have HWn : Hid (Calls Try.prog 82 #[.slice av S.n cv] wr fun e w' => e = .returned (.tuple #[.slice none 0 0, .int .i64 1]) ∧ Below wr.heap.size wr w') := Lib.hid (HW.mono fun e w' hh => by
          rcases hh.1 with ⟨h1, _⟩ | ⟨_, h2⟩
          · exact absurd h1 hg
          · exact ⟨h2, hh.2⟩)
        have HG := Lib.hid hg
        clear HW hg
        go_wp2_with (go_at_call 82; refine HWn.out.mono ?_; rintro e w2 ⟨rfl, hb2⟩; have HB2 := Lib.hid hb2; clear hb2)
        go_ret2
        exact ⟨.inr ⟨HG.out, rfl⟩, HIk.out.bl.trans (HB2.out.mono HIk.out.bl.size)⟩
end Go.Proofs.Ytnbpgoacooddjaa.Lab
