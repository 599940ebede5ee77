import Derived.StillTailTactics
import Derived.Deep.LoopGhost
import Derived.Laws.BitsLemmas
import Derived.IntWalk
import Derived.Laws.BitsAllLaws
import Derived.Deep.DrawnRows
import Derived.Test.YtpiafgmncfibmaaVl
import Derived.Test.YtpiafgmncfibmaaRows
import Derived.WalkKit
import Derived.ProofKit
import Derived.OpenShut
import Derived.Deep.QuietTactic
import Derived.BigQuiet
import Derived.Outline
import Derived.WalkSmall
import Derived.WalkLawsBesides
import Derived.WalkSpells
import Derived.BigGuardPart
import Derived.RegionTactic
import Derived.Deep.RegionHeld3
import Derived.Lib.Hide
import Derived.Deep.MidRow
import Derived.Below
import Derived.Deep.RegionWith
import Derived.Deep.OwnRows
import Derived.Deep.AppendLies
import Derived.Deep.RegionLaw
import Derived.Deep.CutBlock
import Derived.Deep.DeepCutAuto
namespace Go.Proofs.Ytpiafgmncfibmaa.Vf
open Go.ChangeShapes Go.WideShapes Go.ChangeAt Go.RowKit
set_option linter.unusedVariables false

/-! ### Each bytecode's operands -/
/-- What is wrong with the operands at a place. -/
def chkB (P : Pg) (m n : Nat) (D : Nat → Nat) (O : Nat → Bool) (k : Nat) : Int :=
  if O k = true then (if nmB P m (D k) (opA D k) (opB D k) = false then 24 else if jumpB (D k) = true ∧ ¬ (0 ≤ (k : Int) + opA D k ∧ (k : Int) + opA D k < n ∧ O ((k : Int) + opA D k).toNat = true) then 23 else 0) else 0
def chkR (P : Pg) (m n : Nat) (D : Nat → Nat) (O : Nat → Bool) : Nat × Int := match (List.range n).find? fun k => chkB P m n D O k != 0 with
  | some k => (k, chkB P m n D O k)
  | none => (0, 0)
theorem chkR_some {P : Pg} {m n : Nat} {D : Nat → Nat} {O : Nat → Bool} {k : Nat} (hk : k < n) (h1 : chkB P m n D O k ≠ 0) (h2 : ∀ i, i < k → chkB P m n D O i = 0) : chkR P m n D O = (k, chkB P m n D O k) := by
  unfold chkR
  rw [find_range hk (by simpa using h1) (fun i hi => by simpa using h2 i hi)]
theorem chkR_none {P : Pg} {m n : Nat} {D : Nat → Nat} {O : Nat → Bool} (h : ∀ i, i < n → chkB P m n D O i = 0) : chkR P m n D O = (0, 0) := by
  unfold chkR
  rw [List.find?_eq_none.2 (fun i hi => by simpa using h i (List.mem_range.1 hi))]
theorem chkR_zero {P : Pg} {m n : Nat} {D : Nat → Nat} {O : Nat → Bool} (h : (chkR P m n D O).2 = 0) : ∀ i, i < n → chkB P m n D O i = 0 := by
  intro i hi
  refine Classical.byContradiction fun hne => ?_
  have : ∃ k, k < n ∧ chkB P m n D O k ≠ 0 ∧ ∀ j, j < k → chkB P m n D O j = 0 := by
    induction i using Nat.strongRecOn with
    | ind i ih =>
      by_cases hx : ∀ j, j < i → chkB P m n D O j = 0
      · exact ⟨i, hi, hne, hx⟩
      · obtain ⟨j, hj⟩ := Classical.not_forall.1 hx
        obtain ⟨hj1, hj2⟩ := Classical.not_imp.1 hj
        exact ih j hj1 (by omega) hj2
  obtain ⟨k, hk, h1, h2⟩ := this
  rw [chkR_some hk h1 h2] at h
  exact h1 h
def ChkP (K : Fk) (O : Nat → Bool) (w : World) (e : Ending) (w' : World) : Prop := e = .returned (.tuple #[.int .i64 ((chkR K.P K.m K.n K.D O).1 : Nat), .int .i64 (chkR K.P K.m K.n K.D O).2]) ∧ Below w.heap.size w w'
theorem opA_bd (D : Nat → Nat) (k : Nat) (h : ∀ i, D i < 256) : -32768 ≤ opA D k ∧ opA D k ≤ 32767 := by
  unfold opA
  split
  · omega
  split
  · exact wrap8_bd _
  split
  · exact wrap16_bd _
  · have := h (k + 1); omega
set_option maxRecDepth 100000 in
set_option maxHeartbeats 8000000 in
theorem checkOps_c (K : Fk) (hK : FkOk K) (O : Nat → Bool) (F : Fl) (X : Fx) (lo : Nat) (w : World) (h : FlC K w O F X lo) (hb : ∀ k, k < K.n → O k = true → -32768 ≤ opA K.D k ∧ opA K.D k ≤ 32767) : Calls Try.prog 94 #[.pointer (some ⟨K.f, 0, none⟩)] w (ChkP K O w) := by
  have HF := Lib.hid h
  have HK := Lib.hid hK
  have n1 := hK.n1
  have n0 := hK.n0
  have HBd := Lib.hid hb
  have HEnd : Hid (∀ k e V, Below w.heap.size w V → chkR K.P K.m K.n K.D O = (k, e) → ChkP K O w (.returned (.tuple #[.int .i64 (k : Nat), .int .i64 e])) V) := Lib.hid fun k e V h1 h2 => ⟨by rw [h2], h1⟩
  have f5 : w.cell? ⟨K.f, 5, none⟩ = some (.slice (some ⟨K.ro, 0, none⟩) K.n K.n) := HF.out.f.cell 5
  clear h hK hb
  go_enter Try.func94, Try.ntmps94
  go_wp2_with fail
  clear f5
  go_loopw [11] (fun i wr => ∃ k : Nat, k ≤ K.n ∧ i = .int .i64 k ∧ Hid (Below w.heap.size w wr) ∧ Hid (∀ j, j < k → chkB K.P K.m K.n K.D O j = 0)) (fun i _ => K.n - (intOf i).toNat)
  case atStart => exact ⟨0, Nat.zero_le _, rfl, Lib.hid (Below.refl _ _), Lib.hid fun j hj => by omega⟩
  case round =>
    obtain ⟨k, hk, rfl, HW, HZ⟩ := hrel
    by_cases hkn : k < K.n
    · have hki : (k : Int) < K.n := by omega
      have HG : Hid (FlC K wr O F X lo) := Lib.hid (HF.out.below HW.out)
      cases hO : O k with
      | false =>
        have HO : Hid (chkB K.P K.m K.n K.D O k = 0) := Lib.hid (by unfold chkB; rw [hO]; rfl)
        have x0 : wr.cell? ⟨K.ro, k * 4, none⟩ = some (.int .i64 0) := (HG.out.o.cell (j := 0) hkn (by omega)).trans (by unfold opF; rw [hO]; rfl)
        have x1 : wr.cell? ⟨K.ro, k * 4 + 1, none⟩ = some (.int .i64 0) := (HG.out.o.cell (j := 1) hkn (by omega)).trans (by unfold opF; rw [hO]; rfl)
        have x2 : wr.cell? ⟨K.ro, k * 4 + 2, none⟩ = some (.int .i64 0) := (HG.out.o.cell (j := 2) hkn (by omega)).trans (by unfold opF; rw [hO]; rfl)
        have x3 : wr.cell? ⟨K.ro, k * 4 + 3, none⟩ = some (.int .i64 0) := (HG.out.o.cell (j := 3) hkn (by omega)).trans (by unfold opF; rw [hO]; rfl)
        clear hO
        go_wp2
        exact ⟨⟨k + 1, by omega, by go_num, Lib.hid (HW.out.alloc HW.out.size _), Lib.hid fun j hj => by
          by_cases hjk : j = k
          · subst hjk; exact HO.out
          · exact HZ.out j (by omega)⟩, by simp [intOf]; omega⟩
      | true =>
        have HOt := Lib.hid hO
        have x0 : wr.cell? ⟨K.ro, k * 4, none⟩ = some (.int .i64 (K.D k : Nat)) := (HG.out.o.cell (j := 0) hkn (by omega)).trans (by unfold opF; rw [hO]; rfl)
        have x1 : wr.cell? ⟨K.ro, k * 4 + 1, none⟩ = some (.int .i64 (opA K.D k)) := (HG.out.o.cell (j := 1) hkn (by omega)).trans (by unfold opF; rw [hO]; rfl)
        have x2 : wr.cell? ⟨K.ro, k * 4 + 2, none⟩ = some (.int .i64 (opB K.D k)) := (HG.out.o.cell (j := 2) hkn (by omega)).trans (by unfold opF; rw [hO]; rfl)
        have x3 : wr.cell? ⟨K.ro, k * 4 + 3, none⟩ = some (.int .i64 (szK (kindO (K.D k)) : Nat)) := (HG.out.o.cell (j := 3) hkn (by omega)).trans (by unfold opF; rw [hO]; rfl)
        have hsz := szK_bd (kindO (K.D k))
        obtain ⟨hA0, hA1⟩ := HBd.out k hkn hO
        have HOu : Hid (chkB K.P K.m K.n K.D O k = if nmB K.P K.m (K.D k) (opA K.D k) (opB K.D k) = false then 24 else if jumpB (K.D k) = true ∧ ¬ (0 ≤ (k : Int) + opA K.D k ∧ (k : Int) + opA K.D k < K.n ∧ O ((k : Int) + opA K.D k).toNat = true) then 23 else 0) := Lib.hid (if_pos hO)
        have HNm : Hid (∀ V, Below w.heap.size w V → Calls Try.prog 69 #[.agg #[.slice K.A.pa K.P.np K.A.pc, .slice K.A.ca K.P.nc K.A.cc, .slice K.A.ma K.P.nm K.A.mc], .int .i64 K.m, .agg #[.int .i64 (K.D k : Nat), .int .i64 (opA K.D k), .int .i64 (opB K.D k), .int .i64 (szK (kindO (K.D k)) : Nat)]] V fun e w' => e = .returned (.bool (nmB K.P K.m (K.D k) (opA K.D k) (opB K.D k))) ∧ Below V.heap.size V w') := Lib.hid fun V hV => names_c K.P K.A K.m (K.D k) (opA K.D k) (opB K.D k) _ V (HK.out.at'.kept (Kept.of (HF.out.b.trans (hV.mono HF.out.b.size)))) HK.out.fit HK.out.m
        have HBg : Hid (∀ V p, Below w.heap.size w V → Calls Try.prog 118 #[.pointer (some ⟨K.f, 0, none⟩), .int .i64 p] V fun e w' => e = .returned (.bool (decide (0 ≤ p ∧ p < K.n ∧ O p.toNat = true))) ∧ w' = V) := Lib.hid fun V p hV => begins_c K HK.out O F X lo V (HF.out.below hV) p
        clear hO
        obtain ⟨W1, hW1⟩ : ∃ q, q = wr.alloc (.cells #[.int .i64 (K.D k : Nat), .int .i64 (opA K.D k), .int .i64 (opB K.D k), .int .i64 (szK (kindO (K.D k)) : Nat)] 74) := ⟨_, rfl⟩
        have HB1 : Hid (Bx W1 wr.heap.size #[.int .i64 (K.D k : Nat), .int .i64 (opA K.D k), .int .i64 (opB K.D k), .int .i64 (szK (kindO (K.D k)) : Nat)] 74 ∧ Below w.heap.size w W1) := Lib.hid (by rw [hW1]; exact ⟨Bx.new _ _ _, HW.out.alloc HW.out.size _⟩)
        have HW1 := Lib.hid hW1
        clear hW1
        go_upto_region 4 with fail
        rw [← HW1.out]
        clear x0 x1 x2 x3
        have b0 : W1.cell? ⟨wr.heap.size, 0, none⟩ = some (.int .i64 (K.D k : Nat)) := HB1.out.1.cell 0
        have b1 : W1.cell? ⟨wr.heap.size, 1, none⟩ = some (.int .i64 (opA K.D k)) := HB1.out.1.cell 1
        have b2 : W1.cell? ⟨wr.heap.size, 2, none⟩ = some (.int .i64 (opB K.D k)) := HB1.out.1.cell 2
        have b3 : W1.cell? ⟨wr.heap.size, 3, none⟩ = some (.int .i64 (szK (kindO (K.D k)) : Nat)) := HB1.out.1.cell 3
        have HF1 : Hid (FlC K W1 O F X lo) := Lib.hid (HF.out.below HB1.out.2)
        have f0 : W1.cell? ⟨K.f, 0, none⟩ = some (.slice K.A.pa K.P.np K.A.pc) := HF1.out.f.cell 0
        have f1 : W1.cell? ⟨K.f, 1, none⟩ = some (.slice K.A.ca K.P.nc K.A.cc) := HF1.out.f.cell 1
        have f2 : W1.cell? ⟨K.f, 2, none⟩ = some (.slice K.A.ma K.P.nm K.A.mc) := HF1.out.f.cell 2
        have f3 : W1.cell? ⟨K.f, 3, none⟩ = some (.int .i64 K.m) := HF1.out.f.cell 3
        have dz : ((szK (kindO (K.D k)) : Int) == 0) = false := by simpa using (show ¬ (szK (kindO (K.D k)) : Int) = 0 by omega)
        go_wp2_with fail
        go_still_tail 9, (by kernel_rfl)
        go_wp2_with fail
        cases hnm : nmB K.P K.m (K.D k) (opA K.D k) (opB K.D k) with
        | false =>
          have HN2 : Hid (chkR K.P K.m K.n K.D O = (k, 24)) := Lib.hid (by
            have h1 : chkB K.P K.m K.n K.D O k = 24 := HOu.out.trans (if_pos hnm)
            rw [chkR_some hkn (by rw [h1]; decide) HZ.out, h1])
          refine ((hnm ▸ HNm.out _ HB1.out.2.drew)).mono ?_
          rintro e W2 ⟨rfl, hb2⟩
          have HB2 := Lib.hid (HB1.out.2.drew.trans (hb2.mono HB1.out.2.size))
          clear hnm hb2
          go_wp2
          go_ret2
          exact HEnd.out k 24 _ HB2.out HN2.out
        | true =>
          have HOv : Hid (chkB K.P K.m K.n K.D O k = if jumpB (K.D k) = true ∧ ¬ (0 ≤ (k : Int) + opA K.D k ∧ (k : Int) + opA K.D k < K.n ∧ O ((k : Int) + opA K.D k).toNat = true) then 23 else 0) := Lib.hid (HOu.out.trans (if_neg (by rw [hnm]; decide)))
          refine ((hnm ▸ HNm.out _ HB1.out.2.drew)).mono ?_
          rintro e W2 ⟨rfl, hb2⟩
          have HB2 : Hid (Bx W2 wr.heap.size #[.int .i64 (K.D k : Nat), .int .i64 (opA K.D k), .int .i64 (opB K.D k), .int .i64 (szK (kindO (K.D k)) : Nat)] 74 ∧ Below w.heap.size w W2) := Lib.hid ⟨(HB1.out.1.below (Below.refl _ _).drew).below hb2, HB1.out.2.drew.trans (hb2.mono HB1.out.2.size)⟩
          clear hnm hb2 b0 b1 b2 b3 f0 f1 f2 f3
          have b0 : W2.cell? ⟨wr.heap.size, 0, none⟩ = some (.int .i64 (K.D k : Nat)) := HB2.out.1.cell 0
          have b1 : W2.cell? ⟨wr.heap.size, 1, none⟩ = some (.int .i64 (opA K.D k)) := HB2.out.1.cell 1
          have hw : IntKind.i64.wrap ((k : Int) + opA K.D k) = (k : Int) + opA K.D k := by rw [IntKind.wrap_i64]; omega
          cases hj : jumpB (K.D k) with
          | false =>
            have HJ : Hid (∀ V, Calls Try.prog 117 #[.int .i64 (K.D k : Nat)] V fun e w' => e = .returned (.bool false) ∧ w' = V) := Lib.hid fun V => hj ▸ jumps_c (K.D k) V
            have HO : Hid (chkB K.P K.m K.n K.D O k = 0) := Lib.hid (HOv.out.trans (if_neg (by rw [hj]; simp)))
            clear hj
            go_wp2_with (first | (go_at_call 117; refine (HJ.out _).mono ?_; rintro e w1 ⟨rfl, hww⟩; obtain rfl := hww.symm))
            exact ⟨⟨k + 1, by omega, by go_num, Lib.hid HB2.out.2, Lib.hid fun j hj => by
              by_cases hjk : j = k
              · subst hjk; exact HO.out
              · exact HZ.out j (by omega)⟩, by simp [intOf]; omega⟩
          | true =>
            have HJ : Hid (∀ V, Calls Try.prog 117 #[.int .i64 (K.D k : Nat)] V fun e w' => e = .returned (.bool true) ∧ w' = V) := Lib.hid fun V => hj ▸ jumps_c (K.D k) V
            by_cases hbg : 0 ≤ (k : Int) + opA K.D k ∧ (k : Int) + opA K.D k < K.n ∧ O ((k : Int) + opA K.D k).toNat = true
            · have HBg2 : Hid (∀ V, Below w.heap.size w V → Calls Try.prog 118 #[.pointer (some ⟨K.f, 0, none⟩), .int .i64 ((k : Int) + opA K.D k)] V fun e w' => e = .returned (.bool true) ∧ w' = V) := Lib.hid fun V hV => decide_eq_true hbg ▸ HBg.out V _ hV
              have HO : Hid (chkB K.P K.m K.n K.D O k = 0) := Lib.hid (HOv.out.trans (if_neg (fun q => q.2 hbg)))
              clear hj hbg
              go_wp2_with (first | (go_at_call 117; refine (HJ.out _).mono ?_; rintro e w1 ⟨rfl, hww⟩; obtain rfl := hww.symm) | (go_at_call 118; refine (HBg2.out _ HB2.out.2).mono ?_; rintro e w1 ⟨rfl, hww⟩; obtain rfl := hww.symm))
              exact ⟨⟨k + 1, by omega, by go_num, Lib.hid HB2.out.2, Lib.hid fun j hj => by
                by_cases hjk : j = k
                · subst hjk; exact HO.out
                · exact HZ.out j (by omega)⟩, by simp [intOf]; omega⟩
            · have HBg2 : Hid (∀ V, Below w.heap.size w V → Calls Try.prog 118 #[.pointer (some ⟨K.f, 0, none⟩), .int .i64 ((k : Int) + opA K.D k)] V fun e w' => e = .returned (.bool false) ∧ w' = V) := Lib.hid fun V hV => decide_eq_false hbg ▸ HBg.out V _ hV
              have HN2 : Hid (chkR K.P K.m K.n K.D O = (k, 23)) := Lib.hid (by
                have h1 : chkB K.P K.m K.n K.D O k = 23 := HOv.out.trans (if_pos ⟨hj, hbg⟩)
                rw [chkR_some hkn (by rw [h1]; decide) HZ.out, h1])
              clear hj hbg
              go_wp2_with (first | (go_at_call 117; refine (HJ.out _).mono ?_; rintro e w1 ⟨rfl, hww⟩; obtain rfl := hww.symm) | (go_at_call 118; refine (HBg2.out _ HB2.out.2).mono ?_; rintro e w1 ⟨rfl, hww⟩; obtain rfl := hww.symm))
              go_ret2
              exact HEnd.out k 23 _ HB2.out.2 HN2.out
    · have hnk : K.n = k := by omega
      have HN2 : Hid (chkR K.P K.m K.n K.D O = (0, 0)) := Lib.hid (chkR_none fun i hi => HZ.out i (by omega))
      have d1 : decide (k < K.n) = false := decide_eq_false hkn
      have d2 : decide ((k : Int) < (K.n : Int)) = false := decide_eq_false (by omega)
      clear hnk
      go_wp2
      go_ret2
      exact HEnd.out 0 0 _ HW.out HN2.out
end Go.Proofs.Ytpiafgmncfibmaa.Vf
