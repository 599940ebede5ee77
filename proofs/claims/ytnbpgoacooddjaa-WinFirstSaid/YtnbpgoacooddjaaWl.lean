import Derived.WalkKit
import Derived.ProofKit
import Derived.OpenShut
import Derived.Deep.QuietTactic
import Derived.BigQuiet
import Derived.Outline
import Derived.WalkSmall
import Derived.WalkLawsBesides
import Derived.WalkSpells
import Derived.BigGuardPart
import Derived.RegionTactic
import Derived.Deep.RegionHeld3
import Derived.Lib.Hide
import Derived.Deep.MidRow
import Derived.Below
import Derived.Deep.RegionWith
import Derived.Deep.OwnRows
import Derived.Deep.AppendLies
import Derived.Deep.RegionLaw
import Derived.Laws.BitsAllLaws
import Derived.Laws.BitsLemmas
import Derived.Deep.CutBlock
import Derived.Deep.DeepCutAuto
import Derived.Deep.CutRange
import Derived.Test.YtnbpgoacooddjaaWj
namespace Go.Proofs.Ytnbpgoacooddjaa
open Go.ChangeShapes Go.WideShapes Go.ChangeAt Go.RowKit
set_option linter.unusedVariables false
attribute [local go_sem] rowAt_drew rowAt_drewN
def placeB (oi oj : Int) (aj tp : Option Int) (fw : Bool) : Bool :=
  if memB oj = false ∨ (memB oi = false ∧ oi ≠ 40) then false else
  match aj with
  | none => true
  | some a => match tp with
    | none => false
    | some t => if oi = 40 then (storeB oj && a / 64 == t / 64) else (a / 8 == t / 8 && !fw)
theorem tr_view {w : World} {x b off n cap g m : Nat} {r : Rg} {I : WI} {tp : Option Int} {fw : Bool} (h : rowAt w x = some (trA (vwA b off n cap r g m) I tp fw)) : (Instr.loadAt 126 (.pointer (some ⟨x, 0, none⟩))).run Try.prog w = .ok (.agg (vwA b off n cap r g m)) w :=
  load_mid Try.underlying126 rfl _ 0 _ (by rw [vwA_size]; exact info126) w (fun k v hv => by
    have hk : k < 38 := by have := (Array.getElem?_eq_some_iff.1 hv).1; rw [vwA_size] at this; exact this
    rw [Nat.zero_add, rowAt_cell h, trA_lo (vwA_size _ _ _ _ _ _ _) _ _ _ _ hk]
    exact hv)
set_option maxRecDepth 100000 in
set_option maxHeartbeats 8000000 in
theorem place_c (F : Nat → WI) (I : WI) (r : Rg) (b off n cap g m j : Nat) (tp : Option Int) (fw : Bool) (w : World) (HW : Hid (WnC w b off n F)) (HO : Hid (OutC fOf F w g m)) (hr : r.within) (hF : ∀ j, j < n → (F j).r.within) (htp : ∀ t, tp = some t → 0 ≤ t ∧ t < 18446744073709551616) (hj : j ≤ m) (hjn : j < n) (hm : m ≤ n) (hn : n ≤ 1000000) :
    Calls Try.prog 76 #[.agg (trA (vwA b off n cap r g m) I tp fw), .int .i64 j] w fun e w' => e = .returned (.bool (placeB I.op (F j).op (adS fOf F r j) tp fw)) ∧ Below w.heap.size w w' := by
  have HTP := Lib.hid htp
  have HBD : Hid (∀ a, adS fOf F r j = some a → 0 ≤ a ∧ a < 18446744073709551616) := Lib.hid (fun a ha => adS_bd F r hr j (fun k hk => hF k (by omega)) a ha)
  have hvs := vwA_size b off n cap r g m
  have HT0 : Hid ((trA (vwA b off n cap r g m) I tp fw)[0]? = some (.slice (some ⟨b, off, none⟩) n cap)) := Lib.hid (trA_0 _ _ _ _ _ _ _ _ _ _)
  have HT38 : Hid ((trA (vwA b off n cap r g m) I tp fw)[38]? = some (.int .i64 I.op)) := Lib.hid (trA_in hvs I tp fw 0 (by decide))
  have HT45 : Hid ((trA (vwA b off n cap r g m) I tp fw)[45]? = some (.int .u64 (tp.getD 0))) := Lib.hid (trA_to hvs I tp fw 0)
  have HT46 : Hid ((trA (vwA b off n cap r g m) I tp fw)[46]? = some (.bool tp.isSome)) := Lib.hid (trA_to hvs I tp fw 1)
  have HT47 : Hid ((trA (vwA b off n cap r g m) I tp fw)[47]? = some (.bool fw)) := Lib.hid (trA_to hvs I tp fw 2)
  have HB : Hid (rowAt (w.alloc (.cells (trA (vwA b off n cap r g m) I tp fw) 136)) w.heap.size = some (trA (vwA b off n cap r g m) I tp fw)) := Lib.hid (rowAt_new _ _ _)
  have HL : Hid (Below w.heap.size w (w.alloc (.cells (trA (vwA b off n cap r g m) I tp fw) 136))) := Lib.hid ((Below.refl _ _).alloc (Nat.le_refl _) _)
  have HAD : Hid (Calls Try.prog 78 #[.agg (vwA b off n cap r g m), .int .i64 j] (w.alloc (.cells (trA (vwA b off n cap r g m) I tp fw) 136)) (ValP (adS fOf F r j) (w.alloc (.cells (trA (vwA b off n cap r g m) I tp fw) 136)))) := Lib.hid (addr_c F r b off n cap g m j _ (Lib.hid (HW.out.below HL.out)) (Lib.hid (HO.out.below HL.out)) hj hjn hm hn)
  have HBt := HB.out
  have c0 := (rowAt_cell HBt 0).trans HT0.out
  have c38 := (rowAt_cell HBt 38).trans HT38.out
  have co := ((HW.out.below HL.out).ins j hjn).1
  have HM := Lib.hid (memory_c I.op)
  have HMj := Lib.hid (memory_c (F j).op)
  have HST := Lib.hid (store_c (F j).op)
  clear hvs htp hr hF
  go_enter Try.func76, Try.ntmps76
  go_upto_region 2 with (fail)
  clear co c0 c38
  have c38 := (rowAt_cell HBt 38).trans HT38.out
  generalize (w.alloc (.cells (trA (vwA b off n cap r g m) I tp fw) 136)) = U at HB HL HAD HBt c38 ⊢
  cases hj1 : memB (F j).op
  · rw [hj1] at HMj
    have HV : Hid (placeB I.op (F j).op (adS fOf F r j) tp fw = false) := Lib.hid (by unfold placeB; rw [if_pos (.inl hj1)])
    clear hj1
    go_wp2_with (first | (go_at_call 154; (with_reducible refine (HMj.out _).mono ?_); rintro e w' ⟨rfl, rfl⟩) | (go_at_call 154; (with_reducible refine (HM.out _).mono ?_); rintro e w' ⟨rfl, rfl⟩))
    go_ret
    exact ⟨by rw [HV.out]; rfl, HL.out⟩
  · rw [hj1] at HMj
    by_cases hno : memB I.op = false ∧ I.op ≠ 40
    · obtain ⟨h1, h2⟩ := hno
      have e40 : (I.op != 40) = true := by simpa using h2
      rw [h1] at HM
      have HV : Hid (placeB I.op (F j).op (adS fOf F r j) tp fw = false) := Lib.hid (by unfold placeB; rw [if_pos (.inr ⟨h1, h2⟩)])
      clear h1 h2 hj1
      go_wp2_with (first | (go_at_call 154; (with_reducible refine (HMj.out _).mono ?_); rintro e w' ⟨rfl, rfl⟩) | (go_at_call 154; (with_reducible refine (HM.out _).mono ?_); rintro e w' ⟨rfl, rfl⟩))
      go_ret
      exact ⟨by rw [HV.out]; rfl, HL.out⟩
    · have HN : Hid (¬ (memB (F j).op = false ∨ (memB I.op = false ∧ I.op ≠ 40))) := Lib.hid (fun h => h.elim (fun h => by rw [hj1] at h; cases h) hno)
      have k1 : (memB I.op = true ∧ (I.op == 40) = false ∧ I.op ≠ 40) ∨ (memB I.op = false ∧ (I.op != 40) = false ∧ (I.op == 40) = true ∧ I.op = 40) := by
        cases hm : memB I.op
        · by_cases h4 : I.op = 40
          · exact .inr ⟨rfl, by simp [h4], by simp [h4], h4⟩
          · exact absurd ⟨hm, h4⟩ hno
        · refine .inl ⟨rfl, ?_⟩
          by_cases h4 : I.op = 40
          · rw [h4] at hm; cases hm
          · exact ⟨by simpa using h4, h4⟩
      clear hno hj1
      cases ha : adS fOf F r j with
      | none =>
        rw [ha] at HAD
        have HV : Hid (placeB I.op (F j).op (adS fOf F r j) tp fw = true) := Lib.hid (by unfold placeB; rw [if_neg HN.out, ha])
        clear ha
        rcases k1 with ⟨k1, e4, h4⟩ | ⟨k1, e5, e4, h4⟩ <;> clear h4
        all_goals
          rw [k1] at HM
          clear k1
          go_wp2_with (first | (go_at_call 154; (with_reducible refine (HMj.out _).mono ?_); rintro e w' ⟨rfl, rfl⟩) | (go_at_call 154; (with_reducible refine (HM.out _).mono ?_); rintro e w' ⟨rfl, rfl⟩) | (refine wpl_load rfl 126 _ rfl w.heap.size 0 rfl (vwA b off n cap r g m) (tr_view HBt) ?_) | (go_at_call 78; refine (HAD.out).mono ?_; rintro e w2 ⟨rfl, hb⟩; have HB2 := Lib.hid (rowAt_below HBt hb rfl); have HL2 := Lib.hid (below_step HL.out hb rfl rfl rfl rfl); clear hb; have d38 : w2.cell? ⟨w.heap.size, 38, none⟩ = some (.int .i64 I.op) := (rowAt_cell HB2.out 38).trans HT38.out; have d45 : w2.cell? ⟨w.heap.size, 45, none⟩ = some _ := (rowAt_cell HB2.out 45).trans HT45.out; have d46 : w2.cell? ⟨w.heap.size, 46, none⟩ = some _ := (rowAt_cell HB2.out 46).trans HT46.out; have d47 : w2.cell? ⟨w.heap.size, 47, none⟩ = some (.bool fw) := (rowAt_cell HB2.out 47).trans HT47.out) | (go_at_call 155; refine (HST.out _).mono ?_; rintro e w' ⟨rfl, rfl⟩))
          go_ret
          exact ⟨by rw [HV.out]; rfl, HL2.out⟩
      | some a =>
        obtain ⟨a1, a2⟩ := HBD.out a ha
        rw [ha] at HAD
        cases tp with
        | none =>
          have HV : Hid (placeB I.op (F j).op (adS fOf F r j) none fw = false) := Lib.hid (by unfold placeB; rw [if_neg HN.out, ha])
          clear ha
          rcases k1 with ⟨k1, e4, h4⟩ | ⟨k1, e5, e4, h4⟩ <;> clear h4
          all_goals
            rw [k1] at HM
            clear k1
            go_wp2_with (first | (go_at_call 154; (with_reducible refine (HMj.out _).mono ?_); rintro e w' ⟨rfl, rfl⟩) | (go_at_call 154; (with_reducible refine (HM.out _).mono ?_); rintro e w' ⟨rfl, rfl⟩) | (refine wpl_load rfl 126 _ rfl w.heap.size 0 rfl (vwA b off n cap r g m) (tr_view HBt) ?_) | (go_at_call 78; refine (HAD.out).mono ?_; rintro e w2 ⟨rfl, hb⟩; have HB2 := Lib.hid (rowAt_below HBt hb rfl); have HL2 := Lib.hid (below_step HL.out hb rfl rfl rfl rfl); clear hb; have d38 : w2.cell? ⟨w.heap.size, 38, none⟩ = some (.int .i64 I.op) := (rowAt_cell HB2.out 38).trans HT38.out; have d45 : w2.cell? ⟨w.heap.size, 45, none⟩ = some _ := (rowAt_cell HB2.out 45).trans HT45.out; have d46 : w2.cell? ⟨w.heap.size, 46, none⟩ = some _ := (rowAt_cell HB2.out 46).trans HT46.out; have d47 : w2.cell? ⟨w.heap.size, 47, none⟩ = some (.bool fw) := (rowAt_cell HB2.out 47).trans HT47.out) | (go_at_call 155; refine (HST.out _).mono ?_; rintro e w' ⟨rfl, rfl⟩))
            go_ret
            exact ⟨by rw [HV.out]; rfl, HL2.out⟩
        | some t =>
          obtain ⟨t1, t2⟩ := HTP.out t rfl
          rcases k1 with ⟨k1, e4, h4⟩ | ⟨k1, e5, e4, h4⟩
          · rw [k1] at HM
            cases hg : (a / 8 == t / 8)
            · have HV : Hid (placeB I.op (F j).op (adS fOf F r j) (some t) fw = false) := Lib.hid (by unfold placeB; rw [if_neg HN.out, ha]; simp only; rw [if_neg h4, hg]; rfl)
              clear ha h4 k1
              go_wp2_with (first | (go_at_call 154; (with_reducible refine (HMj.out _).mono ?_); rintro e w' ⟨rfl, rfl⟩) | (go_at_call 154; (with_reducible refine (HM.out _).mono ?_); rintro e w' ⟨rfl, rfl⟩) | (refine wpl_load rfl 126 _ rfl w.heap.size 0 rfl (vwA b off n cap r g m) (tr_view HBt) ?_) | (go_at_call 78; refine (HAD.out).mono ?_; rintro e w2 ⟨rfl, hb⟩; have HB2 := Lib.hid (rowAt_below HBt hb rfl); have HL2 := Lib.hid (below_step HL.out hb rfl rfl rfl rfl); clear hb; have d38 : w2.cell? ⟨w.heap.size, 38, none⟩ = some (.int .i64 I.op) := (rowAt_cell HB2.out 38).trans HT38.out; have d45 : w2.cell? ⟨w.heap.size, 45, none⟩ = some _ := (rowAt_cell HB2.out 45).trans HT45.out; have d46 : w2.cell? ⟨w.heap.size, 46, none⟩ = some _ := (rowAt_cell HB2.out 46).trans HT46.out; have d47 : w2.cell? ⟨w.heap.size, 47, none⟩ = some (.bool fw) := (rowAt_cell HB2.out 47).trans HT47.out) | (go_at_call 155; refine (HST.out _).mono ?_; rintro e w' ⟨rfl, rfl⟩))
              go_ret
              exact ⟨by rw [HV.out]; rfl, HL2.out⟩
            · have HV : Hid (placeB I.op (F j).op (adS fOf F r j) (some t) fw = !fw) := Lib.hid (by unfold placeB; rw [if_neg HN.out, ha]; simp only; rw [if_neg h4, hg]; rfl)
              clear ha h4 k1
              go_wp2_with (first | (go_at_call 154; (with_reducible refine (HMj.out _).mono ?_); rintro e w' ⟨rfl, rfl⟩) | (go_at_call 154; (with_reducible refine (HM.out _).mono ?_); rintro e w' ⟨rfl, rfl⟩) | (refine wpl_load rfl 126 _ rfl w.heap.size 0 rfl (vwA b off n cap r g m) (tr_view HBt) ?_) | (go_at_call 78; refine (HAD.out).mono ?_; rintro e w2 ⟨rfl, hb⟩; have HB2 := Lib.hid (rowAt_below HBt hb rfl); have HL2 := Lib.hid (below_step HL.out hb rfl rfl rfl rfl); clear hb; have d38 : w2.cell? ⟨w.heap.size, 38, none⟩ = some (.int .i64 I.op) := (rowAt_cell HB2.out 38).trans HT38.out; have d45 : w2.cell? ⟨w.heap.size, 45, none⟩ = some _ := (rowAt_cell HB2.out 45).trans HT45.out; have d46 : w2.cell? ⟨w.heap.size, 46, none⟩ = some _ := (rowAt_cell HB2.out 46).trans HT46.out; have d47 : w2.cell? ⟨w.heap.size, 47, none⟩ = some (.bool fw) := (rowAt_cell HB2.out 47).trans HT47.out) | (go_at_call 155; refine (HST.out _).mono ?_; rintro e w' ⟨rfl, rfl⟩))
              go_ret
              exact ⟨by rw [HV.out]; rfl, HL2.out⟩
          · rw [k1] at HM
            cases hs : storeB (F j).op
            · rw [hs] at HST
              have HV : Hid (placeB I.op (F j).op (adS fOf F r j) (some t) fw = false) := Lib.hid (by unfold placeB; rw [if_neg HN.out, ha]; simp only; rw [if_pos h4, hs]; rfl)
              clear ha h4 k1 hs
              go_wp2_with (first | (go_at_call 154; (with_reducible refine (HMj.out _).mono ?_); rintro e w' ⟨rfl, rfl⟩) | (go_at_call 154; (with_reducible refine (HM.out _).mono ?_); rintro e w' ⟨rfl, rfl⟩) | (refine wpl_load rfl 126 _ rfl w.heap.size 0 rfl (vwA b off n cap r g m) (tr_view HBt) ?_) | (go_at_call 78; refine (HAD.out).mono ?_; rintro e w2 ⟨rfl, hb⟩; have HB2 := Lib.hid (rowAt_below HBt hb rfl); have HL2 := Lib.hid (below_step HL.out hb rfl rfl rfl rfl); clear hb; have d38 : w2.cell? ⟨w.heap.size, 38, none⟩ = some (.int .i64 I.op) := (rowAt_cell HB2.out 38).trans HT38.out; have d45 : w2.cell? ⟨w.heap.size, 45, none⟩ = some _ := (rowAt_cell HB2.out 45).trans HT45.out; have d46 : w2.cell? ⟨w.heap.size, 46, none⟩ = some _ := (rowAt_cell HB2.out 46).trans HT46.out; have d47 : w2.cell? ⟨w.heap.size, 47, none⟩ = some (.bool fw) := (rowAt_cell HB2.out 47).trans HT47.out) | (go_at_call 155; refine (HST.out _).mono ?_; rintro e w' ⟨rfl, rfl⟩))
              go_ret
              exact ⟨by rw [HV.out]; rfl, HL2.out⟩
            · rw [hs] at HST
              cases hg : (a / 64 == t / 64)
              · have HV : Hid (placeB I.op (F j).op (adS fOf F r j) (some t) fw = false) := Lib.hid (by unfold placeB; rw [if_neg HN.out, ha]; simp only; rw [if_pos h4, hs, hg]; rfl)
                clear ha h4 k1 hs
                go_wp2_with (first | (go_at_call 154; (with_reducible refine (HMj.out _).mono ?_); rintro e w' ⟨rfl, rfl⟩) | (go_at_call 154; (with_reducible refine (HM.out _).mono ?_); rintro e w' ⟨rfl, rfl⟩) | (refine wpl_load rfl 126 _ rfl w.heap.size 0 rfl (vwA b off n cap r g m) (tr_view HBt) ?_) | (go_at_call 78; refine (HAD.out).mono ?_; rintro e w2 ⟨rfl, hb⟩; have HB2 := Lib.hid (rowAt_below HBt hb rfl); have HL2 := Lib.hid (below_step HL.out hb rfl rfl rfl rfl); clear hb; have d38 : w2.cell? ⟨w.heap.size, 38, none⟩ = some (.int .i64 I.op) := (rowAt_cell HB2.out 38).trans HT38.out; have d45 : w2.cell? ⟨w.heap.size, 45, none⟩ = some _ := (rowAt_cell HB2.out 45).trans HT45.out; have d46 : w2.cell? ⟨w.heap.size, 46, none⟩ = some _ := (rowAt_cell HB2.out 46).trans HT46.out; have d47 : w2.cell? ⟨w.heap.size, 47, none⟩ = some (.bool fw) := (rowAt_cell HB2.out 47).trans HT47.out) | (go_at_call 155; refine (HST.out _).mono ?_; rintro e w' ⟨rfl, rfl⟩))
                go_ret
                exact ⟨by rw [HV.out]; rfl, HL2.out⟩
              · have HV : Hid (placeB I.op (F j).op (adS fOf F r j) (some t) fw = true) := Lib.hid (by unfold placeB; rw [if_neg HN.out, ha]; simp only; rw [if_pos h4, hs, hg]; rfl)
                clear ha h4 k1 hs
                go_wp2_with (first | (go_at_call 154; (with_reducible refine (HMj.out _).mono ?_); rintro e w' ⟨rfl, rfl⟩) | (go_at_call 154; (with_reducible refine (HM.out _).mono ?_); rintro e w' ⟨rfl, rfl⟩) | (refine wpl_load rfl 126 _ rfl w.heap.size 0 rfl (vwA b off n cap r g m) (tr_view HBt) ?_) | (go_at_call 78; refine (HAD.out).mono ?_; rintro e w2 ⟨rfl, hb⟩; have HB2 := Lib.hid (rowAt_below HBt hb rfl); have HL2 := Lib.hid (below_step HL.out hb rfl rfl rfl rfl); clear hb; have d38 : w2.cell? ⟨w.heap.size, 38, none⟩ = some (.int .i64 I.op) := (rowAt_cell HB2.out 38).trans HT38.out; have d45 : w2.cell? ⟨w.heap.size, 45, none⟩ = some _ := (rowAt_cell HB2.out 45).trans HT45.out; have d46 : w2.cell? ⟨w.heap.size, 46, none⟩ = some _ := (rowAt_cell HB2.out 46).trans HT46.out; have d47 : w2.cell? ⟨w.heap.size, 47, none⟩ = some (.bool fw) := (rowAt_cell HB2.out 47).trans HT47.out) | (go_at_call 155; refine (HST.out _).mono ?_; rintro e w' ⟨rfl, rfl⟩))
                go_ret
                exact ⟨by rw [HV.out]; rfl, HL2.out⟩
end Go.Proofs.Ytnbpgoacooddjaa
