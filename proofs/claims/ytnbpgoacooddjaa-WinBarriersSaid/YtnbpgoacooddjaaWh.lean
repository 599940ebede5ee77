import Derived.WalkKit
import Derived.ProofKit
import Derived.OpenShut
import Derived.Deep.QuietTactic
import Derived.BigQuiet
import Derived.Outline
import Derived.WalkSmall
import Derived.WalkLawsBesides
import Derived.WalkSpells
import Derived.BigGuardPart
import Derived.RegionTactic
import Derived.Deep.RegionHeld3
import Derived.Lib.Hide
import Derived.Deep.MidRow
import Derived.Below
import Derived.Deep.RegionWith
import Derived.Deep.OwnRows
import Derived.Deep.AppendLies
import Derived.Deep.RegionLaw
import Derived.Laws.BitsAllLaws
import Derived.Laws.BitsLemmas
import Derived.Deep.CutBlock
import Derived.Deep.DeepCutAuto
import Derived.Deep.CutRange
import Derived.Test.YtnbpgoacooddjaaWf
import Derived.Test.YtnbpgoacooddjaaWg
namespace Go.Proofs.Ytnbpgoacooddjaa
open Go.ChangeShapes Go.WideShapes Go.ChangeAt Go.RowKit
set_option linter.unusedVariables false
attribute [local go_sem] rowAt_drew rowAt_drewN
set_option maxRecDepth 100000 in
set_option maxHeartbeats 4000000 in
theorem value_f (F : Nat → WI) (base : Rg) (b off n cap i : Nat) (reg : Int) (w : World) (HW : Hid (WnC w b off n F)) (hin : i < n) (hn : n ≤ 1000000) :
    Calls Try.prog 18 #[.slice (some ⟨b, off, none⟩) n cap, .int .i64 i, .agg base.arr, .int .i64 reg] w (ValP (valW fOf F base i reg) w) := by
  have HB : Hid (rowAt (w.alloc (.cells base.arr 26)) w.heap.size = some base.arr) := Lib.hid (rowAt_new _ _ _)
  have HL : Hid (Below w.heap.size w (w.alloc (.cells base.arr 26))) := Lib.hid ((Below.refl _ _).alloc (Nat.le_refl _) _)
  have HSee := Lib.hid (see_c F base b off n cap i _ (Lib.hid (HW.out.below HL.out)) hin hn)
  go_enter Try.func18, Try.ntmps18
  go_wp2_with (first | (refine wpl_load rfl 26 _ rfl w.heap.size 0 rfl base.arr (reg_all HB.out) ?_) | (go_at_call 69; refine (HSee.out).mono ?_; rintro e w2 ⟨g, rfl, hO, hb⟩; have HO2 := Lib.hid hO; have HL2 := Lib.hid (below_step HL.out hb rfl rfl rfl rfl); clear hO hb) | (refine wpl_store rfl 126 _ _ rfl w2.heap.size (vwA b off n cap base g i) #[.slice none 0 0, .int .u64 0, .int .u64 0, .int .u64 0, .int .u64 0, .int .u64 0, .int .u64 0, .int .u64 0, .int .u64 0, .int .u64 0, .int .u64 0, .int .u64 0, .int .u64 0, .int .u64 0, .int .u64 0, .int .u64 0, .int .u64 0, .int .u64 0, .int .u64 0, .int .u64 0, .int .u64 0, .int .u64 0, .int .u64 0, .int .u64 0, .int .u64 0, .int .u64 0, .int .u64 0, .int .u64 0, .int .u64 0, .int .u64 0, .int .u64 0, .int .u64 0, .int .u64 0, .bool false, .bool false, .bool false, .bool false, .slice none 0 0] rfl rfl (rowAt_new _ _ _) (by rw [vwA_size]; exact info126) (by rw [vwA_size]; rfl) (vwA_one _ _ _ _ _ _ _) ?_; intro w3 hrow hg; have HR3 := Lib.hid hrow; have HO3 := Lib.hid ((HO2.out.below ((Below.refl _ _).alloc (Nat.le_refl _) _)).grown hg (Nat.ne_of_lt HO2.out.1)); have HL3 := Lib.hid (grown_below (HL2.out.alloc HL2.out.size _) hg HL2.out.size); have HW3 := Lib.hid (HW.out.below HL3.out); clear hrow hg) | (refine wpl_load rfl 126 _ rfl w2.heap.size 0 rfl (vwA b off n cap base g i) (vw_all HR3.out) ?_) | (go_at_call 79; refine (value_c fOf F base b off n cap g i i reg _ HW3 HO3 (Nat.le_refl _) (by omega) hn).mono ?_; rintro e w4 ⟨rfl, hb⟩; have HL4 := Lib.hid (below_step HL3.out hb rfl rfl rfl rfl); clear hb))
  go_ret2
  exact ⟨rfl, HL4.out⟩
set_option maxRecDepth 100000 in
set_option maxHeartbeats 4000000 in
theorem addr_f (F : Nat → WI) (base : Rg) (b off n cap i : Nat) (w : World) (HW : Hid (WnC w b off n F)) (hin : i < n) (hn : n ≤ 1000000) :
    Calls Try.prog 17 #[.slice (some ⟨b, off, none⟩) n cap, .int .i64 i, .agg base.arr] w (ValP (adS fOf F base i) w) := by
  have HB : Hid (rowAt (w.alloc (.cells base.arr 26)) w.heap.size = some base.arr) := Lib.hid (rowAt_new _ _ _)
  have HL : Hid (Below w.heap.size w (w.alloc (.cells base.arr 26))) := Lib.hid ((Below.refl _ _).alloc (Nat.le_refl _) _)
  have HSee := Lib.hid (see_c F base b off n cap i _ (Lib.hid (HW.out.below HL.out)) hin hn)
  go_enter Try.func17, Try.ntmps17
  go_wp2_with (first | (refine wpl_load rfl 26 _ rfl w.heap.size 0 rfl base.arr (reg_all HB.out) ?_) | (go_at_call 69; refine (HSee.out).mono ?_; rintro e w2 ⟨g, rfl, hO, hb⟩; have HO2 := Lib.hid hO; have HL2 := Lib.hid (below_step HL.out hb rfl rfl rfl rfl); clear hO hb) | (refine wpl_store rfl 126 _ _ rfl w2.heap.size (vwA b off n cap base g i) #[.slice none 0 0, .int .u64 0, .int .u64 0, .int .u64 0, .int .u64 0, .int .u64 0, .int .u64 0, .int .u64 0, .int .u64 0, .int .u64 0, .int .u64 0, .int .u64 0, .int .u64 0, .int .u64 0, .int .u64 0, .int .u64 0, .int .u64 0, .int .u64 0, .int .u64 0, .int .u64 0, .int .u64 0, .int .u64 0, .int .u64 0, .int .u64 0, .int .u64 0, .int .u64 0, .int .u64 0, .int .u64 0, .int .u64 0, .int .u64 0, .int .u64 0, .int .u64 0, .int .u64 0, .bool false, .bool false, .bool false, .bool false, .slice none 0 0] rfl rfl (rowAt_new _ _ _) (by rw [vwA_size]; exact info126) (by rw [vwA_size]; rfl) (vwA_one _ _ _ _ _ _ _) ?_; intro w3 hrow hg; have HR3 := Lib.hid hrow; have HO3 := Lib.hid ((HO2.out.below ((Below.refl _ _).alloc (Nat.le_refl _) _)).grown hg (Nat.ne_of_lt HO2.out.1)); have HL3 := Lib.hid (grown_below (HL2.out.alloc HL2.out.size _) hg HL2.out.size); have HW3 := Lib.hid (HW.out.below HL3.out); clear hrow hg) | (refine wpl_load rfl 126 _ rfl w2.heap.size 0 rfl (vwA b off n cap base g i) (vw_all HR3.out) ?_) | (go_at_call 78; refine (addr_c F base b off n cap g i i _ HW3 HO3 (Nat.le_refl _) hin (by omega) hn).mono ?_; rintro e w4 ⟨rfl, hb⟩; have HL4 := Lib.hid (below_step HL3.out hb rfl rfl rfl rfl); clear hb))
  go_ret2
  exact ⟨rfl, HL4.out⟩
set_option maxRecDepth 100000 in
set_option maxHeartbeats 4000000 in
theorem forward_f (F : Nat → WI) (base : Rg) (b off n cap i : Nat) (w : World) (HW : Hid (WnC w b off n F)) (hr : base.within) (hF : ∀ j, j < n → (F j).r.within) (hin : i < n) (hn : n ≤ 1000000) :
    Calls Try.prog 16 #[.slice (some ⟨b, off, none⟩) n cap, .int .i64 i, .agg base.arr] w (FwdP (fwdS fOf F base i) w) := by
  have HB : Hid (rowAt (w.alloc (.cells base.arr 26)) w.heap.size = some base.arr) := Lib.hid (rowAt_new _ _ _)
  have HL : Hid (Below w.heap.size w (w.alloc (.cells base.arr 26))) := Lib.hid ((Below.refl _ _).alloc (Nat.le_refl _) _)
  have HSee := Lib.hid (see_c F base b off n cap i _ (Lib.hid (HW.out.below HL.out)) hin hn)
  go_enter Try.func16, Try.ntmps16
  go_wp2_with (first | (refine wpl_load rfl 26 _ rfl w.heap.size 0 rfl base.arr (reg_all HB.out) ?_) | (go_at_call 69; refine (HSee.out).mono ?_; rintro e w2 ⟨g, rfl, hO, hb⟩; have HO2 := Lib.hid hO; have HL2 := Lib.hid (below_step HL.out hb rfl rfl rfl rfl); clear hO hb) | (refine wpl_store rfl 126 _ _ rfl w2.heap.size (vwA b off n cap base g i) #[.slice none 0 0, .int .u64 0, .int .u64 0, .int .u64 0, .int .u64 0, .int .u64 0, .int .u64 0, .int .u64 0, .int .u64 0, .int .u64 0, .int .u64 0, .int .u64 0, .int .u64 0, .int .u64 0, .int .u64 0, .int .u64 0, .int .u64 0, .int .u64 0, .int .u64 0, .int .u64 0, .int .u64 0, .int .u64 0, .int .u64 0, .int .u64 0, .int .u64 0, .int .u64 0, .int .u64 0, .int .u64 0, .int .u64 0, .int .u64 0, .int .u64 0, .int .u64 0, .int .u64 0, .bool false, .bool false, .bool false, .bool false, .slice none 0 0] rfl rfl (rowAt_new _ _ _) (by rw [vwA_size]; exact info126) (by rw [vwA_size]; rfl) (vwA_one _ _ _ _ _ _ _) ?_; intro w3 hrow hg; have HR3 := Lib.hid hrow; have HO3 := Lib.hid ((HO2.out.below ((Below.refl _ _).alloc (Nat.le_refl _) _)).grown hg (Nat.ne_of_lt HO2.out.1)); have HL3 := Lib.hid (grown_below (HL2.out.alloc HL2.out.size _) hg HL2.out.size); have HW3 := Lib.hid (HW.out.below HL3.out); clear hrow hg) | (refine wpl_load rfl 126 _ rfl w2.heap.size 0 rfl (vwA b off n cap base g i) (vw_all HR3.out) ?_) | (go_at_call 77; refine (forward_c F base b off n cap g i i _ HW3 HO3 hr hF (Nat.le_refl _) hin (by omega) hn).mono ?_; rintro e w4 ⟨rfl, hb⟩; have HL4 := Lib.hid (below_step HL3.out hb rfl rfl rfl rfl); clear hb))
  go_ret2
  exact ⟨rfl, HL4.out⟩
theorem info133 : (Try.prog.info? 133).map (·.size) = some 3 := by kernel_rfl
def touchA (o : Option Int) (fw : Bool) : Array Value := #[.int .u64 (o.getD 0), .bool o.isSome, .bool fw]
set_option maxRecDepth 100000 in
set_option maxHeartbeats 4000000 in
theorem placeOf_c (F : Nat → WI) (r : Rg) (b off n cap g m i : Nat) (w : World) (HW : Hid (WnC w b off n F)) (HO : Hid (OutC fOf F w g m)) (hr : r.within) (hF : ∀ j, j < n → (F j).r.within) (hi : i ≤ m) (hin : i < n) (hm : m ≤ n) (hn : n ≤ 1000000) :
    Calls Try.prog 72 #[.agg (vwA b off n cap r g m), .int .i64 i] w fun e w' => e = .returned (.agg (touchA (adS fOf F r i) (fwdS fOf F r i).isSome)) ∧ Below w.heap.size w w' := by
  obtain ⟨VA, hVA⟩ : ∃ VA, VA = vwA b off n cap r g m := ⟨_, rfl⟩
  rw [← hVA]
  have HVA := Lib.hid hVA
  clear hVA
  have HB : Hid (rowAt (((w.alloc (.cells VA 126)).alloc (.cells #[.int .u64 0, .bool false, .bool false] 133)).alloc (.cells #[.int .u64 0, .bool false, .bool false] 133)) w.heap.size = some VA) := Lib.hid (rowAt_past (rowAt_past (rowAt_new _ _ _) _) _)
  have HZ : Hid (rowAt (((w.alloc (.cells VA 126)).alloc (.cells #[.int .u64 0, .bool false, .bool false] 133)).alloc (.cells #[.int .u64 0, .bool false, .bool false] 133)) (w.heap.size + 1) = some #[.int .u64 0, .bool false, .bool false]) := Lib.hid (rowAt_past (by have h := rowAt_new (w.alloc (.cells VA 126)) #[.int .u64 0, .bool false, .bool false] 133; simpa using h) _)
  have HT : Hid (rowAt (((w.alloc (.cells VA 126)).alloc (.cells #[.int .u64 0, .bool false, .bool false] 133)).alloc (.cells #[.int .u64 0, .bool false, .bool false] 133)) (w.heap.size + 2) = some #[.int .u64 0, .bool false, .bool false]) := Lib.hid (by have h := rowAt_new ((w.alloc (.cells VA 126)).alloc (.cells #[.int .u64 0, .bool false, .bool false] 133)) #[.int .u64 0, .bool false, .bool false] 133; rw [show ((w.alloc (.cells VA 126)).alloc (.cells #[.int .u64 0, .bool false, .bool false] 133)).heap.size = w.heap.size + 2 by simp] at h; exact h)
  have HL : Hid (Below w.heap.size w (((w.alloc (.cells VA 126)).alloc (.cells #[.int .u64 0, .bool false, .bool false] 133)).alloc (.cells #[.int .u64 0, .bool false, .bool false] 133))) := Lib.hid ((((Below.refl _ _).alloc (Nat.le_refl _) _).alloc (by simp) _).alloc (by simp; omega) _)
  have HAD : Hid (∀ (V : World), Below w.heap.size w V → Calls Try.prog 78 #[.agg VA, .int .i64 i] V (ValP (adS fOf F r i) V)) := Lib.hid (fun V h3 => by
    rw [HVA.out]
    exact addr_c F r b off n cap g m i V (Lib.hid (HW.out.below h3)) (Lib.hid (HO.out.below h3)) hi hin hm hn)
  have HFD : Hid (∀ (V : World), Below w.heap.size w V → Calls Try.prog 77 #[.agg VA, .int .i64 i] V (FwdP (fwdS fOf F r i) V)) := Lib.hid (fun V h3 => by
    rw [HVA.out]
    exact forward_c F r b off n cap g m i V (Lib.hid (HW.out.below h3)) (Lib.hid (HO.out.below h3)) hr hF hi hin hm hn)
  clear hr hF
  obtain ⟨av, hav⟩ : ∃ x, (adS fOf F r i).getD 0 = x := ⟨_, rfl⟩
  obtain ⟨ak, hak⟩ : ∃ x, (adS fOf F r i).isSome = x := ⟨_, rfl⟩
  obtain ⟨fv, hfv⟩ : ∃ x, (fwdS fOf F r i).getD 0 = x := ⟨_, rfl⟩
  obtain ⟨fk, hfk⟩ : ∃ x, (fwdS fOf F r i).isSome = x := ⟨_, rfl⟩
  unfold ValP at HAD
  unfold FwdP at HFD
  unfold touchA
  rw [hav, hak] at HAD ⊢
  rw [hfv, hfk] at HFD
  rw [hfk]
  clear hav hak hfv hfk
  go_enter Try.func72, Try.ntmps72
  go_upto_region 3 with (first | (refine wpl_load rfl 126 _ rfl w.heap.size 0 rfl VA (by have := HB.out; rw [HVA.out] at this ⊢; exact vw_all this) ?_) | (go_at_call 78; refine (HAD.out _ HL.out).mono ?_; rintro e w2 ⟨rfl, hb⟩; have HB2 := Lib.hid (rowAt_below HB.out hb rfl); have HZ2 := Lib.hid (rowAt_below HZ.out hb rfl); have HT2 := Lib.hid (rowAt_below HT.out hb rfl); have HL2 := Lib.hid (below_step HL.out hb rfl rfl rfl rfl); clear hb; have c0 : w2.cell? ⟨w.heap.size + 1 + 1, 0, none⟩ = some _ := rowAt_cell HT2.out 0; have c1 : w2.cell? ⟨w.heap.size + 1 + 1, 1, none⟩ = some _ := rowAt_cell HT2.out 1; have f0 : w2.frozen? ⟨w.heap.size + 1 + 1, 0, none⟩ = false := rowAt_frz HT2.out 0; have f1 : w2.frozen? ⟨w.heap.size + 1 + 1, 1, none⟩ = false := rowAt_frz HT2.out 1))
  have n1 : w.heap.size ≠ w.heap.size + 1 + 1 := by omega
  have n2 : w.heap.size + 1 ≠ w.heap.size + 1 + 1 := by omega
  have HB3 : Hid (rowAt ((w2.setCell ⟨w.heap.size + 1 + 1, 0, none⟩ (.int .u64 av)).setCell ⟨w.heap.size + 1 + 1, 1, none⟩ (.bool ak)) w.heap.size = some VA) := Lib.hid (rowAt_set_far (rowAt_set_far HB2.out n1 _ _) n1 _ _)
  have HZ3 : Hid (rowAt ((w2.setCell ⟨w.heap.size + 1 + 1, 0, none⟩ (.int .u64 av)).setCell ⟨w.heap.size + 1 + 1, 1, none⟩ (.bool ak)) (w.heap.size + 1) = some #[.int .u64 0, .bool false, .bool false]) := Lib.hid (rowAt_set_far (rowAt_set_far HZ2.out n2 _ _) n2 _ _)
  have HT3 : Hid (rowAt ((w2.setCell ⟨w.heap.size + 1 + 1, 0, none⟩ (.int .u64 av)).setCell ⟨w.heap.size + 1 + 1, 1, none⟩ (.bool ak)) (w.heap.size + 1 + 1) = some #[.int .u64 av, .bool ak, .bool false]) := Lib.hid (rowAt_set (rowAt_set HT2.out 0 _) 1 _)
  have HL3 : Hid (Below w.heap.size w ((w2.setCell ⟨w.heap.size + 1 + 1, 0, none⟩ (.int .u64 av)).setCell ⟨w.heap.size + 1 + 1, 1, none⟩ (.bool ak))) := Lib.hid ((HL2.out.setCell (p := ⟨w.heap.size + 1 + 1, 0, none⟩) (by show w.heap.size ≤ w.heap.size + 1 + 1; omega) _).setCell (p := ⟨w.heap.size + 1 + 1, 1, none⟩) (by show w.heap.size ≤ w.heap.size + 1 + 1; omega) _)
  clear c0 c1 f0 f1
  generalize ((w2.setCell ⟨w.heap.size + 1 + 1, 0, none⟩ (.int .u64 av)).setCell ⟨w.heap.size + 1 + 1, 1, none⟩ (.bool ak)) = W3 at HB3 HZ3 HT3 HL3 ⊢
  go_wp2_with (first | (refine wpl_load rfl 126 _ rfl w.heap.size 0 rfl VA (by have := HB3.out; rw [HVA.out] at this ⊢; exact vw_all this) ?_) | (go_at_call 77; refine (HFD.out _ HL3.out).mono ?_; rintro e w4 ⟨rfl, hb⟩; have HZ4 := Lib.hid (rowAt_below HZ3.out hb rfl); have HT4 := Lib.hid (rowAt_below HT3.out hb rfl); have HL4 := Lib.hid (below_step HL3.out hb rfl rfl rfl rfl); clear hb; have c0 : w4.cell? ⟨w.heap.size + 1 + 1, 0, none⟩ = some _ := rowAt_cell HT4.out 0; have c1 : w4.cell? ⟨w.heap.size + 1 + 1, 1, none⟩ = some _ := rowAt_cell HT4.out 1; have c2 : w4.cell? ⟨w.heap.size + 1 + 1, 2, none⟩ = some _ := rowAt_cell HT4.out 2; have f2 : w4.frozen? ⟨w.heap.size + 1 + 1, 2, none⟩ = false := rowAt_frz HT4.out 2; have d0 : w4.cell? ⟨w.heap.size + 1, 0, none⟩ = some _ := rowAt_cell HZ4.out 0; have d1 : w4.cell? ⟨w.heap.size + 1, 1, none⟩ = some _ := rowAt_cell HZ4.out 1; have d2 : w4.cell? ⟨w.heap.size + 1, 2, none⟩ = some _ := rowAt_cell HZ4.out 2; have g0 : w4.frozen? ⟨w.heap.size + 1, 0, none⟩ = false := rowAt_frz HZ4.out 0; have g1 : w4.frozen? ⟨w.heap.size + 1, 1, none⟩ = false := rowAt_frz HZ4.out 1; have g2 : w4.frozen? ⟨w.heap.size + 1, 2, none⟩ = false := rowAt_frz HZ4.out 2))
  have hR := rowAt_set (rowAt_set (rowAt_set (rowAt_set_far HZ4.out n2 2 (.bool fk)) 0 (.int .u64 av)) 1 (.bool ak)) 2 (.bool fk)
  obtain ⟨t9, ht9⟩ := rowAt_heap hR
  refine bodyPost_ret (results_cell_row rfl _ _ (w.heap.size + 1) t9 #[.int .u64 av, .bool ak, .bool fk] (0, 0) _ rfl ht9 Try.underlying133 rfl info133) rfl ⟨rfl, ?_⟩
  exact (((HL4.out.setCell (p := ⟨w.heap.size + 1 + 1, 2, none⟩) (by show w.heap.size ≤ w.heap.size + 1 + 1; omega) _).setCell (p := ⟨w.heap.size + 1, 0, none⟩) (by show w.heap.size ≤ w.heap.size + 1; omega) _).setCell (p := ⟨w.heap.size + 1, 1, none⟩) (by show w.heap.size ≤ w.heap.size + 1; omega) _).setCell (p := ⟨w.heap.size + 1, 2, none⟩) (by show w.heap.size ≤ w.heap.size + 1; omega) _
end Go.Proofs.Ytnbpgoacooddjaa
