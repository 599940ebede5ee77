import Derived.WalkKit
import Derived.ProofKit
import Derived.OpenShut
import Derived.Deep.QuietTactic
import Derived.BigQuiet
import Derived.Outline
import Derived.WalkSmall
import Derived.WalkLawsBesides
import Derived.WalkSpells
import Derived.BigGuardPart
import Derived.RegionTactic
import Derived.Deep.RegionHeld3
import Derived.Lib.Hide
import Derived.Deep.MidRow
import Derived.Below
import Derived.Deep.RegionWith
import Derived.Deep.OwnRows
import Derived.Deep.AppendLies
import Derived.Deep.RegionLaw
import Derived.Laws.BitsAllLaws
import Derived.Laws.BitsLemmas
import Derived.Deep.CutBlock
import Derived.Deep.DeepCutAuto
import Derived.Deep.CutRange
import Derived.Test.YtnbpgoacooddjaaWd
namespace Go.Proofs.Ytnbpgoacooddjaa
open Go.ChangeShapes Go.WideShapes Go.ChangeAt Go.RowKit
set_option linter.unusedVariables false
attribute [local go_sem] rowAt_drew rowAt_drewN
set_option maxRecDepth 100000 in
set_option maxHeartbeats 4000000 in
theorem hands_c (F : Nat → WI) (r : Rg) (b off n cap g m j : Nat) (w : World) (HW : Hid (WnC w b off n F)) (HO : Hid (OutC fOf F w g m)) (hj : j ≤ m) (hjn : j < n) (hm : m ≤ n) (hn : n ≤ 1000000) :
    Calls Try.prog 162 #[.agg (vwA b off n cap r g m), .int .i64 j] w fun e w' => e = .returned (.bool (handB fOf F r j)) ∧ Below w.heap.size w w' := by
  obtain ⟨VA, hVA⟩ : ∃ VA, VA = vwA b off n cap r g m := ⟨_, rfl⟩
  rw [← hVA]
  have HVA := Lib.hid hVA
  clear hVA
  have HB : Hid (rowAt (w.alloc (.cells VA 126)) w.heap.size = some VA) := Lib.hid (rowAt_new _ _ _)
  have HL : Hid (Below w.heap.size w (w.alloc (.cells VA 126))) := Lib.hid ((Below.refl _ _).alloc (Nat.le_refl _) _)
  have HW1 := Lib.hid (HW.out.below HL.out)
  have c0 : (w.alloc (.cells VA 126)).cell? ⟨w.heap.size, 0, none⟩ = some (.slice (some ⟨b, off, none⟩) n cap) := (rowAt_cell HB.out 0).trans (by rw [HVA.out]; exact vwA_0 _ _ _ _ _ _ _)
  have cd := HW1.out.dn j hjn
  have hbl : b < w.heap.size := HW.out.1
  have hbl2 : b < w.heap.size + 1 := by omega
  obtain ⟨o, ho⟩ : ∃ o, (F j).op = o := ⟨_, rfl⟩
  obtain ⟨d, hd⟩ : ∃ o, (F j).d = o := ⟨_, rfl⟩
  obtain ⟨n0, hn0⟩ : ∃ o, (F j).n = o := ⟨_, rfl⟩
  obtain ⟨m0, hm0⟩ : ∃ o, (F j).m = o := ⟨_, rfl⟩
  obtain ⟨a0, ha0⟩ : ∃ o, (F j).a = o := ⟨_, rfl⟩
  obtain ⟨k0, hk0⟩ : ∃ o, (F j).c = o := ⟨_, rfl⟩
  obtain ⟨i0, hi0⟩ : ∃ o, (F j).i = o := ⟨_, rfl⟩
  obtain ⟨dn, hdn⟩ : ∃ o, (F j).dn = o := ⟨_, rfl⟩
  have hLI := HW1.out.loadIns j hjn
  unfold WI.ins at hLI
  rw [ho, hd, hn0, hm0, ha0, hk0, hi0] at hLI
  rw [hdn] at cd
  have HLI := Lib.hid hLI
  have HH : Hid (handB fOf F r j = (!dn && (o == 29 || o == 32) && (valW fOf F r j d).isSome)) := Lib.hid (by unfold handB; rw [hdn, ho, hd])
  have hI1 : rowAt ((w.alloc (.cells VA 126)).alloc (.cells #[.int .i64 o, .int .i64 d, .int .i64 n0, .int .i64 m0, .int .i64 a0, .int .i64 k0, .int .i64 i0] 29)) (w.heap.size + 1) = some #[.int .i64 o, .int .i64 d, .int .i64 n0, .int .i64 m0, .int .i64 a0, .int .i64 k0, .int .i64 i0] := by
    have h := rowAt_new (w.alloc (.cells VA 126)) #[.int .i64 o, .int .i64 d, .int .i64 n0, .int .i64 m0, .int .i64 a0, .int .i64 k0, .int .i64 i0] 29
    simpa using h
  have HL1 := Lib.hid (HL.out.alloc HL.out.size (.cells #[.int .i64 o, .int .i64 d, .int .i64 n0, .int .i64 m0, .int .i64 a0, .int .i64 k0, .int .i64 i0] 29))
  have HB1 := Lib.hid (rowAt_past HB.out (.cells #[.int .i64 o, .int .i64 d, .int .i64 n0, .int .i64 m0, .int .i64 a0, .int .i64 k0, .int .i64 i0] 29))
  have c1 := (rowAt_cell HB1.out 0).trans (show VA[0]? = some (.slice (some ⟨b, off, none⟩) n cap) by rw [HVA.out]; exact vwA_0 _ _ _ _ _ _ _)
  have cd1 := (HW.out.below HL1.out).dn j hjn
  rw [hdn] at cd1
  clear hLI ho hd hn0 hm0 ha0 hk0 hi0 hdn
  cases dn
  · have o3 : ((o == 29) = true ∧ (o != 29) = false) ∨ ((o == 29) = false ∧ (o != 29) = true ∧ (o == 32) = true ∧ (o != 32) = false) ∨ ((o == 29) = false ∧ (o != 29) = true ∧ (o == 32) = false ∧ (o != 32) = true) := by
      by_cases h1 : o = 29
      · left; simp [h1]
      · by_cases h2 : o = 32
        · right; left; simp [h2]
        · right; right; simp [h1, h2]
    have HV : Hid (Calls Try.prog 79 #[.agg VA, .int .i64 j, .int .i64 d] ((w.alloc (.cells VA 126)).alloc (.cells #[.int .i64 o, .int .i64 d, .int .i64 n0, .int .i64 m0, .int .i64 a0, .int .i64 k0, .int .i64 i0] 29)) (ValP (valW fOf F r j d) ((w.alloc (.cells VA 126)).alloc (.cells #[.int .i64 o, .int .i64 d, .int .i64 n0, .int .i64 m0, .int .i64 a0, .int .i64 k0, .int .i64 i0] 29)))) := Lib.hid (by rw [HVA.out] at HL1 ⊢; exact value_c fOf F r b off n cap g m j d _ (Lib.hid (HW.out.below HL1.out)) (Lib.hid (HO.out.below HL1.out)) hj hm hn)
    rcases o3 with ⟨e1, e2⟩ | ⟨e1, e2, e3, e4⟩ | ⟨e1, e2, e3, e4⟩
    rotate_left 2
    · rw [e1, e3] at HH
      go_enter Try.func162, Try.ntmps162
      go_wp2_with (first | (refine wpl_load rfl 29 _ rfl b (off + j * 46 + 1) rfl _ HLI.out ?_))
      go_ret
      exact ⟨by rw [HH.out]; simp, HL1.out⟩
    all_goals
      have HE : Hid (handB fOf F r j = (valW fOf F r j d).isSome) := Lib.hid (by rw [HH.out, e1]; first | (rw [e3]; simp) | simp)
      go_enter Try.func162, Try.ntmps162
      go_wp2_with (first | (refine wpl_load rfl 29 _ rfl b (off + j * 46 + 1) rfl _ HLI.out ?_) | (refine wpl_load rfl 126 _ rfl w.heap.size 0 rfl VA (by rw [HVA.out] at HB1 ⊢; exact vw_all HB1.out) ?_) | (go_at_call 79; refine (HV.out).mono ?_; rintro e w2 ⟨rfl, hb⟩; have HL2 := Lib.hid (below_step HL1.out hb rfl rfl rfl rfl); clear hb))
      go_ret
      exact ⟨by rw [HE.out]; rfl, HL2.out⟩
  · go_enter Try.func162, Try.ntmps162
    go_wp2_with (first | (refine wpl_load rfl 29 _ rfl b (off + j * 46 + 1) rfl _ HLI.out ?_))
    go_ret
    exact ⟨by rw [HH.out]; simp, HL1.out⟩
end Go.Proofs.Ytnbpgoacooddjaa
