import Derived.Test.YtpiafgmncfibmaaPw
import Derived.Test.YtpiafgmncfibmaaRows
import Derived.WalkKit
import Derived.ProofKit
import Derived.OpenShut
import Derived.Deep.QuietTactic
import Derived.BigQuiet
import Derived.Outline
import Derived.WalkSmall
import Derived.WalkLawsBesides
import Derived.WalkSpells
import Derived.BigGuardPart
import Derived.RegionTactic
import Derived.Deep.RegionHeld3
import Derived.Lib.Hide
import Derived.Deep.MidRow
import Derived.Below
import Derived.Deep.RegionWith
import Derived.Deep.OwnRows
import Derived.Deep.AppendLies
import Derived.Deep.RegionLaw
namespace Go.Proofs.Ytpiafgmncfibmaa
open Go.ChangeShapes Go.WideShapes Go.ChangeAt Go.RowKit
set_option linter.unusedVariables false

theorem sumN_le {F : Nat → Nat} : ∀ {m i : Nat}, i < m → sumN F i + F i ≤ sumN F m
  | 0, i, h => absurd h (Nat.not_lt_zero i)
  | m + 1, i, h => by
    show sumN F i + F i ≤ sumN F m + F m
    by_cases e : i = m
    · subst e; exact Nat.le_refl _
    · have := sumN_le (F := F) (m := m) (i := i) (by omega); omega
theorem isRB_of {r : Int} (h : isRB r = true) : 0 ≤ r ∧ r ≤ 2 := by
  unfold isRB isTB at h
  simp at h
  omega
theorem isTB_of {r : Int} (h : isTB r = true) : r = 1 ∨ r = 2 := isT_y h
theorem isTB_lt {r : Int} (h : isTB r = true) : r % 256 = r := by rcases isT_y h with rfl | rfl <;> rfl
section
variable {P : Pg} {d : Nat → Nat} (hR : Rt P) (hB : BA d P)
include hB
theorem f_c0 : c0 d = 5 + 8 * P.np := by unfold c0; rw [hB.np]
theorem f_cS : ∀ i, i ≤ P.nc → cS d (c0 d + 1) i = pC P i
  | 0, _ => by show c0 d + 1 = 6 + 8 * P.np + 0; rw [f_c0 hB]; omega
  | i + 1, h => by
    have ih := f_cS i (by omega)
    show cS d (c0 d + 1) i + 1 + d (cS d (c0 d + 1) i) = 6 + 8 * P.np + (sumN (fun i => 1 + P.nf i) i + (1 + P.nf i))
    rw [ih, hB.nf i (by omega)]
    unfold pC
    omega
theorem f_nc : d (c0 d) = P.nc := by rw [f_c0 hB, hB.nc]
theorem f_m0 : m0 d = pC P P.nc := by unfold m0; rw [f_nc hB]; exact f_cS hB _ (Nat.le_refl _)
theorem f_nm : d (m0 d) = P.nm := by rw [f_m0 hB]; exact hB.nm
include hR
theorem f_meth (i : Nat) (hi : i < P.nm) : d (pM P i) = P.pn i ∧ d (pM P i + 2 + d (pM P i)) = P.ln i ∧ mSz d (pM P i) = P.cn i := by
  have h := hB.me i hi
  obtain ⟨a, b, c, e, f, g⟩ := hR.m i hi
  have h1 : d (pM P i) = P.pn i := by have := h.pn; omega
  have h2 : d (pM P i + 2 + d (pM P i)) = P.ln i := by rw [h1]; have := h.ln; omega
  refine ⟨h1, h2, ?_⟩
  unfold mSz
  rw [h2, h1]
  have := h.c0
  have := h.c1
  omega
theorem f_mS : ∀ i, i ≤ P.nm → mS d (m0 d + 1) i = pM P i
  | 0, _ => by show m0 d + 1 = _ + 0; rw [f_m0 hB]; unfold pC; omega
  | i + 1, h => by
    have ih := f_mS i (by omega)
    obtain ⟨h1, h2, h3⟩ := f_meth hR hB i (by omega)
    show mS d (m0 d + 1) i + 6 + d (mS d (m0 d + 1) i) + d (mS d (m0 d + 1) i + 2 + d (mS d (m0 d + 1) i)) + mSz d (mS d (m0 d + 1) i) = 7 + 8 * P.np + sumN (fun i => 1 + P.nf i) P.nc + (sumN (fun i => 6 + P.pn i + P.ln i + P.cn i) i + (6 + P.pn i + P.ln i + P.cn i))
    rw [ih, h2, h1, h3]
    unfold pM
    omega
theorem f_eqv (hpo : ∀ i, i < P.np → -9223372036854775808 ≤ P.po i ∧ P.po i ≤ 9223372036854775807) (hcd : ∀ i j, i < P.nm → j < P.cn i → P.cd i j < 256) : P.eqv (prs d) := by
  refine ⟨⟨hB.np.symm, fun i hi => ?_⟩, (f_nc hB).symm, fun i hi => ⟨?_, fun j hj => ?_⟩, (f_nm hB).symm, fun i hi => ?_⟩
  · have hp := hpo i hi
    have hb := hB.po i hi
    refine (wrap_back hp.1 hp.2 (hb 0 (by decide)).symm (hb 1 (by decide)).symm (hb 2 (by decide)).symm (hb 3 (by decide)).symm (hb 4 (by decide)).symm (hb 5 (by decide)).symm (hb 6 (by decide)).symm (hb 7 (by decide)).symm ?_).symm
    simp only [numU]
    simp only [Int.natCast_add, Int.natCast_mul, Nat.zero_add, Nat.mul_zero, Nat.pow_zero, Nat.mul_one]
    simp
    omega
  · show P.nf i = d (cS d (c0 d + 1) i)
    rw [f_cS hB i (by omega), hB.nf i hi]
  · have h1 := hB.fd i hi j hj
    have h2 := isTB_of (hR.ft i hi j hj)
    show P.ft i j = ((d (cS d (c0 d + 1) i + 1 + j) % 16 : Nat) : Int) ∧ P.fv i j = decide (16 ≤ d (cS d (c0 d + 1) i + 1 + j))
    rw [f_cS hB i (by omega)]
    generalize d (pC P i + 1 + j) = x at h1 ⊢
    unfold fldV at h1
    cases hv : P.fv i j with
    | true => rw [hv, if_pos rfl] at h1; exact ⟨by omega, by simp; omega⟩
    | false => rw [hv, if_neg (by decide)] at h1; exact ⟨by omega, by simp; omega⟩
  · obtain ⟨h1, h2, h3⟩ := f_meth hR hB i hi
    have h := hB.me i hi
    obtain ⟨a, b, c, e, f, g⟩ := hR.m i hi
    have hr := isRB_of g
    have ht := h.rt
    have hs := h.sk
    refine ⟨?_, ?_, ⟨?_, fun j hj => ?_⟩, ⟨?_, fun j hj => ?_⟩, ⟨?_, fun j hj => ?_⟩⟩
    · show P.rt i = ((d (mS d (m0 d + 1) i + 1 + d (mS d (m0 d + 1) i)) : Nat) : Int)
      rw [f_mS hR hB i (by omega), h1]; omega
    · show P.sk i = ((d (mS d (m0 d + 1) i + 3 + d (mS d (m0 d + 1) i) + d (mS d (m0 d + 1) i + 2 + d (mS d (m0 d + 1) i))) : Nat) : Int)
      rw [f_mS hR hB i (by omega), h2, h1]; omega
    · show P.pn i = d (mS d (m0 d + 1) i)
      rw [f_mS hR hB i (by omega), h1]
    · show P.pt i j = ((d (mS d (m0 d + 1) i + 1 + j) : Nat) : Int)
      rw [f_mS hR hB i (by omega), h.pt j hj, isTB_lt (hR.pt i hi j hj)]
    · show P.ln i = d (mS d (m0 d + 1) i + 2 + d (mS d (m0 d + 1) i))
      rw [f_mS hR hB i (by omega), h2]
    · show P.lt i j = ((d (mS d (m0 d + 1) i + 3 + d (mS d (m0 d + 1) i) + j) : Nat) : Int)
      rw [f_mS hR hB i (by omega), h1, h.lt j hj, isTB_lt (hR.lt i hi j hj)]
    · show P.cn i = mSz d (mS d (m0 d + 1) i)
      rw [f_mS hR hB i (by omega), h3]
    · show ((P.cd i j : Nat) : Int) = ((d (mS d (m0 d + 1) i + 6 + d (mS d (m0 d + 1) i) + d (mS d (m0 d + 1) i + 2 + d (mS d (m0 d + 1) i)) + j) : Nat) : Int)
      rw [f_mS hR hB i (by omega), h2, h1, h.cd j hj]
theorem f_prs : prsE P.bytes.length d = none := by
  have hn := bytes_len P
  generalize P.bytes.length = n at hn ⊢
  have sC : ∀ i, i < P.nc → pC P i + 1 + P.nf i ≤ pC P P.nc := fun i hi => by have := sumN_le (F := fun i => 1 + P.nf i) hi; unfold pC; omega
  have sM : ∀ i, i < P.nm → pM P i + 6 + P.pn i + P.ln i + P.cn i ≤ n := fun i hi => by have := sumN_le (F := fun i => 6 + P.pn i + P.ln i + P.cn i) hi; unfold pM; omega
  have eC : pC P P.nc < n := by unfold pC; omega
  have eE : pM P P.nm = n := by unfold pM; omega
  have e0 := f_c0 hB
  have en := f_nc hB
  have em := f_m0 hB
  have enm := f_nm hB
  have h1 := hR.np
  have h2 := hR.nc
  have h3 := hR.nm
  have hsz : 5 + 8 * P.np < n := by omega
  unfold prsE
  refine or_nn (firE_none fun i hi => nxE_ok (by omega) (by unfold eqB; rw [hB.m i hi]; simp)) ?_
  refine or_nn (nxE_ok (by omega) (by unfold leB; rw [hB.np]; simp; omega)) ?_
  refine or_nn (firE_none fun i hi => firE_none fun j hj => nxE_ok (by rw [hB.np] at hi; omega) rfl) ?_
  refine or_nn (nxE_ok (by omega) (by unfold leB; rw [en]; simp; omega)) ?_
  refine or_nn (firE_none fun i hi => ?_) ?_
  · rw [en] at hi
    have hs := sC i hi
    have hf := hR.nf i hi
    rw [f_cS hB i (by omega)]
    unfold fldsE
    rw [hB.nf i hi]
    refine or_nn (nxE_ok (by omega) (by unfold leB; rw [hB.nf i hi]; simp; omega)) (firE_none fun j hj => nxE_ok (by omega) ?_)
    have h4 := hB.fd i hi j hj
    have h5 := isTB_of (hR.ft i hi j hj)
    generalize d (pC P i + 1 + j) = x at h4 ⊢
    unfold flB isTB
    unfold fldV at h4
    cases hv : P.fv i j with
    | true => rw [hv, if_pos rfl] at h4; simp; omega
    | false => rw [hv, if_neg (by decide)] at h4; simp; omega
  refine or_nn (nxE_ok (by omega) (by unfold leB; rw [enm]; simp; omega)) ?_
  refine or_nn (if_neg (by rw [enm]; exact hR.n0)) ?_
  refine or_nn (firE_none fun i hi => ?_) ?_
  · rw [enm] at hi
    have hs := sM i hi
    obtain ⟨g1, g2, g3⟩ := f_meth hR hB i hi
    have hm := hB.me i hi
    obtain ⟨a, b, c, e, f, g⟩ := hR.m i hi
    have hr := isRB_of g
    rw [f_mS hR hB i (by omega)]
    unfold methE
    rw [g2, g1, g3]
    refine or_nn (nxE_ok (by omega) rfl) ?_
    refine or_nn (firE_none fun j hj => nxE_ok (by omega) (by unfold tyB; rw [hm.pt j hj, isTB_lt (hR.pt i hi j hj)]; exact hR.pt i hi j hj)) ?_
    refine or_nn (nxE_ok (by omega) (by unfold rtB; rw [hm.rt, show P.rt i % 256 = P.rt i by omega]; exact g)) ?_
    refine or_nn (nxE_ok (by omega) (by unfold leB; have := hm.ln; simp; omega)) ?_
    refine or_nn (firE_none fun j hj => nxE_ok (by omega) (by unfold tyB; rw [hm.lt j hj, isTB_lt (hR.lt i hi j hj)]; exact hR.lt i hi j hj)) ?_
    refine or_nn (nxE_ok (by omega) (by unfold leB; have := hm.sk; simp; omega)) ?_
    refine or_nn (nxE_ok (by omega) rfl) ?_
    refine or_nn (nxE_ok (by omega) rfl) ?_
    refine or_nn ((if_neg (by omega)).trans (if_neg (by omega))) ?_
    exact firE_none fun j hj => nxE_ok (by omega) rfl
  refine or_nn (if_neg (by rw [enm, f_mS hR hB _ (Nat.le_refl _)]; omega)) ?_
  rw [argE_eq]
  refine if_pos (decide_eq_true ?_)
  obtain ⟨g1, g2, g3⟩ := f_meth hR hB 0 (by have := hR.n0; omega)
  have hm := hB.me 0 (by have := hR.n0; omega)
  have hf := hR.fst
  have hmt := hm.rt
  refine ⟨?_, ?_⟩
  · show d (mS d (m0 d + 1) 0) = 0
    rw [f_mS hR hB 0 (by omega), g1, hf.1]
  · show ((d (mS d (m0 d + 1) 0 + 1 + d (mS d (m0 d + 1) 0)) : Nat) : Int) = 0
    rw [f_mS hR hB 0 (by omega), g1, hmt, hf.2]
    rfl
end
end Go.Proofs.Ytpiafgmncfibmaa
