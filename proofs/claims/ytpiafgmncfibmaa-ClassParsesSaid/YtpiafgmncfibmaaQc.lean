import Derived.Test.YtpiafgmncfibmaaPy
import Derived.Test.YtpiafgmncfibmaaRows
import Derived.WalkKit
import Derived.ProofKit
import Derived.OpenShut
import Derived.Deep.QuietTactic
import Derived.BigQuiet
import Derived.Outline
import Derived.WalkSmall
import Derived.WalkLawsBesides
import Derived.WalkSpells
import Derived.BigGuardPart
import Derived.RegionTactic
import Derived.Deep.RegionHeld3
import Derived.Lib.Hide
import Derived.Deep.MidRow
import Derived.Below
import Derived.Deep.RegionWith
import Derived.Deep.OwnRows
import Derived.Deep.AppendLies
import Derived.Deep.RegionLaw
namespace Go.Proofs.Ytpiafgmncfibmaa
open Go.ChangeShapes Go.WideShapes Go.ChangeAt Go.RowKit
set_option linter.unusedVariables false

theorem pre_parts {n : Nat} {d : Nat → Nat} (h : preE n d = none) : d 4 ≤ 200 ∧ d (c0 d) ≤ 50 ∧
    (∀ i, i < d (c0 d) → d (cS d (c0 d + 1) i) ≤ 50 ∧ ∀ j, j < d (cS d (c0 d + 1) i) → flB (d (cS d (c0 d + 1) i + 1 + j)) = true) ∧
    d (m0 d) ≤ 100 ∧ d (m0 d) ≠ 0 ∧ (∀ i, i < d (m0 d) → MOk n d (mS d (m0 d + 1) i)) := by
  have hp := h
  unfold preE at hp
  obtain ⟨h1, hp⟩ := or_split hp
  obtain ⟨h2, hp⟩ := or_split hp
  obtain ⟨h3, hp⟩ := or_split hp
  obtain ⟨h4, hp⟩ := or_split hp
  obtain ⟨h5, hp⟩ := or_split hp
  obtain ⟨h6, hp⟩ := or_split hp
  obtain ⟨h7, h8⟩ := or_split hp
  refine ⟨by have := le_of (nx_ok h2); omega, by have := le_of (nx_ok h4); omega, fun i hi => ?_, by have := le_of (nx_ok h6); omega, ?_, fun i hi => mok_of (firE_lt h8 i hi)⟩
  · obtain ⟨g1, g2⟩ := or_split (firE_lt h5 i hi)
    exact ⟨by have := le_of (nx_ok g1); omega, fun j hj => nx_ok (firE_lt g2 j hj)⟩
  · intro hz
    unfold noneE at h7
    rw [if_pos hz] at h7
    cases h7
theorem pre_chk {n : Nat} {d : Nat → Nat} (h : preE n d = none) : (prs d).chk = if decide ((prs d).pn 0 = 0 ∧ (prs d).rt 0 = 0) = true then 0 else 1 := by
  obtain ⟨h2, h4, h5, h6, h7, h8⟩ := pre_parts h
  have m : ∀ i, i < (prs d).nm → (prs d).pn i + (prs d).ln i ≤ 40 ∧ 0 ≤ (prs d).sk i ∧ (prs d).sk i ≤ 40 ∧ 0 < (prs d).cn i ∧ (prs d).cn i ≤ 4096 ∧ isRB ((prs d).rt i) = true := fun i hi => by
    have m := h8 i hi
    exact ⟨m.ln.2, Int.natCast_nonneg _, by have := m.sk.2; show ((d _ : Nat) : Int) ≤ 40; omega, m.cn.1, m.cn.2, m.rt.2⟩
  have ft : ∀ i, i < (prs d).nc → ∀ j, j < (prs d).nf i → isTB ((prs d).ft i j) = true := fun i hi j hj => by
    have hf := (h5 i hi).2 j hj
    show isTB ((d (cS d (c0 d + 1) i + 1 + j) % 16 : Nat) : Int) = true
    generalize d (cS d (c0 d + 1) i + 1 + j) = x at hf ⊢
    unfold flB isTB at hf
    unfold isTB
    simp at hf ⊢
    omega
  have pt : ∀ i, i < (prs d).nm → ∀ j, j < (prs d).pn i → isTB ((prs d).pt i j) = true := fun i hi j hj => ((h8 i hi).pt j hj).2
  have lt : ∀ i, i < (prs d).nm → ∀ j, j < (prs d).ln i → isTB ((prs d).lt i j) = true := fun i hi j hj => ((h8 i hi).lt j hj).2
  have q3 : anyN (prs d).nc (fun i => decide (50 < (prs d).nf i)) = false := anyN_mk fun i hi => decide_eq_false (by have : (prs d).nf i ≤ 50 := (h5 i hi).1; omega)
  have q6 : firstE (prs d).nm (prs d).err = 0 := firstE_zero fun i hi => by
    obtain ⟨a, b, c, e, f, g⟩ := m i hi
    unfold Pg.err chkM
    rw [if_neg (by omega), if_neg (by rw [g]; simp; omega), if_neg (by omega)]
  have w1 : (prs d).wrongF = false := anyN_mk fun i hi => anyN_mk fun j hj => by rw [ft i hi j hj]; rfl
  have w2 : (prs d).wrongT = false := anyN_mk fun i hi => by
    unfold wrongM
    rw [anyN_mk fun j hj => by rw [pt i hi j hj]; rfl, anyN_mk fun j hj => by rw [lt i hi j hj]; rfl]
    rfl
  have e1 : (prs d).np = d 4 := rfl
  have e2 : (prs d).nc = d (c0 d) := rfl
  have e3 : (prs d).nm = d (m0 d) := rfl
  rw [chk_g (prs d) (by omega) (by omega) q3 (by omega) (by omega) q6, w1, w2]
  show (if (prs d).first = false then 1 else 0) = if (prs d).first = true then 0 else 1
  cases (prs d).first <;> rfl
theorem pre_fits {n : Nat} {d : Nat → Nat} (h : preE n d = none) (hd : ∀ i, i < n → d i < 256) (A : Ad) : Fits (prs d) A := by
  obtain ⟨h2, h4, h5, h6, h7, h8⟩ := pre_parts h
  have e1 : (prs d).np = d 4 := rfl
  have e2 : (prs d).nc = d (c0 d) := rfl
  have e3 : (prs d).nm = d (m0 d) := rfl
  refine ⟨by unfold Big; omega, by unfold Big; omega, by unfold Big; omega, fun i hi => ?_, fun i hi => ?_, fun i hi => ?_, fun i hi => ?_, fun i hi => ?_, fun i j hi hj => hd _ ((h8 i hi).cd j hj)⟩
  · show _ ≤ IntKind.i64.wrap _ ∧ IntKind.i64.wrap _ ≤ _
    rw [IntKind.wrap_i64]
    omega
  · have : (prs d).nf i ≤ 50 := (h5 i hi).1
    unfold Big; omega
  · have : (prs d).pn i + (prs d).ln i ≤ 40 := (h8 i hi).ln.2
    unfold Big; omega
  · have : (prs d).pn i + (prs d).ln i ≤ 40 := (h8 i hi).ln.2
    unfold Big; omega
  · have : (prs d).cn i ≤ 4096 := (h8 i hi).cn.2
    unfold Big; omega
end Go.Proofs.Ytpiafgmncfibmaa
