import Derived.Test.YtpiafgmncfibmaaPx
import Derived.Test.YtpiafgmncfibmaaFr
import Derived.Test.YtpiafgmncfibmaaRows
import Derived.WalkKit
import Derived.ProofKit
import Derived.OpenShut
import Derived.Deep.QuietTactic
import Derived.BigQuiet
import Derived.Outline
import Derived.WalkSmall
import Derived.WalkLawsBesides
import Derived.WalkSpells
import Derived.BigGuardPart
import Derived.RegionTactic
import Derived.Deep.RegionHeld3
import Derived.Lib.Hide
import Derived.Deep.MidRow
import Derived.Below
import Derived.Deep.RegionWith
import Derived.Deep.OwnRows
import Derived.Deep.AppendLies
import Derived.Deep.RegionLaw
namespace Go.Proofs.Ytpiafgmncfibmaa
open Go.ChangeShapes Go.WideShapes Go.ChangeAt Go.RowKit
set_option linter.unusedVariables false

theorem nx_lt {n : Nat} {d : Nat → Nat} {er : Int} {ok : Nat → Bool} {k : Nat} (h : nxE n d er ok k = none) : k < n := (nxE_none h).1
theorem nx_ok {n : Nat} {d : Nat → Nat} {er : Int} {ok : Nat → Bool} {k : Nat} (h : nxE n d er ok k = none) : ok (d k) = true := (nxE_none h).2
theorem le_of {m : Int} {v : Nat} (h : leB m v = true) : (v : Int) ≤ m := of_decide_eq_true h
/-- What holds of a method whose bytes are right. -/
structure MOk (n : Nat) (d : Nat → Nat) (k : Nat) : Prop where
  pn : k < n
  pt : ∀ j, j < d k → k + 1 + j < n ∧ isTB (d (k + 1 + j)) = true
  rt : k + 1 + d k < n ∧ isRB (d (k + 1 + d k)) = true
  ln : k + 2 + d k < n ∧ d k + d (k + 2 + d k) ≤ 40
  lt : ∀ j, j < d (k + 2 + d k) → k + 3 + d k + j < n ∧ isTB (d (k + 3 + d k + j)) = true
  sk : k + 3 + d k + d (k + 2 + d k) < n ∧ d (k + 3 + d k + d (k + 2 + d k)) ≤ 40
  c0 : k + 4 + d k + d (k + 2 + d k) < n
  c1 : k + 5 + d k + d (k + 2 + d k) < n
  cn : 0 < mSz d k ∧ mSz d k ≤ 4096
  cd : ∀ j, j < mSz d k → k + 6 + d k + d (k + 2 + d k) + j < n
theorem mok_of {n : Nat} {d : Nat → Nat} {k : Nat} (h : methE n d k = none) : MOk n d k := by
  unfold methE at h
  obtain ⟨h1, h⟩ := or_split h
  obtain ⟨h2, h⟩ := or_split h
  obtain ⟨h3, h⟩ := or_split h
  obtain ⟨h4, h⟩ := or_split h
  obtain ⟨h5, h⟩ := or_split h
  obtain ⟨h6, h⟩ := or_split h
  obtain ⟨h7, h⟩ := or_split h
  obtain ⟨h8, h⟩ := or_split h
  obtain ⟨h9, h10⟩ := or_split h
  refine ⟨nx_lt h1, fun j hj => ⟨nx_lt (firE_lt h2 j hj), nx_ok (firE_lt h2 j hj)⟩, ⟨nx_lt h3, nx_ok h3⟩, ⟨nx_lt h4, by have := le_of (nx_ok h4); omega⟩, fun j hj => ⟨nx_lt (firE_lt h5 j hj), nx_ok (firE_lt h5 j hj)⟩, ⟨nx_lt h6, by have := le_of (nx_ok h6); omega⟩, nx_lt h7, nx_lt h8, ?_, fun j hj => nx_lt (firE_lt h10 j hj)⟩
  unfold sizE at h9
  split at h9
  · cases h9
  · split at h9
    · cases h9
    · omega
theorem dig (A x R K : Int) (hK : 0 < K) (h0 : 0 ≤ A) (h1 : A < K) (hx0 : 0 ≤ x) (hx : x < 256) : (A + K * (x + 256 * R)) / K % 256 = x := by
  rw [Int.add_mul_ediv_left _ _ (by omega), Int.ediv_eq_zero_of_lt h0 h1, Int.zero_add, Int.add_mul_emod_self_left, Int.emod_eq_of_lt hx0 hx]
theorem wrap_q (N : Int) : ∃ q : Int, IntKind.i64.wrap N = N + q * 18446744073709551616 := by
  rw [IntKind.wrap_i64]
  exact ⟨-((N + 9223372036854775808) / 18446744073709551616), by omega⟩
theorem num_back8 (x0 x1 x2 x3 x4 x5 x6 x7 : Nat) (h0 : x0 < 256) (h1 : x1 < 256) (h2 : x2 < 256) (h3 : x3 < 256) (h4 : x4 < 256) (h5 : x5 < 256) (h6 : x6 < 256) (h7 : x7 < 256) (W q : Int)
    (hW : W = (x0 : Int) + (x1 : Int) * 256 + (x2 : Int) * 65536 + (x3 : Int) * 16777216 + (x4 : Int) * 4294967296 + (x5 : Int) * 1099511627776 + (x6 : Int) * 281474976710656 + (x7 : Int) * 72057594037927936 + q * 18446744073709551616) :
    (x0 : Int) = W / 1 % 256 ∧ (x1 : Int) = W / 256 % 256 ∧ (x2 : Int) = W / 65536 % 256 ∧ (x3 : Int) = W / 16777216 % 256 ∧ (x4 : Int) = W / 4294967296 % 256 ∧ (x5 : Int) = W / 1099511627776 % 256 ∧ (x6 : Int) = W / 281474976710656 % 256 ∧ (x7 : Int) = W / 72057594037927936 % 256 := by
  refine ⟨?_, ?_, ?_, ?_, ?_, ?_, ?_, ?_⟩
  · rw [show W = (0) + 1 * ((x0 : Int) + 256 * ((x1 : Int) + (x2 : Int) * 256 + (x3 : Int) * 65536 + (x4 : Int) * 16777216 + (x5 : Int) * 4294967296 + (x6 : Int) * 1099511627776 + (x7 : Int) * 281474976710656 + q * 72057594037927936)) by omega, dig _ _ _ _ (by decide) (by omega) (by omega) (by omega) (by omega)]
  · rw [show W = ((x0 : Int)) + 256 * ((x1 : Int) + 256 * ((x2 : Int) + (x3 : Int) * 256 + (x4 : Int) * 65536 + (x5 : Int) * 16777216 + (x6 : Int) * 4294967296 + (x7 : Int) * 1099511627776 + q * 281474976710656)) by omega, dig _ _ _ _ (by decide) (by omega) (by omega) (by omega) (by omega)]
  · rw [show W = ((x0 : Int) + (x1 : Int) * 256) + 65536 * ((x2 : Int) + 256 * ((x3 : Int) + (x4 : Int) * 256 + (x5 : Int) * 65536 + (x6 : Int) * 16777216 + (x7 : Int) * 4294967296 + q * 1099511627776)) by omega, dig _ _ _ _ (by decide) (by omega) (by omega) (by omega) (by omega)]
  · rw [show W = ((x0 : Int) + (x1 : Int) * 256 + (x2 : Int) * 65536) + 16777216 * ((x3 : Int) + 256 * ((x4 : Int) + (x5 : Int) * 256 + (x6 : Int) * 65536 + (x7 : Int) * 16777216 + q * 4294967296)) by omega, dig _ _ _ _ (by decide) (by omega) (by omega) (by omega) (by omega)]
  · rw [show W = ((x0 : Int) + (x1 : Int) * 256 + (x2 : Int) * 65536 + (x3 : Int) * 16777216) + 4294967296 * ((x4 : Int) + 256 * ((x5 : Int) + (x6 : Int) * 256 + (x7 : Int) * 65536 + q * 16777216)) by omega, dig _ _ _ _ (by decide) (by omega) (by omega) (by omega) (by omega)]
  · rw [show W = ((x0 : Int) + (x1 : Int) * 256 + (x2 : Int) * 65536 + (x3 : Int) * 16777216 + (x4 : Int) * 4294967296) + 1099511627776 * ((x5 : Int) + 256 * ((x6 : Int) + (x7 : Int) * 256 + q * 65536)) by omega, dig _ _ _ _ (by decide) (by omega) (by omega) (by omega) (by omega)]
  · rw [show W = ((x0 : Int) + (x1 : Int) * 256 + (x2 : Int) * 65536 + (x3 : Int) * 16777216 + (x4 : Int) * 4294967296 + (x5 : Int) * 1099511627776) + 281474976710656 * ((x6 : Int) + 256 * ((x7 : Int) + q * 256)) by omega, dig _ _ _ _ (by decide) (by omega) (by omega) (by omega) (by omega)]
  · rw [show W = ((x0 : Int) + (x1 : Int) * 256 + (x2 : Int) * 65536 + (x3 : Int) * 16777216 + (x4 : Int) * 4294967296 + (x5 : Int) * 1099511627776 + (x6 : Int) * 281474976710656) + 72057594037927936 * ((x7 : Int) + 256 * (q)) by omega, dig _ _ _ _ (by decide) (by omega) (by omega) (by omega) (by omega)]
theorem num_back {d : Nat → Nat} {k : Nat} (h : ∀ i, i < 8 → d (k + i) < 256) : ∀ j, j < 8 → ((d (k + j) : Nat) : Int) = IntKind.i64.wrap (numU d k 8 : Nat) / 2 ^ (8 * j) % 256 := by
  have e : (numU d k 8 : Int) = (d (k + 0) : Int) + (d (k + 1) : Int) * 256 + (d (k + 2) : Int) * 65536 + (d (k + 3) : Int) * 16777216 + (d (k + 4) : Int) * 4294967296 + (d (k + 5) : Int) * 1099511627776 + (d (k + 6) : Int) * 281474976710656 + (d (k + 7) : Int) * 72057594037927936 := by
    simp only [numU]
    simp
  obtain ⟨q, hq⟩ := wrap_q (numU d k 8 : Nat)
  rw [e] at hq
  obtain ⟨g0, g1, g2, g3, g4, g5, g6, g7⟩ := num_back8 _ _ _ _ _ _ _ _ (h 0 (by decide)) (h 1 (by decide)) (h 2 (by decide)) (h 3 (by decide)) (h 4 (by decide)) (h 5 (by decide)) (h 6 (by decide)) (h 7 (by decide)) _ q hq
  rw [e]
  intro j hj
  have : j = 0 ∨ j = 1 ∨ j = 2 ∨ j = 3 ∨ j = 4 ∨ j = 5 ∨ j = 6 ∨ j = 7 := by omega
  rcases this with rfl | rfl | rfl | rfl | rfl | rfl | rfl | rfl
  · exact g0
  · exact g1
  · exact g2
  · exact g3
  · exact g4
  · exact g5
  · exact g6
  · exact g7
theorem cS_sum (d : Nat → Nat) (k : Nat) : ∀ i, cS d k i = k + sumN (fun i => 1 + d (cS d k i)) i
  | 0 => rfl
  | i + 1 => by
    show cS d k i + 1 + d (cS d k i) = k + (sumN (fun i => 1 + d (cS d k i)) i + (1 + d (cS d k i)))
    have := cS_sum d k i
    omega
theorem mS_sum (d : Nat → Nat) (k : Nat) : ∀ i, mS d k i = k + sumN (fun i => 6 + d (mS d k i) + d (mS d k i + 2 + d (mS d k i)) + mSz d (mS d k i)) i
  | 0 => rfl
  | i + 1 => by
    show mS d k i + 6 + d (mS d k i) + d (mS d k i + 2 + d (mS d k i)) + mSz d (mS d k i) = k + (sumN (fun i => 6 + d (mS d k i) + d (mS d k i + 2 + d (mS d k i)) + mSz d (mS d k i)) i + (6 + d (mS d k i) + d (mS d k i + 2 + d (mS d k i)) + mSz d (mS d k i)))
    have := mS_sum d k i
    omega
section
variable {n : Nat} {d : Nat → Nat} (h : prsE n d = none) (hd : ∀ i, i < n → d i < 256)
include h
theorem b_parts : (∀ i, i < 4 → i < n ∧ d i = magN i) ∧ (4 < n ∧ d 4 ≤ 200) ∧ (∀ i, i < d 4 → ∀ k, k < 8 → 5 + 8 * i + k < n) ∧ (c0 d < n ∧ d (c0 d) ≤ 50) ∧
    (∀ i, i < d (c0 d) → cS d (c0 d + 1) i < n ∧ d (cS d (c0 d + 1) i) ≤ 50 ∧ ∀ j, j < d (cS d (c0 d + 1) i) → cS d (c0 d + 1) i + 1 + j < n ∧ flB (d (cS d (c0 d + 1) i + 1 + j)) = true) ∧
    (m0 d < n ∧ d (m0 d) ≤ 100) ∧ d (m0 d) ≠ 0 ∧ (∀ i, i < d (m0 d) → MOk n d (mS d (m0 d + 1) i)) ∧ mS d (m0 d + 1) (d (m0 d)) = n ∧ ((prs d).pn 0 = 0 ∧ (prs d).rt 0 = 0) := by
  obtain ⟨hp, he, ha⟩ := prs_end h
  unfold preE at hp
  obtain ⟨h1, hp⟩ := or_split hp
  obtain ⟨h2, hp⟩ := or_split hp
  obtain ⟨h3, hp⟩ := or_split hp
  obtain ⟨h4, hp⟩ := or_split hp
  obtain ⟨h5, hp⟩ := or_split hp
  obtain ⟨h6, hp⟩ := or_split hp
  obtain ⟨h7, h8⟩ := or_split hp
  refine ⟨fun i hi => ⟨nx_lt (firE_lt h1 i hi), ?_⟩, ⟨nx_lt h2, by have := le_of (nx_ok h2); omega⟩, fun i hi k hk => nx_lt (firE_lt (firE_lt h3 i hi) k hk), ⟨nx_lt h4, by have := le_of (nx_ok h4); omega⟩, fun i hi => ?_, ⟨nx_lt h6, by have := le_of (nx_ok h6); omega⟩, ?_, fun i hi => mok_of (firE_lt h8 i hi), he, ?_⟩
  · have := nx_ok (firE_lt h1 i hi)
    unfold eqB at this
    have := of_decide_eq_true (p := ((d i : Nat) : Int) = (magN i : Nat)) (by simpa using this)
    omega
  · obtain ⟨g1, g2⟩ := or_split (firE_lt h5 i hi)
    exact ⟨nx_lt g1, by have := le_of (nx_ok g1); omega, fun j hj => ⟨nx_lt (firE_lt g2 j hj), nx_ok (firE_lt g2 j hj)⟩⟩
  · intro hz
    unfold noneE at h7
    rw [if_pos hz] at h7
    cases h7
  · rw [argE_eq] at ha
    by_cases hq : (prs d).pn 0 = 0 ∧ (prs d).rt 0 = 0
    · exact hq
    · rw [if_neg (by simpa using hq)] at ha; cases ha
include hd
omit hd in
theorem b_rt : Rt (prs d) := by
  obtain ⟨h1, h2, h3, h4, h5, h6, h7, h8, h9, h10⟩ := b_parts h
  refine ⟨h2.2, h4.2, fun i hi => (h5 i hi).2.1, h6.2, h7, fun i hi => ?_, fun i hi j hj => ?_, fun i hi j hj => ((h8 i hi).pt j hj).2, fun i hi j hj => ((h8 i hi).lt j hj).2, h10⟩
  · have m := h8 i hi
    exact ⟨m.ln.2, Int.natCast_nonneg _, by have := m.sk.2; show ((d _ : Nat) : Int) ≤ 40; omega, m.cn.1, m.cn.2, m.rt.2⟩
  · have hf := ((h5 i hi).2.2 j hj).2
    show isTB ((d (cS d (c0 d + 1) i + 1 + j) % 16 : Nat) : Int) = true
    generalize d (cS d (c0 d + 1) i + 1 + j) = x at hf ⊢
    unfold flB isTB at hf
    unfold isTB
    simp at hf ⊢
    omega
theorem b_ba : BA d (prs d) := by
  obtain ⟨h1, h2, h3, h4, h5, h6, h7, h8, h9, h10⟩ := b_parts h
  have eC : ∀ i, pC (prs d) i = cS d (c0 d + 1) i := fun i => by rw [cS_sum]; unfold pC c0; show 6 + 8 * d 4 + _ = 5 + 8 * d 4 + 1 + _; have : sumN (fun i => 1 + (prs d).nf i) i = sumN (fun i => 1 + d (cS d (5 + 8 * d 4 + 1) i)) i := rfl; omega
  have e0 : 6 + 8 * (prs d).np + sumN (fun i => 1 + (prs d).nf i) (prs d).nc = m0 d := eC _
  have eM : ∀ i, pM (prs d) i = mS d (m0 d + 1) i := fun i => by
    rw [mS_sum]
    have : sumN (fun i => 6 + (prs d).pn i + (prs d).ln i + (prs d).cn i) i = sumN (fun i => 6 + d (mS d (m0 d + 1) i) + d (mS d (m0 d + 1) i + 2 + d (mS d (m0 d + 1) i)) + mSz d (mS d (m0 d + 1) i)) i := rfl
    unfold pM
    omega
  refine ⟨fun i hi => (h1 i hi).2, rfl, fun i hi => num_back (fun k hk => hd _ (h3 i hi k hk)), rfl, fun i hi => by rw [eC]; rfl, fun i hi j hj => ?_, by rw [e0]; rfl, fun i hi => ?_⟩
  · rw [eC]
    have hf := ((h5 i hi).2.2 j hj).2
    show ((d (cS d (c0 d + 1) i + 1 + j) : Nat) : Int) = fldV ((d (cS d (c0 d + 1) i + 1 + j) % 16 : Nat) : Int) (decide (16 ≤ d (cS d (c0 d + 1) i + 1 + j)))
    generalize d (cS d (c0 d + 1) i + 1 + j) = x at hf ⊢
    unfold flB isTB at hf
    unfold fldV
    simp at hf
    by_cases hx : 16 ≤ x
    · rw [if_pos (decide_eq_true hx)]; omega
    · rw [if_neg (by simpa using hx)]; omega
  · rw [eM]
    have m := h8 i hi
    generalize hk : mS d (m0 d + 1) i = k at m
    have q1 : (prs d).pn i = d k := by rw [← hk]; rfl
    have q2 : (prs d).ln i = d (k + 2 + d k) := by rw [← hk]; rfl
    have q3 : (prs d).cn i = mSz d k := by rw [← hk]; rfl
    have b1 := hd _ m.pn
    have b2 := hd _ m.rt.1
    have b3 := hd _ m.ln.1
    have b4 := hd _ m.sk.1
    have b5 := hd _ m.c0
    have b6 := hd _ m.c1
    refine ⟨by rw [q1]; omega, fun j hj => ?_, ?_, ?_, fun j hj => ?_, ?_, ?_, ?_, fun j hj => ?_⟩
    · rw [q1] at hj
      have := hd _ (m.pt j hj).1
      rw [show (prs d).pt i j = ((d (k + 1 + j) : Nat) : Int) by rw [← hk]; rfl]
      omega
    · rw [show (prs d).rt i = ((d (k + 1 + d k) : Nat) : Int) by rw [← hk]; rfl, q1]; omega
    · rw [q1, q2]; omega
    · rw [q2] at hj
      have := hd _ (m.lt j hj).1
      rw [show (prs d).lt i j = ((d (k + 3 + d k + j) : Nat) : Int) by rw [← hk]; rfl, q1]
      omega
    · rw [show (prs d).sk i = ((d (k + 3 + d k + d (k + 2 + d k)) : Nat) : Int) by rw [← hk]; rfl, q1, q2]; omega
    · rw [q1, q2, q3]; unfold mSz; omega
    · rw [q1, q2, q3]; unfold mSz; omega
    · rw [show (prs d).cd i j = d (k + 6 + d k + d (k + 2 + d k) + j) by rw [← hk]; rfl, q1, q2]
omit hd in
theorem b_len : (prs d).bytes.length = n := by
  obtain ⟨h1, h2, h3, h4, h5, h6, h7, h8, h9, h10⟩ := b_parts h
  rw [bytes_len, ← h9, mS_sum]
  have e0 : m0 d = 6 + 8 * d 4 + sumN (fun i => 1 + (prs d).nf i) (prs d).nc := by
    show cS d (c0 d + 1) _ = _
    rw [cS_sum]
    show 5 + 8 * d 4 + 1 + _ = _
    have : sumN (fun i => 1 + (prs d).nf i) (prs d).nc = sumN (fun i => 1 + d (cS d (c0 d + 1) i)) (d (c0 d)) := rfl
    omega
  have e1 : sumN (fun i => 6 + (prs d).pn i + (prs d).ln i + (prs d).cn i) (prs d).nm = sumN (fun i => 6 + d (mS d (m0 d + 1) i) + d (mS d (m0 d + 1) i + 2 + d (mS d (m0 d + 1) i)) + mSz d (mS d (m0 d + 1) i)) (d (m0 d)) := rfl
  show 7 + 8 * d 4 + _ + _ = _
  omega
/-- What is read is written just so. -/
theorem b_bytes : (prs d).bytes = (List.range n).map fun i => ((d i : Nat) : Int) := by
  have hA := ba_iff.2 (b_ba h hd)
  have hl := b_len h
  refine List.ext_getElem? fun i => ?_
  by_cases hi : i < n
  · have hx : (prs d).bytes[i]? = some ((prs d).bytes[i]'(by omega)) := List.getElem?_eq_getElem (by omega)
    have := hA i _ hx
    rw [Nat.zero_add] at this
    rw [hx, List.getElem?_map, List.getElem?_range hi, ← this]
    rfl
  · rw [List.getElem?_eq_none (by omega), List.getElem?_eq_none (by simp; omega)]
theorem b_fits (A : Ad) : Fits (prs d) A := by
  have hR := b_rt h
  have h1 := hR.np
  have h2 := hR.nc
  have h3 := hR.nm
  obtain ⟨g1, g2, g3, g4, g5, g6, g7, g8, g9, g10⟩ := b_parts h
  refine ⟨by unfold Big; omega, by unfold Big; omega, by unfold Big; omega, fun i hi => ?_, fun i hi => by have := hR.nf i hi; unfold Big; omega, fun i hi => by have := hR.m i hi; unfold Big; omega, fun i hi => by have := hR.m i hi; unfold Big; omega, fun i hi => by have := hR.m i hi; unfold Big; omega, fun i j hi hj => hd _ ((g8 i hi).cd j hj)⟩
  show _ ≤ IntKind.i64.wrap _ ∧ IntKind.i64.wrap _ ≤ _
  rw [IntKind.wrap_i64]
  omega
end
end Go.Proofs.Ytpiafgmncfibmaa
