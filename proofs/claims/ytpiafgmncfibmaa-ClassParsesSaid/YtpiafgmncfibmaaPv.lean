import Derived.Test.YtpiafgmncfibmaaPu
import Derived.Test.YtpiafgmncfibmaaCm
import Derived.Test.YtpiafgmncfibmaaE3
import Derived.Test.YtpiafgmncfibmaaBy
import Derived.Test.YtpiafgmncfibmaaRows
import Derived.WalkKit
import Derived.ProofKit
import Derived.OpenShut
import Derived.Deep.QuietTactic
import Derived.BigQuiet
import Derived.Outline
import Derived.WalkSmall
import Derived.WalkLawsBesides
import Derived.WalkSpells
import Derived.BigGuardPart
import Derived.RegionTactic
import Derived.Deep.RegionHeld3
import Derived.Lib.Hide
import Derived.Deep.MidRow
import Derived.Below
import Derived.Deep.RegionWith
import Derived.Deep.OwnRows
import Derived.Deep.AppendLies
import Derived.Deep.RegionLaw
namespace Go.Proofs.Ytpiafgmncfibmaa
open Go.ChangeShapes Go.WideShapes Go.ChangeAt Go.RowKit
set_option linter.unusedVariables false

/-- The looks of f go from k to k1, one at each place, and all are right up to n. -/
structure Cov (f : Nat → Option (Nat × Int)) (k k1 : Nat) : Prop where
  le : k ≤ k1
  ok : ∀ c, k1 ≤ c → f c = none
  cut : ∀ c, k ≤ c → c < k1 → f c = some (c, 6)
theorem Cov.seq {f g : Nat → Option (Nat × Int)} {k k1 k2 : Nat} (h : Cov f k k1) (h' : Cov g k1 k2) : Cov (fun n => (f n).or (g n)) k k2 :=
  ⟨Nat.le_trans h.le h'.le, fun c hc => by show (f c).or (g c) = _; rw [h.ok c (Nat.le_trans h'.le hc), h'.ok c hc]; rfl, fun c h1 h2 => by
    show (f c).or (g c) = _
    by_cases hc : c < k1
    · rw [h.cut c h1 hc]; rfl
    · rw [h.ok c (by omega), h'.cut c (by omega) h2]; rfl⟩
theorem Cov.nx {n : Nat} {d : Nat → Nat} {er : Int} {ok : Nat → Bool} {k : Nat} (h : nxE n d er ok k = none) : Cov (fun n => nxE n d er ok k) k (k + 1) :=
  ⟨by omega, fun c hc => nxE_ok hc (nxE_none h).2, fun c h1 h2 => by obtain rfl : c = k := (by omega); exact nxE_short (Nat.le_refl _)⟩
theorem Cov.const {x : Option (Nat × Int)} {k : Nat} (h : x = none) : Cov (fun _ => x) k k := ⟨Nat.le_refl _, fun _ _ => h, fun c h1 h2 => by omega⟩
theorem Cov.fir {f : Nat → Nat → Option (Nat × Int)} {p : Nat → Nat} : ∀ {m : Nat}, (∀ i, i < m → Cov (fun n => f n i) (p i) (p (i + 1))) → Cov (fun n => firE (f n) m) (p 0) (p m)
  | 0, _ => Cov.const (x := none) rfl
  | m + 1, h => (Cov.fir fun i hi => h i (by omega)).seq (h m (by omega))
theorem Cov.cast {f : Nat → Option (Nat × Int)} {k k' k1 k1' : Nat} (h : Cov f k k1) (e : k = k') (e1 : k1 = k1') : Cov f k' k1' := e ▸ e1 ▸ h
theorem or_split {a b : Option (Nat × Int)} (h : a.or b = none) : a = none ∧ b = none := Option.or_eq_none_iff.1 h
theorem cov_tys {n : Nat} {d : Nat → Nat} {k m : Nat} (h : tysE n d k m = none) : Cov (fun n => tysE n d k m) k (k + m) := Cov.fir (p := fun i => k + i) fun i hi => Cov.nx (firE_lt h i hi)
theorem cov_any {n : Nat} {d : Nat → Nat} {k m : Nat} (h : firE (fun i => nxE n d 0 anyB (k + i)) m = none) : Cov (fun n => firE (fun i => nxE n d 0 anyB (k + i)) m) k (k + m) := Cov.fir (p := fun i => k + i) fun i hi => Cov.nx (firE_lt h i hi)
theorem cov_flds {n : Nat} {d : Nat → Nat} {k : Nat} (h : fldsE n d k = none) : Cov (fun n => fldsE n d k) k (k + 1 + d k) :=
  (have h' := or_split h
   (Cov.nx h'.1).seq (Cov.fir (p := fun j => k + 1 + j) fun i hi => Cov.nx (firE_lt h'.2 i hi)))
theorem cov_meth {n : Nat} {d : Nat → Nat} {k : Nat} (h : methE n d k = none) : Cov (fun n => methE n d k) k (k + 6 + d k + d (k + 2 + d k) + mSz d k) := by
  unfold methE at h
  obtain ⟨h1, h⟩ := or_split h
  obtain ⟨h2, h⟩ := or_split h
  obtain ⟨h3, h⟩ := or_split h
  obtain ⟨h4, h⟩ := or_split h
  obtain ⟨h5, h⟩ := or_split h
  obtain ⟨h6, h⟩ := or_split h
  obtain ⟨h7, h⟩ := or_split h
  obtain ⟨h8, h⟩ := or_split h
  obtain ⟨h9, h10⟩ := or_split h
  unfold methE
  exact (Cov.nx h1).seq ((cov_tys h2).seq ((Cov.nx h3).seq (((Cov.nx h4).cast (by omega) rfl).seq (((cov_tys h5).cast (by omega) rfl).seq (((Cov.nx h6).cast (by omega) rfl).seq (((Cov.nx h7).cast (by omega) rfl).seq (((Cov.nx h8).cast (by omega) rfl).seq ((Cov.const h9).seq ((cov_any h10).cast (by omega) (by omega))))))))))
/-- All looks ahead of the last two. -/
def preE (n : Nat) (d : Nat → Nat) : Option (Nat × Int) :=
  (firE (fun i => nxE n d 5 (eqB (magN i)) i) 4).or <| (nxE n d 2 (leB 200) 4).or <| (firE (fun i => numE n d (5 + 8 * i)) (d 4)).or <| (nxE n d 2 (leB 50) (c0 d)).or <|
  (firE (fun i => fldsE n d (cS d (c0 d + 1) i)) (d (c0 d))).or <| (nxE n d 2 (leB 100) (m0 d)).or <| (noneE d (m0 d)).or <|
  (firE (fun i => methE n d (mS d (m0 d + 1) i)) (d (m0 d)))
theorem or_assoc' (a b c : Option (Nat × Int)) : (a.or b).or c = a.or (b.or c) := by cases a <;> rfl
def endP (d : Nat → Nat) : Nat := mS d (m0 d + 1) (d (m0 d))
theorem prsE_pre (n : Nat) (d : Nat → Nat) : prsE n d = (preE n d).or ((if endP d < n then some (endP d, 5) else none : Option (Nat × Int)).or (argE n d)) := by
  unfold prsE preE endP
  simp only [or_assoc']
theorem cov_pre {n : Nat} {d : Nat → Nat} (h : preE n d = none) : Cov (fun n => preE n d) 0 (endP d) := by
  unfold preE at h
  obtain ⟨h1, h⟩ := or_split h
  obtain ⟨h2, h⟩ := or_split h
  obtain ⟨h3, h⟩ := or_split h
  obtain ⟨h4, h⟩ := or_split h
  obtain ⟨h5, h⟩ := or_split h
  obtain ⟨h6, h⟩ := or_split h
  obtain ⟨h7, h8⟩ := or_split h
  unfold preE endP
  refine (Cov.fir (p := fun i => i) fun i hi => Cov.nx (firE_lt h1 i hi)).seq ((Cov.nx h2).seq ((Cov.cast (Cov.fir (p := fun i => 5 + 8 * i) fun i hi => ?_) (by omega) rfl).seq ((Cov.nx h4).seq ((Cov.fir (p := fun i => cS d (c0 d + 1) i) fun i hi => cov_flds (firE_lt h5 i hi)).seq ((Cov.nx h6).seq ((Cov.const h7).seq (Cov.fir (p := fun i => mS d (m0 d + 1) i) fun i hi => cov_meth (firE_lt h8 i hi))))))))
  exact (cov_any (k := 5 + 8 * i) (m := 8) (show firE (fun j => nxE n d 0 anyB (5 + 8 * i + j)) 8 = none from firE_lt h3 i hi)).cast rfl (by omega)
theorem prs_end {n : Nat} {d : Nat → Nat} (h : prsE n d = none) : preE n d = none ∧ endP d = n ∧ argE n d = none := by
  rw [prsE_pre] at h
  obtain ⟨h1, h⟩ := or_split h
  obtain ⟨h2, h3⟩ := or_split h
  have hc := cov_pre h1
  refine ⟨h1, ?_, h3⟩
  by_cases hlt : endP d < n
  · rw [if_pos hlt] at h2; cases h2
  by_cases hgt : n < endP d
  · have := hc.cut n (Nat.zero_le _) hgt
    rw [h1] at this
    cases this
  · omega
theorem prs_front {n : Nat} {d : Nat → Nat} (h : prsE n d = none) (c : Nat) (hc : c < n) : prsE c d = some (c, 6) := by
  obtain ⟨h1, h2, h3⟩ := prs_end h
  rw [prsE_pre]
  exact or_some ((cov_pre h1).cut c (Nat.zero_le _) (by omega))
theorem prs_more {n : Nat} {d : Nat → Nat} (h : prsE n d = none) : prsE (n + 1) d = some (n, 5) := by
  obtain ⟨h1, h2, h3⟩ := prs_end h
  rw [prsE_pre, or_none ((cov_pre h1).ok (n + 1) (by omega)), if_pos (by omega), h2]
  rfl
/-- What a right program is. -/
structure Rt (P : Pg) : Prop where
  np : P.np ≤ 200
  nc : P.nc ≤ 50
  nf : ∀ i, i < P.nc → P.nf i ≤ 50
  nm : P.nm ≤ 100
  n0 : P.nm ≠ 0
  m : ∀ i, i < P.nm → P.pn i + P.ln i ≤ 40 ∧ 0 ≤ P.sk i ∧ P.sk i ≤ 40 ∧ 0 < P.cn i ∧ P.cn i ≤ 4096 ∧ isRB (P.rt i) = true
  ft : ∀ i, i < P.nc → ∀ j, j < P.nf i → isTB (P.ft i j) = true
  pt : ∀ i, i < P.nm → ∀ j, j < P.pn i → isTB (P.pt i j) = true
  lt : ∀ i, i < P.nm → ∀ j, j < P.ln i → isTB (P.lt i j) = true
  fst : P.pn 0 = 0 ∧ P.rt 0 = 0
theorem anyN_mk {n : Nat} {B : Nat → Bool} (h : ∀ i, i < n → B i = false) : anyN n B = false := by
  unfold anyN
  rw [List.any_eq_false]
  intro i hi
  rw [h i (List.mem_range.1 hi)]
  decide
theorem rt_chk {P : Pg} (h : Rt P) : P.chk = 0 := by
  have q3 : anyN P.nc (fun i => decide (50 < P.nf i)) = false := anyN_mk fun i hi => decide_eq_false (by have := h.nf i hi; omega)
  have q6 : firstE P.nm P.err = 0 := firstE_zero fun i hi => by
    obtain ⟨a, b, c, d, e, f⟩ := h.m i hi
    unfold Pg.err chkM
    rw [if_neg (by omega), if_neg (by rw [f]; simp; omega), if_neg (by omega)]
  have h1 := h.np
  have h2 := h.nc
  have h3 := h.nm
  rw [chk_g P (by omega) (by omega) q3 (by omega) h.n0 q6]
  have w1 : P.wrongF = false := anyN_mk fun i hi => anyN_mk fun j hj => by rw [h.ft i hi j hj]; rfl
  have w2 : P.wrongT = false := anyN_mk fun i hi => by
    unfold wrongM
    rw [anyN_mk fun j hj => by rw [h.pt i hi j hj]; rfl, anyN_mk fun j hj => by rw [h.lt i hi j hj]; rfl]
    rfl
  have w3 : P.first = true := decide_eq_true h.fst
  rw [w1, w2, w3]
  rfl
theorem chk_rt {P : Pg} (h : P.chk = 0) : Rt P := by
  have L := lens_of h
  have q3 : anyN P.nc (fun i => decide (50 < P.nf i)) = false := anyN_mk fun i hi => decide_eq_false (by have := L.nf i hi; omega)
  have h1 := L.np
  have h2 := L.nc
  have h3 := L.nm
  by_cases q5 : P.nm = 0
  · rw [chk_e P (by omega) (by omega) q3 (by omega) q5] at h; cases h
  have q6 : firstE P.nm P.err = 0 := by
    by_cases q : firstE P.nm P.err = 0
    · exact q
    · rw [chk_f P (by omega) (by omega) q3 (by omega) q5 q] at h
      exact absurd h q
  rw [chk_g P (by omega) (by omega) q3 (by omega) q5 q6] at h
  have hz : ∀ i, i < P.nm → P.err i = 0 := by
    by_cases hall : ∀ k, k < P.nm → P.err k = 0
    · exact hall
    · exfalso
      have hy : anyN P.nm (fun k => P.err k != 0) = true := by
        cases hx : anyN P.nm (fun k => P.err k != 0) with
        | true => rfl
        | false => exact absurd (fun k hk => by simpa using anyN_n hx k hk) hall
      obtain ⟨k, hk, hlo, hhi⟩ := anyN_y hy
      have := firstE_at k hk (fun i hi => by simpa using hlo i hi) (by simpa using hhi)
      rw [q6] at this
      simp at hhi
      exact hhi this.symm
  cases w1 : P.wrongF with
  | true => rw [w1] at h; cases h
  | false =>
  cases w2 : P.wrongT with
  | true => rw [w1, w2] at h; cases h
  | false =>
  cases w3 : P.first with
  | false => rw [w1, w2, w3] at h; cases h
  | true =>
  refine ⟨h1, h2, L.nf, h3, q5, fun i hi => ?_, fun i hi j hj => ?_, fun i hi j hj => ?_, fun i hi j hj => ?_, of_decide_eq_true w3⟩
  · obtain ⟨a, b, c⟩ := L.m i hi
    have hz := hz i hi
    unfold Pg.err chkM at hz
    split at hz
    · cases hz
    · split at hz
      · cases hz
      · rename_i x y
        have hr : isRB (P.rt i) = true := by
          cases hr : isRB (P.rt i) with
          | true => rfl
          | false => exact absurd (Or.inr hr) y
        exact ⟨a, by omega, by omega, c, b, hr⟩
  · have := anyN_n (anyN_n w1 i hi) j hj
    simpa using this
  · have := anyN_n w2 i hi
    unfold wrongM at this
    have := anyN_n (Bool.or_eq_false_iff.1 this).1 j hj
    simpa using this
  · have := anyN_n w2 i hi
    unfold wrongM at this
    have := anyN_n (Bool.or_eq_false_iff.1 this).2 j hj
    simpa using this
end Go.Proofs.Ytpiafgmncfibmaa
