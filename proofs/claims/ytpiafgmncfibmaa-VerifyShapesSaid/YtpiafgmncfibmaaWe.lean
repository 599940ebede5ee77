import Derived.Laws.BitsLemmas
import Derived.IntWalk
import Derived.Laws.BitsAllLaws
import Derived.Deep.DrawnRows
import Derived.Test.YtpiafgmncfibmaaWd
import Derived.Test.YtpiafgmncfibmaaRows
import Derived.WalkKit
import Derived.ProofKit
import Derived.OpenShut
import Derived.Deep.QuietTactic
import Derived.BigQuiet
import Derived.Outline
import Derived.WalkSmall
import Derived.WalkLawsBesides
import Derived.WalkSpells
import Derived.BigGuardPart
import Derived.RegionTactic
import Derived.Deep.RegionHeld3
import Derived.Lib.Hide
import Derived.Deep.MidRow
import Derived.Below
import Derived.Deep.RegionWith
import Derived.Deep.OwnRows
import Derived.Deep.AppendLies
import Derived.Deep.RegionLaw
import Derived.Deep.CutBlock
import Derived.Deep.DeepCutAuto
namespace Go.Proofs.Ytpiafgmncfibmaa.Vf
open Go.ChangeShapes Go.WideShapes Go.ChangeAt Go.RowKit
set_option linter.unusedVariables false

/-- A program with another stack of one method. -/
def Psk (P : Pg) (m : Nat) (d : Int) : Pg := { P with sk := fun i => if i = m then d else P.sk i }
theorem pre_sk {P : Pg} {m : Nat} {D : Nat → Nat} {s : Int} {F : Fl} {k : Nat} (h : preE P m D s F k = 0) (s' : Int) : preE P m D s' F k = if s' < ((beh P m D F k).l.length : Int) then 22 else 0 := by
  unfold preE at h ⊢
  by_cases h1 : effE P m (D k) (opA D k) (opB D k) (F.S k) = 0
  · rw [if_neg (fun q => q h1)] at h ⊢
    by_cases h2 : s < ((beh P m D F k).l.length : Int) ∨ D k = 28 ∧ 0 < (beh P m D F k).l.length
    · rw [if_pos h2] at h; cases h
    · rw [if_neg h2] at h
      by_cases h3 : s' < ((beh P m D F k).l.length : Int)
      · rw [if_pos (.inl h3), if_pos h3]
      · rw [if_neg (fun q => q.elim h3 fun q => h2 (.inr q)), if_neg h3]
        exact h
  · rw [if_pos h1] at h
    exact absurd h h1
theorem st_pre {P : Pg} {m n : Nat} {D : Nat → Nat} {s : Int} {F : Fl} {k : Nat} (h : stE P m n D s F k = 0) : preE P m D s F k = 0 := by
  unfold stE at h
  by_cases h1 : preE P m D s F k = 0
  · exact h1
  · rw [if_pos h1] at h; exact absurd h h1
theorem st_sk {P : Pg} {m n : Nat} {D : Nat → Nat} {s : Int} {F : Fl} {k : Nat} (h : stE P m n D s F k = 0) (s' : Int) : (stE P m n D s' F k = 22) ∨ (stE P m n D s' F k = 0 ∧ stF P m n D s' F k = stF P m n D s F k) := by
  have h0 := st_pre h
  have h2 := pre_sk h0 s'
  by_cases h3 : s' < ((beh P m D F k).l.length : Int)
  · rw [if_pos h3] at h2
    left
    unfold stE
    rw [h2]
    rfl
  · rw [if_neg h3] at h2
    right
    unfold stE at h ⊢
    unfold stF
    rw [h2]
    rw [h0] at h ⊢
    exact ⟨h, rfl⟩
theorem st_more {P : Pg} {m n : Nat} {D : Nat → Nat} {s : Int} {F : Fl} {k : Nat} (h : stE P m n D s F k = 0) {s' : Int} (hs : s ≤ s') : stE P m n D s' F k = 0 := by
  have h0 := st_pre h
  have h1 := pre_sk h0 s
  have h2 := pre_sk h0 s'
  rw [h0] at h1
  have h3 : ¬ s' < ((beh P m D F k).l.length : Int) := fun q => by
    rw [if_pos (by omega)] at h1; cases h1
  rcases st_sk h s' with h4 | h4
  · rw [if_neg h3] at h2
    unfold stE at h h4
    rw [h2] at h4
    rw [h0] at h
    rw [h] at h4
    cases h4
  · exact h4.1
theorem run_sk {P : Pg} {m n : Nat} {D : Nat → Nat} {s : Int} (s' : Int) : ∀ (f : Nat) (F : Fl), (runF P m n D s f F).2.2 = 0 → (runF P m n D s' f F).2.2 = 0 ∨ (runF P m n D s' f F).2.2 = 22
  | 0, F, _ => .inl rfl
  | f + 1, F, h => by
    unfold runF at h ⊢
    cases hp : F.pick n with
    | none => exact .inl rfl
    | some i =>
      rw [hp] at h
      simp only at h ⊢
      by_cases h0 : stE P m n D s (F.gone i) i = 0
      · rw [if_neg (fun q => q h0)] at h
        rcases st_sk h0 s' with h1 | ⟨h1, h2⟩
        · rw [h1]
          exact .inr rfl
        · rw [h1, h2]
          exact run_sk s' f _ h
      · rw [if_pos h0] at h
        exact absurd h h0
theorem run_more {P : Pg} {m n : Nat} {D : Nat → Nat} {s s' : Int} (hs : s ≤ s') : ∀ (f : Nat) (F : Fl), (runF P m n D s f F).2.2 = 0 → (runF P m n D s' f F).2.2 = 0
  | 0, F, _ => rfl
  | f + 1, F, h => by
    unfold runF at h ⊢
    cases hp : F.pick n with
    | none => rfl
    | some i =>
      rw [hp] at h
      simp only at h ⊢
      by_cases h0 : stE P m n D s (F.gone i) i = 0
      · rw [if_neg (fun q => q h0)] at h
        have h1 := st_more h0 hs
        rcases st_sk h0 s' with h2 | ⟨_, h2⟩
        · rw [h1] at h2; cases h2
        · rw [h1, h2]
          exact run_more hs f _ h
      · rw [if_pos h0] at h
        exact absurd h h0
theorem runF_psk (P : Pg) (m : Nat) (d : Int) (n : Nat) (D : Nat → Nat) (s : Int) : ∀ (f : Nat) (F : Fl), runF (Psk P m d) m n D s f F = runF P m n D s f F
  | 0, F => rfl
  | f + 1, F => by
    unfold runF
    cases F.pick n with
    | none => rfl
    | some i =>
      simp only
      rw [show stE (Psk P m d) m n D s (F.gone i) i = stE P m n D s (F.gone i) i from rfl, show stF (Psk P m d) m n D s (F.gone i) i = stF P m n D s (F.gone i) i from rfl]
      by_cases h0 : stE P m n D s (F.gone i) i = 0
      · rw [if_neg (fun q => q h0), if_neg (fun q => q h0)]
        exact runF_psk P m d n D s f _
      · rw [if_pos h0, if_pos h0]
theorem chkR_psk (P : Pg) (m : Nat) (d : Int) (n : Nat) (D : Nat → Nat) (O : Nat → Bool) : chkR (Psk P m d) m n D O = chkR P m n D O := rfl
theorem chk_psk {P : Pg} {m : Nat} {d : Int} (hk : P.chk = 0) (hm : m < P.nm) (d0 : 0 ≤ d) (d1 : d ≤ 40) : (Psk P m d).chk = 0 := by
  have h6 : firstE P.nm P.err = 0 := by
    unfold Pg.chk at hk
    split at hk
    · cases hk
    split at hk
    · cases hk
    split at hk
    · cases hk
    split at hk
    · cases hk
    split at hk
    · cases hk
    split at hk
    · rename_i h; exact absurd hk h
    rename_i h
    exact Classical.byContradiction h
  have hz : ∀ i, i < P.nm → P.err i = 0 := fun i hi => Classical.byContradiction fun hne => by
    obtain ⟨k, hk, hlt⟩ : ∃ k, k ≤ i ∧ (P.err k ≠ 0 ∧ ∀ j, j < k → P.err j = 0) := by
      induction i using Nat.strongRecOn with
      | ind i ih =>
        by_cases hx : ∀ j, j < i → P.err j = 0
        · exact ⟨i, Nat.le_refl _, hne, hx⟩
        · obtain ⟨j, hj⟩ := Classical.not_forall.1 hx
          obtain ⟨hj1, hj2⟩ := Classical.not_imp.1 hj
          obtain ⟨k, hk, hkk⟩ := ih j hj1 (by omega) hj2
          exact ⟨k, by omega, hkk⟩
    exact hlt.1 (by rw [← firstE_at (n := P.nm) k (by omega) hlt.2 hlt.1]; exact h6)
  have hE : firstE P.nm (Psk P m d).err = 0 := firstE_zero fun i hi => by
    have h1 := hz i hi
    show chkM (P.pn i) (P.rt i) (P.ln i) (if i = m then d else P.sk i) (P.cn i) = 0
    unfold Pg.err at h1
    by_cases him : i = m
    · rw [if_pos him]
      unfold chkM at h1 ⊢
      split at h1
      · cases h1
      rename_i g1
      split at h1
      · cases h1
      rename_i g2
      split at h1
      · cases h1
      rename_i g3
      rw [if_neg (fun q => g1 (by rcases q with q | q | q; exact .inl q; omega; exact .inr (.inr q))), if_neg (fun q => g2 (by rcases q with q | q; omega; exact .inr q)), if_neg g3]
    · rw [if_neg him]
      exact h1
  have h7 : P.chk = (if 200 < P.np then 2 else if 50 < P.nc then 2 else if P.manyF = true then 2 else if 100 < P.nm then 2 else if P.nm = 0 then 3 else if firstE P.nm P.err ≠ 0 then firstE P.nm P.err else if P.wrongF = true then 1 else if P.wrongT = true then 1 else if P.first = false then 1 else 0 : Int) := rfl
  have h8 : (Psk P m d).chk = (if 200 < P.np then 2 else if 50 < P.nc then 2 else if P.manyF = true then 2 else if 100 < P.nm then 2 else if P.nm = 0 then 3 else if firstE P.nm (Psk P m d).err ≠ 0 then firstE P.nm (Psk P m d).err else if P.wrongF = true then 1 else if P.wrongT = true then 1 else if P.first = false then 1 else 0 : Int) := rfl
  rw [hE] at h8
  rw [h6] at h7
  rw [h8, ← h7, hk]
/-- What the errors of Method are, as the stack goes. -/
theorem stk_facts {P : Pg} {m : Nat} (hk : P.chk = 0) (hm : m < P.nm) (h0 : (methR P m).2 = 0) : ∃ E : Int → Int, (∀ d, 0 ≤ d → d ≤ 40 → (methR (Psk P m d) m).2 = E d) ∧ (∀ d, E d = 0 ∨ E d = 22) ∧ E (P.sk m) = 0 ∧ ∀ d d', d ≤ d' → E d = 0 → E d' = 0 := by
  have hi : isIn (m : Int) P.nm = true := decide_eq_true (by omega)
  rw [methR_3 hk hi, Int.toNat_natCast] at h0
  have h0' : (flowR P m).2 = 0 := h0
  unfold flowR at h0'
  by_cases h1 : (rdR (P.cn m) (P.cd m)).2 = 0
  case neg => rw [if_pos h1] at h0'; exact absurd h0' h1
  by_cases h2 : (chkR P m (P.cn m) (P.cd m) (inL (begs (P.cn m) (P.cd m) (P.cn m) 0))).2 = 0
  case neg => rw [if_neg (fun q => q h1), if_pos h2] at h0'; exact absurd h0' h2
  rw [if_neg (fun q => q h1), if_neg (fun q => q h2)] at h0'
  refine ⟨fun d => (runF P m (P.cn m) (P.cd m) d (P.cn m + 1) Fl.z).2.2, fun d d0 d1 => ?_, fun d => run_sk d _ _ h0', h0', fun d d' hd hz => run_more hd _ _ hz⟩
  rw [methR_3 (chk_psk hk hm d0 d1) (show isIn (m : Int) (Psk P m d).nm = true from hi), Int.toNat_natCast]
  show (flowR (Psk P m d) m).2 = _
  unfold flowR
  rw [if_neg (show ¬ (rdR ((Psk P m d).cn m) ((Psk P m d).cd m)).2 ≠ 0 from fun q => q h1), chkR_psk]
  rw [if_neg (show ¬ (chkR P m ((Psk P m d).cn m) ((Psk P m d).cd m) (inL (begs ((Psk P m d).cn m) ((Psk P m d).cd m) ((Psk P m d).cn m) 0))).2 ≠ 0 from fun q => q h2), runF_psk]
  show (runF P m (P.cn m) (P.cd m) (if m = m then d else P.sk m) (P.cn m + 1) Fl.z).2.2 = _
  rw [if_pos rfl]
end Go.Proofs.Ytpiafgmncfibmaa.Vf
