import Derived.Laws.BitsLemmas
import Derived.IntWalk
import Derived.Laws.BitsAllLaws
import Derived.Deep.DrawnRows
import Derived.Test.YtpiafgmncfibmaaWe
import Derived.Test.YtpiafgmncfibmaaRows
import Derived.WalkKit
import Derived.ProofKit
import Derived.OpenShut
import Derived.Deep.QuietTactic
import Derived.BigQuiet
import Derived.Outline
import Derived.WalkSmall
import Derived.WalkLawsBesides
import Derived.WalkSpells
import Derived.BigGuardPart
import Derived.RegionTactic
import Derived.Deep.RegionHeld3
import Derived.Lib.Hide
import Derived.Deep.MidRow
import Derived.Below
import Derived.Deep.RegionWith
import Derived.Deep.OwnRows
import Derived.Deep.AppendLies
import Derived.Deep.RegionLaw
import Derived.Deep.CutBlock
import Derived.Deep.DeepCutAuto
namespace Go.Proofs.Ytpiafgmncfibmaa.Vf
open Go.ChangeShapes Go.WideShapes Go.ChangeAt Go.RowKit
set_option linter.unusedVariables false

theorem reach_keep {F : Fl} {j : Nat} (h : F.H j = true) (k : Nat) (s : Sh) : (reachF F k s).H j = true ∧ (reachF F k s).S j = F.S j := by
  unfold reachF
  cases hk : F.H k with
  | true => rw [if_neg (by decide)]; exact ⟨h, rfl⟩
  | false =>
    rw [if_pos rfl]
    have hne : j ≠ k := fun e => by subst e; rw [hk] at h; cases h
    show set1 F.H k true j = true ∧ set1 F.S k s j = F.S j
    unfold set1
    rw [if_neg hne, if_neg hne]
    exact ⟨h, rfl⟩
theorem reach_at {F : Fl} {k : Nat} {s : Sh} (h : reachE F k s = 0) : (reachF F k s).H k = true ∧ (reachF F k s).S k = s := by
  unfold reachE at h
  unfold reachF
  cases hk : F.H k with
  | false =>
    rw [if_pos rfl]
    show set1 F.H k true k = true ∧ set1 F.S k s k = s
    unfold set1
    rw [if_pos rfl, if_pos rfl]
    exact ⟨rfl, rfl⟩
  | true =>
    rw [if_neg (by decide)]
    rw [hk, if_neg (by decide)] at h
    split at h
    · cases h
    split at h
    · cases h
    split at h
    · cases h
    rename_i h1 h2 h3
    refine ⟨hk, ?_⟩
    have e1 := Classical.not_not.1 h2
    have e2 := Classical.not_not.1 h3
    cases hF : F.S k with
    | mk l g =>
      rw [hF] at e1 e2
      cases s
      simp only at e1 e2
      rw [e1, e2]
section
variable (P : Pg) (m n : Nat) (D : Nat → Nat) (stk : Int)
theorem onF_keep {F : Fl} {j : Nat} (h : F.H j = true) (k : Nat) : (onF P m n D F k).H j = true ∧ (onF P m n D F k).S j = F.S j := by
  unfold onF
  split
  · split
    · exact ⟨h, rfl⟩
    · exact reach_keep h _ _
  · exact ⟨h, rfl⟩
theorem jmF_keep {F : Fl} {j : Nat} (h : F.H j = true) (k : Nat) (s : Sh) : (jmF D F k s).H j = true ∧ (jmF D F k s).S j = F.S j := by
  unfold jmF
  split
  · exact reach_keep h _ _
  · exact ⟨h, rfl⟩
theorem stF_keep {F : Fl} {j : Nat} (h : F.H j = true) (k : Nat) : (stF P m n D stk F k).H j = true ∧ (stF P m n D stk F k).S j = F.S j := by
  unfold stF
  split
  · exact ⟨h, rfl⟩
  split
  · exact onF_keep P m n D h k
  · obtain ⟨a, b⟩ := onF_keep P m n D h k
    obtain ⟨c, d⟩ := jmF_keep D a k (beh P m D F k)
    exact ⟨c, d.trans b⟩
theorem st_parts {F : Fl} {k : Nat} (h : stE P m n D stk F k = 0) : preE P m D stk F k = 0 ∧ onE P m n D F k = 0 ∧ jmE D (onF P m n D F k) k (beh P m D F k) = 0 ∧ stF P m n D stk F k = jmF D (onF P m n D F k) k (beh P m D F k) := by
  have h0 := st_pre h
  unfold stE at h
  rw [if_neg (fun q => q h0)] at h
  by_cases h1 : onE P m n D F k = 0
  · rw [if_neg (fun q => q h1)] at h
    refine ⟨h0, h1, h, ?_⟩
    unfold stF
    rw [if_neg (fun q => q h0), if_neg (fun q => q h1)]
  · rw [if_pos h1] at h
    exact absurd h h1
theorem st_on {F : Fl} {k : Nat} (h : stE P m n D stk F k = 0) (hb : onB (D k) = true) : nxt D k ≠ n ∧ (stF P m n D stk F k).H (nxt D k) = true ∧ (stF P m n D stk F k).S (nxt D k) = beh P m D F k := by
  obtain ⟨_, h1, _, h3⟩ := st_parts P m n D stk h
  unfold onE at h1
  rw [if_pos hb] at h1
  by_cases hn : nxt D k = n
  · rw [if_pos hn] at h1; cases h1
  · rw [if_neg hn] at h1
    obtain ⟨a, b⟩ := reach_at h1
    have e : onF P m n D F k = reachF F (nxt D k) (beh P m D F k) := by unfold onF; rw [if_pos hb, if_neg hn]
    rw [← e] at a b
    obtain ⟨c, d⟩ := jmF_keep D a k (beh P m D F k)
    rw [h3]
    exact ⟨hn, c, d.trans b⟩
theorem st_jm {F : Fl} {k : Nat} (h : stE P m n D stk F k = 0) (hb : jumpB (D k) = true) : (stF P m n D stk F k).H (jmp D k) = true ∧ (stF P m n D stk F k).S (jmp D k) = beh P m D F k := by
  obtain ⟨_, _, h2, h3⟩ := st_parts P m n D stk h
  unfold jmE at h2
  rw [if_pos hb] at h2
  obtain ⟨a, b⟩ := reach_at h2
  rw [h3]
  unfold jmF
  rw [if_pos hb]
  exact ⟨a, b⟩
theorem pre_parts {F : Fl} {k : Nat} (h : preE P m D stk F k = 0) : effE P m (D k) (opA D k) (opB D k) (F.S k) = 0 ∧ ((beh P m D F k).l.length : Int) ≤ stk := by
  unfold preE at h
  by_cases h1 : effE P m (D k) (opA D k) (opB D k) (F.S k) = 0
  · rw [if_neg (fun q => q h1)] at h
    refine ⟨h1, ?_⟩
    by_cases h2 : stk < ((beh P m D F k).l.length : Int)
    · rw [if_pos (.inl h2)] at h; cases h
    · omega
  · rw [if_pos h1] at h; exact absurd h h1
/-- Places that are gone through hold with all that stands behind them. -/
structure Good (O : Nat → Bool) (F : Fl) : Prop where
  h0 : F.H 0 = true
  s0 : F.S 0 = ⟨[], 0⟩
  ho : ∀ i, i < n → F.H i = true → O i = true
  gh : ∀ i, F.G i = true → F.H i = true
  co : ∀ i, i < n → F.H i = true → F.G i = true → effE P m (D i) (opA D i) (opB D i) (F.S i) = 0 ∧ ((beh P m D F i).l.length : Int) ≤ stk ∧ (onB (D i) = true → nxt D i ≠ n ∧ F.H (nxt D i) = true ∧ F.S (nxt D i) = beh P m D F i) ∧ (jumpB (D i) = true → F.H (jmp D i) = true ∧ F.S (jmp D i) = beh P m D F i)
theorem Good.step {O : Nat → Bool} {F : Fl} (h : Good P m n D stk O F) {k : Nat} (hk : k < n) (hH : F.H k = true) (hR : ∀ k, k < n → O k = true → (nxt D k ≠ n → O (nxt D k) = true) ∧ (jumpB (D k) = true → O (jmp D k) = true)) (he : stE P m n D stk (F.gone k) k = 0) : Good P m n D stk O (stF P m n D stk (F.gone k) k) := by
  have keep : ∀ {j : Nat}, F.H j = true → (stF P m n D stk (F.gone k) k).H j = true ∧ (stF P m n D stk (F.gone k) k).S j = F.S j := fun {j} hj => stF_keep P m n D stk (F := F.gone k) (j := j) hj k
  have hO := h.ho k hk hH
  refine ⟨(keep h.h0).1, (keep h.h0).2.trans h.s0, fun i hi hHi => ?_, fun i hGi => ?_, fun i hi hHi hGi => ?_⟩
  · by_cases h1 : (F.gone k).H i = true
    · exact h.ho i hi h1
    · rcases stF_H _ _ _ _ _ _ _ _ hHi (by simpa using h1) with ⟨rfl, h2⟩ | ⟨rfl, h2⟩
      · exact (hR k hk hO).1 h2
      · exact (hR k hk hO).2 h2
  · by_cases hik : i = k
    · rw [hik]; exact (keep hH).1
    · rw [stF_G] at hGi
      have e : (F.gone k).G i = F.G i := by simp [Fl.gone, set1, hik]
      rw [e] at hGi
      exact (keep (h.gh i hGi)).1
  · by_cases hik : i = k
    · subst hik
      obtain ⟨_, hs⟩ := keep hH
      have hb : beh P m D (stF P m n D stk (F.gone i) i) i = beh P m D (F.gone i) i := by
        unfold beh
        rw [hs]
        rfl
      rw [hb, hs]
      obtain ⟨a, b⟩ := pre_parts P m D stk (st_parts P m n D stk he).1
      exact ⟨a, b, fun hb => st_on P m n D stk he hb, fun hb => st_jm P m n D stk he hb⟩
    · have hG : F.G i = true := by
        rw [stF_G] at hGi
        have e : (F.gone k).G i = F.G i := by simp [Fl.gone, set1, hik]
        rw [← e]; exact hGi
      have hH2 : F.H i = true := h.gh i hG
      obtain ⟨_, hs⟩ := keep hH2
      have hb : beh P m D (stF P m n D stk (F.gone k) k) i = beh P m D F i := by
        unfold beh
        rw [hs]
      rw [hb, hs]
      obtain ⟨a, b, c, d⟩ := h.co i hi hH2 hG
      refine ⟨a, b, fun q => ?_, fun q => ?_⟩
      · obtain ⟨c1, c2, c3⟩ := c q
        obtain ⟨e1, e2⟩ := keep c2
        exact ⟨c1, e1, e2.trans c3⟩
      · obtain ⟨c2, c3⟩ := d q
        obtain ⟨e1, e2⟩ := keep c2
        exact ⟨e1, e2.trans c3⟩
theorem pick_is {F : Fl} {n k : Nat} (h : F.pick n = some k) : k < n ∧ F.H k = true ∧ F.G k = false := by
  unfold Fl.pick at h
  have h1 := List.find?_some h
  have h2 := List.mem_of_find?_eq_some h
  simp at h1
  exact ⟨List.mem_range.1 h2, h1.1, h1.2⟩
theorem pick_not {F : Fl} {n : Nat} (h : F.pick n = none) : ∀ i, i < n → F.H i = true → F.G i = true := fun i hi hH => by
  unfold Fl.pick at h
  rw [List.find?_eq_none] at h
  have := h i (List.mem_range.2 hi)
  rw [hH] at this
  simpa using this
theorem Good.run {O : Nat → Bool} (hR : ∀ k, k < n → O k = true → (nxt D k ≠ n → O (nxt D k) = true) ∧ (jumpB (D k) = true → O (jmp D k) = true)) : ∀ (fu : Nat) (F : Fl), Good P m n D stk O F → cntG F n < fu → (runF P m n D stk fu F).2.2 = 0 → Good P m n D stk O (runF P m n D stk fu F).1 ∧ ∀ i, i < n → (runF P m n D stk fu F).1.H i = true → (runF P m n D stk fu F).1.G i = true
  | 0, F, h, hc, _ => absurd hc (Nat.not_lt_zero _)
  | fu + 1, F, h, hc, hz => by
    cases hp : F.pick n with
    | none =>
      rw [run_none _ _ _ _ _ (fu + 1) hp]
      exact ⟨h, pick_not hp⟩
    | some k =>
      obtain ⟨hk, hH, hG⟩ := pick_is hp
      by_cases he : stE P m n D stk (F.gone k) k = 0
      · rw [run_go _ _ _ _ _ fu hp he] at hz ⊢
        refine Good.run hR fu _ (h.step P m n D stk hk hH hR he) ?_ hz
        have h1 := cntG_gone hG n
        rw [if_pos hk] at h1
        rw [cntG_congr (stF_G _ _ _ _ _ _ _) n]
        omega
      · rw [run_bad _ _ _ _ _ fu hp he] at hz
        exact absurd hz he
end
/-- What a right method's shapes are. -/
theorem flow_facts (K : Fk) (n0 : 0 < K.n) (hf : (flowR K.P K.m).2 = 0) : Good K.P K.m K.n K.D (K.P.sk K.m) (inL (begs K.n K.D K.n 0)) (flowF K.P K.m) ∧ (∀ i, i < K.n → (flowF K.P K.m).H i = true → (flowF K.P K.m).G i = true) ∧ Rdy K (inL (begs K.n K.D K.n 0)) := by
  have h0' := hf
  unfold flowR at h0'
  by_cases h1 : (rdR (K.P.cn K.m) (K.P.cd K.m)).2 = 0
  case neg => rw [if_pos h1] at h0'; exact absurd h0' h1
  by_cases h2 : (chkR K.P K.m (K.P.cn K.m) (K.P.cd K.m) (inL (begs (K.P.cn K.m) (K.P.cd K.m) (K.P.cn K.m) 0))).2 = 0
  case neg => rw [if_neg (fun q => q h1), if_pos h2] at h0'; exact absurd h0' h2
  rw [if_neg (fun q => q h1), if_neg (fun q => q h2)] at h0'
  obtain ⟨hA, hB, hC⟩ := rdy_of (K := K) h1 h2 n0
  have hz : Good K.P K.m K.n K.D (K.P.sk K.m) (inL (begs K.n K.D K.n 0)) Fl.z := by
    refine ⟨rfl, rfl, fun i hi hH => ?_, fun i hG => (by cases hG), fun i hi hH hG => (by cases hG)⟩
    have : i = 0 := by simpa [Fl.z] using hH
    rw [this]; exact hC
  obtain ⟨g1, g2⟩ := Good.run K.P K.m K.n K.D (K.P.sk K.m) hB (K.n + 1) Fl.z hz (Nat.lt_succ_of_le (cntG_le _ _)) h0'
  exact ⟨g1, g2, hA⟩
end Go.Proofs.Ytpiafgmncfibmaa.Vf
