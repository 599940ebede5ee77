import Derived.Scope
import Derived.Deep.LoopGhost
import Derived.Laws.BitsLemmas
import Derived.IntWalk
import Derived.Laws.BitsAllLaws
import Derived.Deep.DrawnRows
import Derived.Test.YtpiafgmncfibmaaVs
import Derived.Test.YtpiafgmncfibmaaRows
import Derived.WalkKit
import Derived.ProofKit
import Derived.OpenShut
import Derived.Deep.QuietTactic
import Derived.BigQuiet
import Derived.Outline
import Derived.WalkSmall
import Derived.WalkLawsBesides
import Derived.WalkSpells
import Derived.BigGuardPart
import Derived.RegionTactic
import Derived.Deep.RegionHeld3
import Derived.Lib.Hide
import Derived.Deep.MidRow
import Derived.Below
import Derived.Deep.RegionWith
import Derived.Deep.OwnRows
import Derived.Deep.AppendLies
import Derived.Deep.RegionLaw
import Derived.Deep.CutBlock
import Derived.Deep.DeepCutAuto
namespace Go.Proofs.Ytpiafgmncfibmaa.Vf
open Go.ChangeShapes Go.WideShapes Go.ChangeAt Go.RowKit
set_option linter.unusedVariables false

/-! ### Plain: going through -/
def cntG (F : Fl) : Nat → Nat
  | 0 => 0
  | n + 1 => cntG F n + if F.G n = true then 0 else 1
theorem cntG_le (F : Fl) : ∀ n, cntG F n ≤ n
  | 0 => Nat.le_refl _
  | n + 1 => by unfold cntG; have := cntG_le F n; split <;> omega
theorem cntG_congr {F F' : Fl} (h : F.G = F'.G) : ∀ n, cntG F n = cntG F' n
  | 0 => rfl
  | n + 1 => by unfold cntG; rw [cntG_congr h n, h]
theorem cntG_gone {F : Fl} {k : Nat} (hk : F.G k = false) : ∀ n, cntG (F.gone k) n + (if k < n then 1 else 0) = cntG F n
  | 0 => by simp [cntG]
  | n + 1 => by
    have ih := cntG_gone hk n
    unfold cntG
    by_cases hkn : k = n
    · subst hkn
      rw [if_neg (Nat.lt_irrefl _)] at ih
      rw [if_pos (Nat.lt_succ_self _), hk, if_pos (show (F.gone k).G k = true by simp [Fl.gone, set1])]
      simp at ih ⊢
      exact ih
    · have e : (F.gone k).G n = F.G n := by simp [Fl.gone, set1, Ne.symm hkn]
      rw [e]
      by_cases hlt : k < n
      · rw [if_pos hlt] at ih
        rw [if_pos (show k < n + 1 by omega)]
        omega
      · rw [if_neg hlt] at ih
        rw [if_neg (show ¬ k < n + 1 by omega)]
        omega
theorem reachF_G (F : Fl) (k : Nat) (s : Sh) : (reachF F k s).G = F.G := by unfold reachF; split <;> rfl
section
variable (P : Pg) (m n : Nat) (D : Nat → Nat) (stk : Int)
theorem stF_G (F : Fl) (k : Nat) : (stF P m n D stk F k).G = F.G := by
  unfold stF onF jmF
  repeat' split
  all_goals first | rfl | exact reachF_G _ _ _ | exact (reachF_G _ _ _).trans (reachF_G _ _ _)
theorem stF_H (F : Fl) (k j : Nat) (h : (stF P m n D stk F k).H j = true) (hF : F.H j = false) : (j = nxt D k ∧ nxt D k ≠ n) ∨ (j = jmp D k ∧ jumpB (D k) = true) := by
  unfold stF at h
  split at h
  · rw [hF] at h; cases h
  have on : (onF P m n D F k).H j = true → j = nxt D k ∧ nxt D k ≠ n := fun h => by
    unfold onF at h
    split at h
    · split at h
      · rw [hF] at h; cases h
      · rename_i h9
        exact ⟨(reachF_H _ _ _ j h hF).1, h9⟩
    · rw [hF] at h; cases h
  split at h
  · exact .inl (on h)
  · unfold jmF at h
    split at h
    · rename_i hj
      by_cases h2 : (onF P m n D F k).H j = true
      · exact .inl (on h2)
      · exact .inr ⟨(reachF_H _ _ _ j h (by simpa using h2)).1, hj⟩
    · exact .inl (on h)
theorem pick_none {F : Fl} {n : Nat} (h : ∀ i, i < n → ¬ (F.H i = true ∧ F.G i = false)) : F.pick n = none := by
  unfold Fl.pick
  rw [List.find?_eq_none]
  intro i hi
  have := h i (List.mem_range.1 hi)
  simpa using this
theorem find_range {p : Nat → Bool} {n k : Nat} (hk : k < n) (h1 : p k = true) (h2 : ∀ i, i < k → p i = false) : (List.range n).find? p = some k := by
  induction n with
  | zero => omega
  | succ n ih =>
    rw [List.range_succ, List.find?_append]
    by_cases hkn : k = n
    · subst hkn
      have h0 : (List.range k).find? p = none := by
        rw [List.find?_eq_none]
        intro i hi
        rw [h2 i (List.mem_range.1 hi)]
        decide
      rw [h0]
      simp [h1]
    · rw [ih (by omega)]
      rfl
theorem pick_some {F : Fl} {n k : Nat} (hk : k < n) (h1 : F.H k = true) (h2 : F.G k = false) (h3 : ∀ i, i < k → ¬ (F.H i = true ∧ F.G i = false)) : F.pick n = some k :=
  find_range hk (by simp [h1, h2]) fun i hi => by
    have := h3 i hi
    cases h4 : F.H i with
    | false => rfl
    | true =>
      cases h5 : F.G i with
      | true => rfl
      | false => exact absurd ⟨h4, h5⟩ this
theorem run_none {F : Fl} (f : Nat) (h : F.pick n = none) : runF P m n D stk f F = (F, 0, 0) := by
  cases f with
  | zero => rfl
  | succ f => unfold runF; rw [h]
theorem run_bad {F : Fl} {k : Nat} (f : Nat) (h : F.pick n = some k) (he : stE P m n D stk (F.gone k) k ≠ 0) : runF P m n D stk (f + 1) F = (stF P m n D stk (F.gone k) k, k, stE P m n D stk (F.gone k) k) := by
  show (match F.pick n with | none => (F, 0, 0) | some i => if stE P m n D stk (F.gone i) i ≠ 0 then (stF P m n D stk (F.gone i) i, i, stE P m n D stk (F.gone i) i) else runF P m n D stk f (stF P m n D stk (F.gone i) i)) = _
  rw [h]
  exact if_pos he
theorem run_go {F : Fl} {k : Nat} (f : Nat) (h : F.pick n = some k) (he : stE P m n D stk (F.gone k) k = 0) : runF P m n D stk (f + 1) F = runF P m n D stk f (stF P m n D stk (F.gone k) k) := by
  show (match F.pick n with | none => (F, 0, 0) | some i => if stE P m n D stk (F.gone i) i ≠ 0 then (stF P m n D stk (F.gone i) i, i, stE P m n D stk (F.gone i) i) else runF P m n D stk f (stF P m n D stk (F.gone i) i)) = _
  rw [h]
  exact if_neg (fun q => q he)
end
/-- Where ways on lead. -/
def Rdy2 (K : Fk) (O : Nat → Bool) : Prop := ∀ k, k < K.n → O k = true → (nxt K.D k ≠ K.n → O (nxt K.D k) = true) ∧ (jumpB (K.D k) = true → O (jmp K.D k) = true)
def Fk.run (K : Fk) : Fl × Nat × Int := runF K.P K.m K.n K.D (K.P.sk K.m) (K.n + 1) Fl.z
def GoP (K : Fk) (w : World) (O : Nat → Bool) (e : Ending) (w' : World) : Prop := ∃ X' lo', e = .returned (.tuple #[.int .i64 (K.run.2.1 : Nat), .int .i64 K.run.2.2]) ∧ FlC K w' O K.run.1 X' lo' ∧ Fr K w w'
/-- What stands at the head of the loop. -/
structure GoI (K : Fk) (w : World) (O : Nat → Bool) (g : Nat) (V : World) (F : Fl) (X : Fx) (lo : Nat) : Prop where
  f : FlC K V O F X lo
  r : Fr K w V
  lw : ∀ i, i < lo → ¬ (F.H i = true ∧ F.G i = false)
  ho : ∀ i, i < K.n → F.H i = true → O i = true
  run : ∃ fu, cntG F K.n < fu ∧ runF K.P K.m K.n K.D (K.P.sk K.m) fu F = K.run
  ms : cntG F K.n * (K.n + 1) + (K.n - lo) ≤ g
theorem GoI.next {K : Fk} {w : World} {O : Nat → Bool} {g : Nat} {V V' : World} {F : Fl} {X X' : Fx} {lo' : Nat} {k : Nat} (h : GoI K w O g V F X k) (hk : k < K.n) (hO : O k = true) (hR : Rdy2 K O) (hH : F.H k = true) (hG : F.G k = false) (he : stE K.P K.m K.n K.D (K.P.sk K.m) (F.gone k) k = 0)
    (hf : FlC K V' O (stF K.P K.m K.n K.D (K.P.sk K.m) (F.gone k) k) X' lo') (hr : Fr K w V') (hl : lo' ≤ k) (hn : ∀ j, (stF K.P K.m K.n K.D (K.P.sk K.m) (F.gone k) k).H j = true → (F.gone k).H j = false → lo' ≤ j) :
    ∃ g', g' < g ∧ GoI K w O g' V' (stF K.P K.m K.n K.D (K.P.sk K.m) (F.gone k) k) X' lo' := by
  have hc : cntG (stF K.P K.m K.n K.D (K.P.sk K.m) (F.gone k) k) K.n + 1 = cntG F K.n := by
    have h1 := cntG_gone hG K.n
    rw [if_pos hk] at h1
    rw [cntG_congr (stF_G _ _ _ _ _ _ _) K.n]
    exact h1
  have hp := pick_some hk hH hG h.lw
  obtain ⟨fu, hfu, hrun⟩ := h.run
  obtain ⟨fu, rfl⟩ : ∃ q, fu = q + 1 := ⟨fu - 1, by omega⟩
  rw [run_go _ _ _ _ _ fu hp he] at hrun
  have hms := h.ms
  rw [← hc, Nat.add_mul] at hms
  refine ⟨cntG (stF K.P K.m K.n K.D (K.P.sk K.m) (F.gone k) k) K.n * (K.n + 1) + (K.n - lo'), by omega, hf, hr, fun i hi => ?_, fun i hi hHi => ?_, ⟨fu, by omega, hrun⟩, Nat.le_refl _⟩
  · rintro ⟨h1, h2⟩
    have h3 : (F.gone k).H i = true := Classical.byContradiction fun q => by
      have := hn i h1 (by simpa using q)
      omega
    rw [stF_G] at h2
    have h4 : i ≠ k := fun e => by subst e; omega
    have h5 : (F.gone k).G i = F.G i := by simp [Fl.gone, set1, h4]
    exact h.lw i (by omega) ⟨h3, h5.symm.trans h2⟩
  · by_cases h1 : (F.gone k).H i = true
    · exact h.ho i hi h1
    · rcases stF_H _ _ _ _ _ _ _ _ hHi (by simpa using h1) with ⟨rfl, h2⟩ | ⟨rfl, h2⟩
      · exact (hR k hk hO).1 h2
      · exact (hR k hk hO).2 h2
theorem GoI.low {K : Fk} {w : World} {O : Nat → Bool} {g : Nat} {V V' : World} {F : Fl} {X : Fx} {k : Nat} (h : GoI K w O g V F X k) (hk : k < K.n) (hq : ¬ (F.H k = true ∧ F.G k = false)) (hf : FlC K V' O F X (k + 1)) (hr : Fr K w V') : ∃ g', g' < g ∧ GoI K w O g' V' F X (k + 1) :=
  ⟨cntG F K.n * (K.n + 1) + (K.n - (k + 1)), by have := h.ms; omega, hf, hr, fun i hi => by
    by_cases hik : i = k
    · subst hik; exact hq
    · exact h.lw i (by omega), h.ho, h.run, Nat.le_refl _⟩
theorem GoI.below {K : Fk} {w : World} {O : Nat → Bool} {g : Nat} {V V' : World} {F : Fl} {X : Fx} {lo : Nat} (h : GoI K w O g V F X lo) (hb : Below V.heap.size V V') : GoI K w O g V' F X lo := ⟨h.f.below hb, h.r.trans (Fr.below hb), h.lw, h.ho, h.run, h.ms⟩
set_option maxRecDepth 100000 in
set_option maxHeartbeats 8000000 in
theorem goThrough_c (K : Fk) (hK : FkOk K) (O : Nat → Bool) (X : Fx) (w : World) (h : FlC K w O ⟨fun _ => ⟨[], 0⟩, fun _ => false, fun _ => false⟩ X 0) (hR : Rdy K O) (hR2 : Rdy2 K O) (hO : O 0 = true) : Calls Try.prog 95 #[.pointer (some ⟨K.f, 0, none⟩)] w (GoP K w O) := by
  have HF := Lib.hid h
  have HK := Lib.hid hK
  have n1 := hK.n1
  have n0 := hK.n0
  have HR := Lib.hid hR
  have HR2 := Lib.hid hR2
  have HO := Lib.hid hO
  have x0 : w.cell? ⟨K.rh, 0, none⟩ = some (.bool false) := h.h.cell n0
  have y0 : w.frozen? ⟨K.rh, 0, none⟩ = false := h.h.frz 0
  have ni : (0 : Int) < K.n := by omega
  have f7 : w.cell? ⟨K.f, 7, none⟩ = some (.slice (some ⟨K.rh, 0, none⟩) K.n K.n) := HF.out.f.cell 7
  obtain ⟨W1, hW1⟩ : ∃ V, V = w.setCell ⟨K.rh, 0, none⟩ (.bool true) := ⟨_, rfl⟩
  have HI : Hid (GoI K w O (K.n * (K.n + 1) + K.n) W1 Fl.z X 0) := Lib.hid (by
    have h1 := h.setH hK 0 true
    have e : (⟨fun _ => ⟨[], 0⟩, set1 (fun _ => false) 0 true, fun _ => false⟩ : Fl) = Fl.z := by
      unfold Fl.z set1
      congr 1
    rw [hW1]
    refine ⟨e ▸ h1, Fr.set (.inr (.inr (.inr (.inl rfl)))) _ _, fun i hi => by omega, fun i hi hHi => ?_, ⟨K.n + 1, Nat.lt_succ_of_le (cntG_le _ _), rfl⟩, ?_⟩
    · have : i = 0 := by simpa [Fl.z] using hHi
      rw [this]; exact hO
    · have := Nat.mul_le_mul_right (K.n + 1) (cntG_le Fl.z K.n)
      omega)
  have HW1 := Lib.hid hW1
  clear h hK hR hR2 hO hW1
  go_enter Try.func95, Try.ntmps95
  go_wp2_with fail
  refine wp_scope_straight ?_
  go_upto_region 2 with fail
  rw [← HW1.out]
  clear x0 y0 f7
  refine wp_label ?_
  go_wp2_with fail
  go_loopg [4] (K.n * (K.n + 1) + K.n) (fun g p wr => ∃ F X lo, GoI K w O g wr F X lo)
  case atStart => exact ⟨_, _, _, HI.out⟩
  case round =>
    obtain ⟨F, X', lo, hI⟩ := hrel
    have HG := Lib.hid hI
    clear hI HI
    have HlN : lo ≤ K.n := HG.out.f.lo
    have f4 : wr.cell? ⟨K.f, 4, none⟩ = some (.slice (K.A.cda K.m) K.n (K.A.cdc K.m)) := HG.out.f.f.cell 4
    have f9 : wr.cell? ⟨K.f, 9, none⟩ = some (.int .i64 lo) := HG.out.f.f.cell 9
    by_cases hlo : lo < K.n
    · have d1 : decide ((lo : Int) < (K.n : Int)) = true := decide_eq_true (by omega)
      have d2 : decide (lo < K.n) = true := decide_eq_true hlo
      have hli : (lo : Int) < K.n := by omega
      go_wp2_with fail
      go_quiet (fail)
      obtain ⟨V, hV⟩ : ∃ V, V = wr.drewN nq := ⟨_, rfl⟩
      have HV : Hid (GoI K w O gk V F X' lo) := Lib.hid (HG.out.below (hV ▸ below_drewN (Below.refl _ _) _))
      rw [← hV]
      clear f4 f9 hV
      have f7 : V.cell? ⟨K.f, 7, none⟩ = some (.slice (some ⟨K.rh, 0, none⟩) K.n K.n) := HV.out.f.f.cell 7
      have f8 : V.cell? ⟨K.f, 8, none⟩ = some (.slice (some ⟨K.rg, 0, none⟩) K.n K.n) := HV.out.f.f.cell 8
      have f9 : V.cell? ⟨K.f, 9, none⟩ = some (.int .i64 lo) := HV.out.f.f.cell 9
      have xh : V.cell? ⟨K.rh, lo, none⟩ = some (.bool (F.H lo)) := HV.out.f.h.cell hlo
      have xg : V.cell? ⟨K.rg, lo, none⟩ = some (.bool (F.G lo)) := HV.out.f.g.cell hlo
      have y9 : V.frozen? ⟨K.f, 9, none⟩ = false := HV.out.f.f.frz 9
      have yg : V.frozen? ⟨K.rg, lo, none⟩ = false := HV.out.f.g.frz lo
      have HLow : Hid (¬ (F.H lo = true ∧ F.G lo = false) → ∃ g', g' < gk ∧ GoI K w O g' (V.setCell ⟨K.f, 9, none⟩ (.int .i64 ((lo : Int) + 1))) F X' (lo + 1)) := Lib.hid fun q => HV.out.low hlo q (HV.out.f.setLo HK.out (lo + 1) hlo) (HV.out.r.trans (Fr.set (.inl rfl) 9 _))
      cases hH : F.H lo with
      | false =>
        rw [hH] at xh
        obtain ⟨g', hg1, hg2⟩ := HLow.out (by rw [hH]; simp)
        have HG2 := Lib.hid hg2
        clear hg2 HLow hH
        go_wp2_with fail
        go_roundg g'
        case measure => exact hg1
        case rel => exact ⟨F, X', lo + 1, HG2.out⟩
      | true =>
        rw [hH] at xh
        have HHt := Lib.hid hH
        cases hG : F.G lo with
        | true =>
          rw [hG] at xg
          obtain ⟨g', hg1, hg2⟩ := HLow.out (by rw [hG]; simp)
          have HG2 := Lib.hid hg2
          clear hg2 HLow hH hG
          go_wp2_with fail
          go_roundg g'
          case measure => exact hg1
          case rel => exact ⟨F, X', lo + 1, HG2.out⟩
        | false =>
          rw [hG] at xg
          have HGt := Lib.hid hG
          have hOlo : O lo = true := HV.out.ho lo hlo hH
          have HOl := Lib.hid hOlo
          obtain ⟨W2, hW2⟩ : ∃ q, q = V.setCell ⟨K.rg, lo, none⟩ (.bool true) := ⟨_, rfl⟩
          have HF2 : Hid (FlC K W2 O (F.gone lo) X' lo ∧ Fr K w W2) := Lib.hid (by rw [hW2]; exact ⟨HV.out.f.setG HK.out lo, HV.out.r.trans (Fr.set (.inr (.inr (.inr (.inr rfl)))) _ _)⟩)
          have HSt := Lib.hid (step_c K HK.out O (F.gone lo) X' lo lo W2 HF2.out.1 HR.out hlo hOlo)
          have HW2 := Lib.hid hW2
          clear hH hG hOlo hW2 HLow
          go_upto_region 7 with fail
          rw [← HW2.out]
          clear xh xg f7 f8 f9 y9 yg
          go_wp2_with fail
          refine HSt.out.mono ?_
          rintro e W3 ⟨X3, lo3, rfl, hf3, hr3, hl3, hn3⟩
          obtain ⟨er, her⟩ : ∃ q, stE K.P K.m K.n K.D (K.P.sk K.m) (F.gone lo) lo = q := ⟨_, rfl⟩
          rw [her]
          have H3 := Lib.hid (And.intro hf3 (And.intro (HF2.out.2.trans hr3) (And.intro hl3 hn3)))
          have HEr := Lib.hid her
          clear hf3 hr3 hl3 hn3 her
          by_cases he0 : er = 0
          · obtain ⟨g', hg1, hg2⟩ := HV.out.next hlo HOl.out HR2.out HHt.out HGt.out (HEr.out.trans he0) H3.out.1 H3.out.2.1 H3.out.2.2.1 H3.out.2.2.2
            have HG2 := Lib.hid hg2
            have d0 : (er != 0) = false := by simpa using he0
            clear hg2 he0
            go_wp2_with fail
            go_roundg g'
            case measure => exact hg1
            case rel => exact ⟨_, X3, lo3, HG2.out⟩
          · have d0 : (er != 0) = true := by simpa using he0
            have HRun : Hid (K.run = (stF K.P K.m K.n K.D (K.P.sk K.m) (F.gone lo) lo, lo, er)) := Lib.hid (by
              obtain ⟨fu, hfu, hrun⟩ := HV.out.run
              obtain ⟨fu, rfl⟩ : ∃ q, fu = q + 1 := ⟨fu - 1, by omega⟩
              rw [run_bad _ _ _ _ _ fu (pick_some hlo HHt.out HGt.out HV.out.lw) (by rw [HEr.out]; exact he0), HEr.out] at hrun
              exact hrun.symm)
            clear he0
            go_wp2
            go_ret2
            exact ⟨X3, lo3, by rw [HRun.out]; rfl, by rw [HRun.out]; exact H3.out.1, H3.out.2.1⟩
    · have d1 : decide ((lo : Int) < (K.n : Int)) = false := decide_eq_false (by omega)
      have d2 : decide (lo < K.n) = false := decide_eq_false hlo
      have HRun : Hid (K.run = (F, 0, 0)) := Lib.hid (by
        obtain ⟨fu, hfu, hrun⟩ := HG.out.run
        rw [run_none _ _ _ _ _ fu (pick_none fun i hi => HG.out.lw i (by omega))] at hrun
        exact hrun.symm)
      go_wp2_with fail
      go_quiet (fail)
      go_wp2
      go_ret2
      exact ⟨X', lo, by rw [HRun.out]; rfl, by rw [HRun.out]; exact HG.out.f.below (below_drewN (Below.refl _ _) _), HG.out.r.trans (Fr.below (below_drewN (Below.refl _ _) _))⟩
end Go.Proofs.Ytpiafgmncfibmaa.Vf
