import Derived.Laws.BitsLemmas
import Derived.IntWalk
import Derived.Laws.BitsAllLaws
import Derived.Deep.DrawnRows
import Derived.Test.YtpiafgmncfibmaaVn
import Derived.Test.YtpiafgmncfibmaaVo
import Derived.Test.YtpiafgmncfibmaaVc
import Derived.Test.YtpiafgmncfibmaaRows
import Derived.WalkKit
import Derived.ProofKit
import Derived.OpenShut
import Derived.Deep.QuietTactic
import Derived.BigQuiet
import Derived.Outline
import Derived.WalkSmall
import Derived.WalkLawsBesides
import Derived.WalkSpells
import Derived.BigGuardPart
import Derived.RegionTactic
import Derived.Deep.RegionHeld3
import Derived.Lib.Hide
import Derived.Deep.MidRow
import Derived.Below
import Derived.Deep.RegionWith
import Derived.Deep.OwnRows
import Derived.Deep.AppendLies
import Derived.Deep.RegionLaw
import Derived.Deep.CutBlock
import Derived.Deep.DeepCutAuto
namespace Go.Proofs.Ytpiafgmncfibmaa.Vf
open Go.ChangeShapes Go.WideShapes Go.ChangeAt Go.RowKit
set_option linter.unusedVariables false

theorem quiet_same {P : Program} {f : FuncId} {args : Array Value} {w : World} {n : Nat} {v : Value} (h : Calls P f args (w.drewN n) fun e w' => e = .returned v ∧ w' = w.drewN n) : Calls P f args (w.drewN n) fun e w'' => e = .returned v ∧ ∃ m, w'' = w.drewN m :=
  h.mono fun _ _ ⟨he, hm⟩ => ⟨he, n, hm⟩
theorem eqB_n {c k : Nat} (h : c ≠ k) : ((c : Int) == (k : Int)) = false := by simpa using (show ¬ (c : Int) = (k : Int) by omega)
theorem isIn_y {n : Int} {c : Nat} (h : isIn n c = true) : ∃ k : Nat, n = k ∧ k < c := by
  have := of_decide_eq_true h
  exact ⟨n.toNat, by omega, by omega⟩
set_option maxRecDepth 100000 in
set_option maxHeartbeats 4000000 in
theorem names_c (P : Pg) (A : Ad) (m c : Nat) (a b : Int) (sz : Int) (w : World) (h : PgAt w P A) (hf : Fits P A) (hm : m < P.nm) : Calls Try.prog 69 #[.agg (P.cells A), .int .i64 m, .agg (ret4 c a b sz)] w fun e w' => e = .returned (.bool (nmB P m c a b)) ∧ Below w.heap.size w w' := by
  have HP := Lib.hid h
  have HF := Lib.hid hf
  have hE : Below w.heap.size w ((w.alloc (.cells (P.cells A) 26)).alloc (.cells (ret4 c a b sz) 74)) := ((Below.refl _ _).alloc (Nat.le_refl _) _).alloc (by simp) _
  obtain ⟨bm, om, hma, hbm, hcm⟩ := h.m.resolve_left (by omega)
  have HM : Hid (∀ i, i < P.nm → _) := Lib.hid hcm
  have HMa := Lib.hid hma
  have hnm := hf.nm
  have hnc := hf.nc
  have hnp := hf.np
  unfold Big at hnm hnc hnp
  clear h hf hcm
  have hr : nmB P m c a b = if c = 1 then isIn a P.np else if c = 4 ∨ c = 5 then isIn a (P.pn m + P.ln m) else if c = 27 then isIn a P.nm else if c = 29 then isIn a P.nc
    else if c = 30 ∨ c = 31 then isIn a P.nc && isIn b (P.nf a.toNat) else if c = 32 ∨ c = 33 ∨ c = 34 then decide (a = 1 ∨ a = 2) else if c = 38 then isIn a P.nm && thr P a.toNat else true := rfl
  have HR := Lib.hid hr
  have HE := Lib.hid hE
  clear hr hE hma
  show Calls Try.prog 69 #[.agg #[.slice A.pa P.np A.pc, .slice A.ca P.nc A.cc, .slice A.ma P.nm A.mc], .int .i64 m, .agg #[.int .i64 c, .int .i64 a, .int .i64 b, .int .i64 sz]] w _
  replace HE : Hid (Below w.heap.size w ((w.alloc (.cells #[.slice A.pa P.np A.pc, .slice A.ca P.nc A.cc, .slice A.ma P.nm A.mc] 26)).alloc (.cells #[.int .i64 c, .int .i64 a, .int .i64 b, .int .i64 sz] 74))) := HE
  by_cases h1 : c = 1
  · subst h1
    rw [show nmB P m 1 a b = isIn a P.np from HR.out]
    go_enter Try.func69, Try.ntmps69
    go_wp2_with fail
    refine (isIn_c a P.np _).mono ?_
    rintro e w' ⟨rfl, rfl⟩
    go_wp2
    go_ret
    exact ⟨rfl, HE.out⟩
  by_cases h27 : c = 27
  · subst h27
    rw [show nmB P m 27 a b = isIn a P.nm from HR.out]
    go_enter Try.func69, Try.ntmps69
    go_wp2_with fail
    refine (isIn_c a P.nm _).mono ?_
    rintro e w' ⟨rfl, rfl⟩
    go_wp2
    go_ret
    exact ⟨rfl, HE.out⟩
  by_cases h29 : c = 29
  · subst h29
    rw [show nmB P m 29 a b = isIn a P.nc from HR.out]
    go_enter Try.func69, Try.ntmps69
    go_wp2_with fail
    refine (isIn_c a P.nc _).mono ?_
    rintro e w' ⟨rfl, rfl⟩
    go_wp2
    go_ret
    exact ⟨rfl, HE.out⟩
  by_cases h4 : c = 4
  · subst h4
    rw [show nmB P m 4 a b = isIn a (P.pn m + P.ln m) from HR.out]
    have x0 : w.cell? ⟨bm, om + m * 5, none⟩ = some (.slice (A.ppa m) (P.pn m) (A.ppc m)) := (HM.out m hm).1
    have x2 : w.cell? ⟨bm, om + m * 5 + 2, none⟩ = some (.slice (A.lla m) (P.ln m) (A.llc m)) := (HM.out m hm).2.2.1
    have l0 := HF.out.pn m hm
    have l1 := HF.out.ln m hm
    unfold Big at l0 l1
    rw [HMa.out] at HE ⊢
    have hi : (m : Int) < P.nm := by omega
    have hne : bm ≠ w.heap.size := by omega
    have hne2 : bm ≠ w.heap.size + 1 := by omega
    have hsum : IntKind.i64.wrap ((P.pn m : Int) + (P.ln m : Int)) = ((P.pn m + P.ln m : Nat) : Int) := by rw [IntKind.wrap_i64]; omega
    generalize P.pn m = pn at x0 l0 hsum ⊢
    generalize P.ln m = ln at x2 l1 hsum ⊢
    go_enter Try.func69, Try.ntmps69
    go_wp2_with fail
    go_quiet ((go_at_call 96; exact quiet_same (isIn_c a (pn + ln) _)))
    go_wp2
    go_ret
    exact ⟨rfl, below_drewN HE.out _⟩
  by_cases h5 : c = 5
  · subst h5
    rw [show nmB P m 5 a b = isIn a (P.pn m + P.ln m) from HR.out]
    have x0 : w.cell? ⟨bm, om + m * 5, none⟩ = some (.slice (A.ppa m) (P.pn m) (A.ppc m)) := (HM.out m hm).1
    have x2 : w.cell? ⟨bm, om + m * 5 + 2, none⟩ = some (.slice (A.lla m) (P.ln m) (A.llc m)) := (HM.out m hm).2.2.1
    have l0 := HF.out.pn m hm
    have l1 := HF.out.ln m hm
    unfold Big at l0 l1
    rw [HMa.out] at HE ⊢
    have hi : (m : Int) < P.nm := by omega
    have hne : bm ≠ w.heap.size := by omega
    have hne2 : bm ≠ w.heap.size + 1 := by omega
    have hsum : IntKind.i64.wrap ((P.pn m : Int) + (P.ln m : Int)) = ((P.pn m + P.ln m : Nat) : Int) := by rw [IntKind.wrap_i64]; omega
    generalize P.pn m = pn at x0 l0 hsum ⊢
    generalize P.ln m = ln at x2 l1 hsum ⊢
    go_enter Try.func69, Try.ntmps69
    go_wp2_with fail
    go_quiet ((go_at_call 96; exact quiet_same (isIn_c a (pn + ln) _)))
    go_wp2
    go_ret
    exact ⟨rfl, below_drewN HE.out _⟩
  by_cases h30 : c = 30
  · subst h30
    rw [show nmB P m 30 a b = (isIn a P.nc && isIn b (P.nf a.toNat)) from HR.out]
    by_cases hi : isIn a P.nc = true
    · obtain ⟨k, rfl, hk⟩ := isIn_y hi
      rw [hi]
      rcases HP.out.k with h0 | ⟨bk, ok, hka, hbk, hck⟩
      · omega
      have x0 : w.cell? ⟨bk, ok + k, none⟩ = some (.slice (A.fa k) (P.nf k) (A.fc k)) := hck k hk
      rw [show ((k : Int).toNat) = k from Int.toNat_natCast k]
      have l0 := HF.out.nf k hk
      unfold Big at l0
      rw [hka] at HE ⊢
      clear hck
      have hi2 : (k : Int) < P.nc := by omega
      have hne : bk ≠ w.heap.size := by omega
      have hne2 : bk ≠ w.heap.size + 1 := by omega
      generalize P.nf k = nf at x0 l0 ⊢
      go_enter Try.func69, Try.ntmps69
      go_wp2_with fail
      go_quiet ((go_at_call 96; exact quiet_same (isIn_c _ _ _)))
      go_wp2
      go_ret
      exact ⟨rfl, below_drewN HE.out _⟩
    · have hi' : isIn a P.nc = false := by simpa using hi
      rw [hi']
      have HI1 : Hid (∀ V, Calls Try.prog 96 #[.int .i64 a, .int .i64 (P.nc : Nat)] V fun e w' => e = .returned (.bool false) ∧ w' = V) := Lib.hid fun V => hi' ▸ isIn_c a P.nc V
      clear hi hi'
      go_enter Try.func69, Try.ntmps69
      go_wp2_with fail
      go_quiet ((go_at_call 96; exact quiet_same (HI1.out _)))
      go_wp2
      go_ret
      exact ⟨rfl, below_drewN HE.out _⟩
  by_cases h31 : c = 31
  · subst h31
    rw [show nmB P m 31 a b = (isIn a P.nc && isIn b (P.nf a.toNat)) from HR.out]
    by_cases hi : isIn a P.nc = true
    · obtain ⟨k, rfl, hk⟩ := isIn_y hi
      rw [hi]
      rcases HP.out.k with h0 | ⟨bk, ok, hka, hbk, hck⟩
      · omega
      have x0 : w.cell? ⟨bk, ok + k, none⟩ = some (.slice (A.fa k) (P.nf k) (A.fc k)) := hck k hk
      rw [show ((k : Int).toNat) = k from Int.toNat_natCast k]
      have l0 := HF.out.nf k hk
      unfold Big at l0
      rw [hka] at HE ⊢
      clear hck
      have hi2 : (k : Int) < P.nc := by omega
      have hne : bk ≠ w.heap.size := by omega
      have hne2 : bk ≠ w.heap.size + 1 := by omega
      generalize P.nf k = nf at x0 l0 ⊢
      go_enter Try.func69, Try.ntmps69
      go_wp2_with fail
      go_quiet ((go_at_call 96; exact quiet_same (isIn_c _ _ _)))
      go_wp2
      go_ret
      exact ⟨rfl, below_drewN HE.out _⟩
    · have hi' : isIn a P.nc = false := by simpa using hi
      rw [hi']
      have HI1 : Hid (∀ V, Calls Try.prog 96 #[.int .i64 a, .int .i64 (P.nc : Nat)] V fun e w' => e = .returned (.bool false) ∧ w' = V) := Lib.hid fun V => hi' ▸ isIn_c a P.nc V
      clear hi hi'
      go_enter Try.func69, Try.ntmps69
      go_wp2_with fail
      go_quiet ((go_at_call 96; exact quiet_same (HI1.out _)))
      go_wp2
      go_ret
      exact ⟨rfl, below_drewN HE.out _⟩
  by_cases h32 : c = 32
  · subst h32
    rw [show nmB P m 32 a b = decide (a = 1 ∨ a = 2) from HR.out]
    by_cases h1 : a = 1
    · subst h1
      go_enter Try.func69, Try.ntmps69
      go_wp2
      go_ret
      exact ⟨rfl, HE.out⟩
    by_cases h2 : a = 2
    · subst h2
      go_enter Try.func69, Try.ntmps69
      go_wp2
      go_ret
      exact ⟨rfl, HE.out⟩
    rw [decide_eq_false (by omega)]
    have d1 : (a == 1) = false := by simpa using h1
    have d2 : (a == 2) = false := by simpa using h2
    go_enter Try.func69, Try.ntmps69
    go_wp2
    go_ret
    exact ⟨rfl, HE.out⟩
  by_cases h33 : c = 33
  · subst h33
    rw [show nmB P m 33 a b = decide (a = 1 ∨ a = 2) from HR.out]
    by_cases h1 : a = 1
    · subst h1
      go_enter Try.func69, Try.ntmps69
      go_wp2
      go_ret
      exact ⟨rfl, HE.out⟩
    by_cases h2 : a = 2
    · subst h2
      go_enter Try.func69, Try.ntmps69
      go_wp2
      go_ret
      exact ⟨rfl, HE.out⟩
    rw [decide_eq_false (by omega)]
    have d1 : (a == 1) = false := by simpa using h1
    have d2 : (a == 2) = false := by simpa using h2
    go_enter Try.func69, Try.ntmps69
    go_wp2
    go_ret
    exact ⟨rfl, HE.out⟩
  by_cases h34 : c = 34
  · subst h34
    rw [show nmB P m 34 a b = decide (a = 1 ∨ a = 2) from HR.out]
    by_cases h1 : a = 1
    · subst h1
      go_enter Try.func69, Try.ntmps69
      go_wp2
      go_ret
      exact ⟨rfl, HE.out⟩
    by_cases h2 : a = 2
    · subst h2
      go_enter Try.func69, Try.ntmps69
      go_wp2
      go_ret
      exact ⟨rfl, HE.out⟩
    rw [decide_eq_false (by omega)]
    have d1 : (a == 1) = false := by simpa using h1
    have d2 : (a == 2) = false := by simpa using h2
    go_enter Try.func69, Try.ntmps69
    go_wp2
    go_ret
    exact ⟨rfl, HE.out⟩
  by_cases h38 : c = 38
  · subst h38
    rw [show nmB P m 38 a b = (isIn a P.nm && thr P a.toNat) from HR.out]
    by_cases hi : isIn a P.nm = true
    · obtain ⟨k, rfl, hk⟩ := isIn_y hi
      rw [hi]
      obtain ⟨x0, x1, x2, x3, x4⟩ := HM.out k hk
      rw [show ((k : Int).toNat) = k from Int.toNat_natCast k]
      rw [HMa.out] at HE ⊢
      have HI1 : Hid (∀ V, Calls Try.prog 96 #[.int .i64 (k : Int), .int .i64 (P.nm : Nat)] V fun e w' => e = .returned (.bool true) ∧ w' = V) := Lib.hid fun V => hi ▸ isIn_c k P.nm V
      have HT : Hid (∀ V, Below w.heap.size w V → Calls Try.prog 97 #[.agg #[.slice (A.ppa k) (P.pn k) (A.ppc k), .int .i64 (P.rt k), .slice (A.lla k) (P.ln k) (A.llc k), .int .i64 (P.sk k), .slice (A.cda k) (P.cn k) (A.cdc k)]] V fun e w' => e = .returned (.bool (thr P k)) ∧ Below V.heap.size V w') := Lib.hid fun V hV => isThreads_c P A k V ((HP.out.a k hk).kept (Kept.of hV)) (HF.out.pn k hk)
      clear hi
      have hi2 : (k : Int) < P.nm := by omega
      have hne : bm ≠ w.heap.size := by omega
      have hne2 : bm ≠ w.heap.size + 1 := by omega
      go_enter Try.func69, Try.ntmps69
      go_wp2_with (first | (go_at_call 96; refine (HI1.out _).mono ?_; rintro e w1 ⟨rfl, rfl⟩) | (go_at_call 97; refine (HT.out _ HE.out).mono ?_; rintro e w1 ⟨rfl, hb1⟩))
      go_ret
      exact ⟨by simp, HE.out.trans (hb1.mono HE.out.size)⟩
    · have hi' : isIn a P.nm = false := by simpa using hi
      rw [hi']
      have HI1 : Hid (∀ V, Calls Try.prog 96 #[.int .i64 a, .int .i64 (P.nm : Nat)] V fun e w' => e = .returned (.bool false) ∧ w' = V) := Lib.hid fun V => hi' ▸ isIn_c a P.nm V
      clear hi hi'
      go_enter Try.func69, Try.ntmps69
      go_wp2_with fail
      refine (HI1.out _).mono ?_
      rintro e w' ⟨rfl, rfl⟩
      go_wp2
      go_ret
      exact ⟨rfl, HE.out⟩
  rw [show nmB P m c a b = true from HR.out.trans (by rw [if_neg h1, if_neg (by omega), if_neg h27, if_neg h29, if_neg (by omega), if_neg (by omega), if_neg h38])]
  have d1 : ((c : Int) == 1) = false := eqB_n h1
  have d4 : ((c : Int) == 4) = false := eqB_n h4
  have d5 : ((c : Int) == 5) = false := eqB_n h5
  have d27 : ((c : Int) == 27) = false := eqB_n h27
  have d29 : ((c : Int) == 29) = false := eqB_n h29
  have d30 : ((c : Int) == 30) = false := eqB_n h30
  have d31 : ((c : Int) == 31) = false := eqB_n h31
  have d32 : ((c : Int) == 32) = false := eqB_n h32
  have d33 : ((c : Int) == 33) = false := eqB_n h33
  have d34 : ((c : Int) == 34) = false := eqB_n h34
  have d38 : ((c : Int) == 38) = false := eqB_n h38
  clear h1 h4 h5 h27 h29 h30 h31 h32 h33 h34 h38
  go_enter Try.func69, Try.ntmps69
  go_wp2
  go_ret
  exact ⟨rfl, HE.out⟩
end Go.Proofs.Ytpiafgmncfibmaa.Vf
