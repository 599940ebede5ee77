import Derived.Deep.DrawnRows
import Derived.Deep.RegionLaw
import Derived.Test.YtpiafgmncfibmaaRp
import Derived.Test.YtpiafgmncfibmaaRows
import Derived.WalkKit
import Derived.ProofKit
import Derived.OpenShut
import Derived.Deep.QuietTactic
import Derived.BigQuiet
import Derived.Outline
import Derived.WalkSmall
import Derived.WalkLawsBesides
import Derived.WalkSpells
import Derived.BigGuardPart
import Derived.RegionTactic
import Derived.Deep.RegionHeld3
import Derived.Lib.Hide
import Derived.Deep.MidRow
import Derived.Below
import Derived.Deep.RegionWith
import Derived.Deep.OwnRows
import Derived.Deep.AppendLies
import Derived.Deep.RegionLaw
namespace Go.Proofs.Ytpiafgmncfibmaa
open Go.ChangeShapes Go.WideShapes Go.ChangeAt Go.RowKit
set_option linter.unusedVariables false

def ProgV (S : Src) (w : World) (v : Value) (V : World) : Prop := ∃ A, v = .agg ((prs S.d).cells A) ∧ PgOwn w.heap.size V (prs S.d) A
def MethW (P : Pg) (i n0 : Nat) (r : Int) (n1 : Nat) (s : Int) (n2 : Nat) (w : World) (v : Value) (V : World) : Prop := ∃ a0 c0 a1 c1 a2 c2,
  v = .agg #[.slice a0 n0 c0, .int .i64 r, .slice a1 n1 c1, .int .i64 s, .slice a2 n2 c2] ∧ V.ownsRow w.heap.size 3 1 (.slice a0 n0 c0) n0 (els1 n0 fun j => .int .i64 (P.pt i j)) ∧
  V.ownsRow w.heap.size 3 1 (.slice a1 n1 c1) n1 (els1 n1 fun j => .int .i64 (P.lt i j)) ∧ V.ownsRow w.heap.size 5 1 (.slice a2 n2 c2) n2 (els1 n2 fun j => .int .u8 (P.cd i j : Nat))
theorem methW {S : Src} {i : Nat} {w : World} {v : Value} {V : World} (h : MethV S (mS S.d (m0 S.d + 1) i) w v V) : MethW (prs S.d) i ((prs S.d).pn i) ((prs S.d).rt i) ((prs S.d).ln i) ((prs S.d).sk i) ((prs S.d).cn i) w v V := by
  obtain ⟨a0, c0, a1, c1, a2, c2, he, h0, h1, h2⟩ := h
  refine ⟨a0, c0, a1, c1, a2, c2, ?_, h0, ?_, h2⟩
  · rw [he]
    show Value.agg #[_, .int .i64 _, .slice a1 (S.d (_ + 2 + _)) c1, _, _] = Value.agg #[_, .int .i64 _, .slice a1 (S.d (_ + 2 + _)) c1, _, _]
    rfl
  · exact h1
theorem NxR.imp {S : Src} {x : Option (Nat × Int)} {k : Nat} {Q Q' : Value → World → Prop} {V V' : World} {e : Ending} (h : NxR S x k Q V e V') (f : ∀ {v W}, Q v W → Q' v W) : NxR S x k Q' V e V' := by
  cases x with
  | some pe => exact h
  | none =>
    obtain ⟨v, h1, h2, h3⟩ := h
    exact ⟨v, h1, f h2, h3⟩
theorem PM.below {S : Src} {w V V' : World} {k QB : Nat} {P : Pg} {A : Ad} (h : PM S w k QB P A V) (hb : Below V.heap.size V V') : PM S w k QB P A V' :=
  ⟨⟨h.rd.r.keep (.below hb), h.rd.b.below hb⟩, h.res.keep (.below hb), h.box.keep (.below hb), h.own.keepE fun e _ => .below hb, h.qb, grown_trans h.gr (grown_of_below hb (some S.R)) (.inl rfl)⟩
theorem PM.drewN {S : Src} {w V : World} {k QB : Nat} {P : Pg} {A : Ad} (h : PM S w k QB P A V) (q : Nat) : PM S w k QB P A (V.drewN q) := h.below (below_drewN (Below.refl _ _) q)
/-- A program that has been read, while it is laid into its result. -/
structure PF (S : Src) (w : World) (k : Nat) (P : Pg) (A : Ad) (X : Array Value) (V : World) : Prop where
  rd : Rd S k V
  res : BoxT V w.heap.size X 26
  own : PgOwn (w.heap.size + 1) V P A
  gr : w.grownBy V (some S.R)
theorem PF.set {S : Src} {w V : World} {k : Nat} {P : Pg} {A : Ad} {X X' : Array Value} (h : PF S w k P A X V) (hl : S.W.heap.size ≤ w.heap.size) (j : Nat) (v : Value) (hX : X.setIfInBounds j v = X') : PF S w k P A X' (V.setCell ⟨w.heap.size, j, none⟩ v) :=
  ⟨h.rd.set h.res (by decide) hl v, hX ▸ h.res.set j v, h.own.keepE fun e he => .set h.res (by omega), grown_own h.gr (grown_set V ⟨w.heap.size, j, none⟩ v) (fun g hg => by obtain rfl := Option.some.inj hg; exact Nat.le_refl _)⟩
theorem PF.y {S : Src} {w V : World} {k : Nat} {P : Pg} {A : Ad} {X : Array Value} (h : PF S w k P A X V) (j : Nat) (v : Value) (hv : X[j]? = some v) : V.cell? ⟨w.heap.size, j, none⟩ = some v ∧ V.frozen? ⟨w.heap.size, j, none⟩ = false := ⟨(h.res.cell j).trans hv, rowAt_frz h.res.row j⟩
theorem PgOwn.mono {lo lo' : Nat} {w : World} {P : Pg} {A : Ad} (h : PgOwn lo w P A) (hl : lo' ≤ lo) : PgOwn lo' w P A :=
  ⟨own_mono h.p hl, own_mono h.k hl, fun i hi => own_mono (h.f i hi) hl, own_mono h.m hl, fun i hi => own_mono (h.a i hi) hl, fun i hi => own_mono (h.l i hi) hl, fun i hi => own_mono (h.d i hi) hl⟩
theorem mS_succ (d : Nat → Nat) (i : Nat) : mS d (m0 d + 1) (i + 1) = mS d (m0 d + 1) i + 6 + d (mS d (m0 d + 1) i) + d (mS d (m0 d + 1) i + 2 + d (mS d (m0 d + 1) i)) + mSz d (mS d (m0 d + 1) i) := rfl
theorem meth_step2 {S : Src} {w V V' : World} {k QB np nc i g cap : Nat} {P : Pg} {A : Ad} (hp : PM S w k QB { P with np := np, nc := nc, nm := i } A V) (h : P5 S w k QB 50 { P with np := np, nc := nc, nm := i } A V V') (hl : S.W.heap.size ≤ w.heap.size) {a0 a1 a2 : Option Addr} {c0 c1 c2 n0 n1 n2 : Nat} {r s : Int}
    (e0 : P.pn i = n0) (e1 : P.ln i = n1) (e2 : P.cn i = n2) (e3 : P.rt i = r) (e4 : P.sk i = s)
    (r0 : V.ownsRow (w.heap.size + 1) 3 1 (.slice a0 n0 c0) n0 (els1 n0 fun j => .int .i64 (P.pt i j))) (r1 : V.ownsRow (w.heap.size + 1) 3 1 (.slice a1 n1 c1) n1 (els1 n1 fun j => .int .i64 (P.lt i j))) (r2 : V.ownsRow (w.heap.size + 1) 5 1 (.slice a2 n2 c2) n2 (els1 n2 fun j => .int .u8 (P.cd i j : Nat)))
    (hown : V'.ownsRow (w.heap.size + 1) 50 5 (.slice (some ⟨g, 0, none⟩) (i + 1) cap) (i + 1) (els5 i (P.mcells A) ++ [.slice a0 n0 c0, .int .i64 r, .slice a1 n1 c1, .int .i64 s, .slice a2 n2 c2])) :
    ∃ A', PM S w k QB { P with np := np, nc := nc, nm := i + 1 } A' (V'.setCell ⟨QB, 2, none⟩ (.slice (some ⟨g, 0, none⟩) (i + 1) cap)) := by
  subst e0 e1 e2 e3 e4
  exact meth_step hp h hl r0 r1 r2 hown
set_option maxRecDepth 100000 in
set_option maxHeartbeats 4000000 in
theorem rdx_program (S : Src) (HO : Hid (SrcOk S)) (w : World) (HR : Hid (Rd S 0 w)) :
    Calls Try.prog 82 #[.pointer (some ⟨S.R, 0, none⟩)] w (NxR S (prsE S.n S.d) (mS S.d (m0 S.d + 1) (S.d (m0 S.d))) (ProgV S w) w) := by
  have hmf : ∀ (fn : Fn) (first cap : Array Value) (w : World), (Instr.makeFunc fn first cap).run Try.prog w = .ok (.func fn first cap) w := fun _ _ _ _ => rfl
  have HW := Lib.hid HR.out.b.size
  have HL := Lib.hid HR.out.lt
  have kc := magicC w
  go_enter Try.func82, Try.ntmps82
  go_wp2_with fail
  clear kc
  have HM : Hid (MG S w 0 ((w.alloc (.cells z3 26)).alloc (.cells #[.int .u8 66, .int .u8 90, .int .u8 82, .int .u8 49] 5 (4, 5)))) := Lib.hid ⟨(HR.out.alloc _).alloc _, BoxT.keep (show BoxT (w.alloc _) w.heap.size z3 26 from heap_alloc_new _ _) (.alloc _ _), magicQ w, by simp, grown_trans (grown_alloc w _ (some S.R)) (grown_alloc _ _ (some S.R)) (.inl rfl)⟩
  go_loopw [11] (fun ix wr => ∃ j : Nat, j ≤ 4 ∧ ix = .int .i64 j ∧ Hid (firE (fun i => nxE S.n S.d 5 (eqB (magN i)) i) j = none ∧ MG S w j wr)) (fun ix _ => 4 - (intOf ix).toNat)
  case atStart => exact ⟨0, by omega, rfl, Lib.hid ⟨rfl, HM.out⟩⟩
  case round =>
    clear HM
    obtain ⟨j, hj, rfl, HQ⟩ := hrel
    by_cases hjm : j < 4
    · have gj : (j : Int) < 4 := by omega
      have q0 := HQ.out.2.mg j _ (mag_at j hjm)
      have hml := magN_lt j
      obtain ⟨m, hm⟩ : ∃ m, magN j = m := ⟨_, rfl⟩
      have HMm := Lib.hid hm
      rw [hm] at q0 hml
      clear hm
      go_wp2_with fail
      refine (nx_magic S HO j 5 _ (Lib.hid (HQ.out.2.rd.alloc _)) wr.heap.size m (by simp [go_sem]) hml).mono ?_
      intro e w1 h
      rcases h.two with ⟨p, er, hx, rfl, hb⟩ | ⟨hx, v, rfl, hq, hr, hg⟩
      · exact And.intro rfl (.bad (or_some (firE_at HQ.out.1 (by rw [HMm.out]; exact hx.out) hjm)) hb)
      · obtain rfl : v = _ := hq
        have HQ1 := Lib.hid ((HQ.out.2.alloc _).call HL.out hr hg)
        have HX1 : Hid (nxE S.n S.d 5 (eqB (magN j)) j = none) := Lib.hid (by rw [HMm.out]; exact hx.out)
        clear hr hg h
        go_wp2_with fail
        exact ⟨⟨j + 1, by omega, by go_num, Lib.hid ⟨firE_succ HQ.out.1 HX1.out, HQ1.out⟩⟩, by simp [intOf]; omega⟩
    · obtain rfl : j = 4 := by omega
      have HE1 := Lib.hid HQ.out.1
      go_wp2_with fail
      have HP : Hid (PM S w 4 wr.heap.size { prs S.d with np := 0, nc := 0, nm := 0 } noAd (wr.alloc (.cells z3 26))) := Lib.hid (HQ.out.2.pm S.d)
      generalize hV : wr.alloc (.cells #[.slice none 0 0, .slice none 0 0, .slice none 0 0] 26) = V0
      generalize hQB : wr.heap.size = QB at HP ⊢
      replace HP : Hid (PM S w 4 QB { prs S.d with np := 0, nc := 0, nm := 0 } noAd V0) := Lib.hid (hV ▸ HP.out)
      clear hV hQB HQ
      refine (rdx_count S HO 200 4 _ (Lib.hid HP.out.rd)).mono ?_
      intro e w1 h
      rcases h.two with ⟨p, er, hx, rfl, hb⟩ | ⟨HE2, v, rfl, hq, hr, hg⟩
      · exact And.intro rfl (.bad (by unfold prsE; rw [or_none HE1.out, or_some hx.out]) hb)
      obtain rfl : v = _ := hq
      have HP1 := Lib.hid (HP.out.call hr hg)
      have hnp : S.d 4 ≤ 200 := by have h1 := (nxE_none HE2.out).2; unfold leB at h1; have h2 := of_decide_eq_true h1; omega
      clear hr hg h HP
      obtain ⟨np, hnp0⟩ : ∃ n, S.d 4 = n := ⟨_, rfl⟩
      have HNP := Lib.hid hnp0
      rw [hnp0] at hnp ⊢
      clear hnp0
      go_wp2_with fail
      go_loopw [21] (fun ix wr => ∃ (i : Nat) (A : Ad), i ≤ np ∧ ix = .int .i64 i ∧ Hid (firE (fun i => numE S.n S.d (5 + 8 * i)) i = none ∧ PM S w (5 + 8 * i) QB { prs S.d with np := i, nc := 0, nm := 0 } A wr)) (fun ix _ => np - (intOf ix).toNat)
      case atStart => exact ⟨0, noAd, by omega, rfl, Lib.hid ⟨rfl, HP1.out⟩⟩
      case round =>
        obtain ⟨i, A, hi, rfl, HQ⟩ := hrel
        by_cases hin : i < np
        · have gi : (i : Int) < np := by omega
          go_wp2
          have HMd := Lib.hid HQ.out.2.drew
          obtain ⟨V, hV⟩ : ∃ V, V = Value.slice A.pa i A.pc := ⟨_, rfl⟩
          have HVE : Hid (∀ B : Pg, V = Value.slice A.pa i A.pc) := Lib.hid fun _ => hV
          have HOV : Hid (∀ k V', PM S w k QB { prs S.d with np := i, nc := 0, nm := 0 } A V' → V'.ownsRow (w.heap.size + 1) 2 1 V i (els1 i fun i => .int .i64 ((prs S.d).po i))) := Lib.hid fun k V' h => by rw [hV]; exact h.own.p
          have HOY : Hid (∀ k V', PM S w k QB { prs S.d with np := i, nc := 0, nm := 0 } A V' → V'.cell? ⟨QB, 0, none⟩ = some V ∧ V'.frozen? ⟨QB, 0, none⟩ = false) := Lib.hid fun k V' h => h.y 0 V (by rw [hV]; rfl)
          have HO5 : Hid (∀ k V1 V', P5 S w k QB 2 { prs S.d with np := i, nc := 0, nm := 0 } A V1 V' → V'.cell? ⟨QB, 0, none⟩ = some V ∧ V'.frozen? ⟨QB, 0, none⟩ = false) := Lib.hid fun k V1 V' h => h.y 0 V (by rw [hV]; rfl)
          have HVE := Lib.hid hV
          clear hV
          have HC := Lib.hid (rdx_number S HO (5 + 8 * i) wr.drew (Lib.hid HMd.out.rd))
          obtain ⟨y, hy⟩ : ∃ y, IntKind.i64.wrap (numU S.d (5 + 8 * i) 8 : Nat) = y := ⟨_, rfl⟩
          have HY := Lib.hid hy
          rw [hy] at HC
          clear hy
          obtain ⟨q, _⟩ := HOY.out _ _ HMd.out
          obtain ⟨i0, ii, iz0, iz1, iz2⟩ := info_parts info2x
          go_region_law (first | (go_simp; go_at_call 107; refine HC.out.mono ?_; intro e w4 h; rcases h.two with ⟨p', er, hx, rfl, hb⟩ | ⟨hx, v, rfl, hq, hr, hg⟩; exact And.intro rfl (.bad (by unfold prsE; rw [or_none HE1.out, or_none HE2.out, HNP.out, or_some (firE_at HQ.out.1 hx.out hin)]) hb); obtain rfl : v = _ := hq; have HM4 := Lib.hid (HMd.out.call hr hg); obtain ⟨q4, _⟩ := HOY.out _ _ HM4.out; obtain ⟨q4a, _⟩ := HOY.out _ _ (HM4.out.alloc (.cells #[.int .i64 y] 2)); clear hr hg h) | (refine step_append_lies _ (by rfl) (.tmp 24) (.tmp 27) 22 (by rfl) (w.heap.size + 1) 2 i0 _ 1 8 Try.underlying22 ii iz0 iz1 iz2 rfl (by decide) V i (els1 i fun i => .int .i64 ((prs S.d).po i)) (by rfl) (HOV.out _ _ (HM4.out.alloc (.cells #[.int .i64 y] 2))) ⟨w4.heap.size, 0, none⟩ 1 1 [.int .i64 y] (by rfl) (by rfl) (World.news_of_block (cs := #[.int .i64 y]) (t := 2) (fr := (0, 0)) (heap_alloc_new w4 _)) (by simp [Value.oneCell']) (by omega) (by unfold maxLen; omega) (by omega) (by have := HM4.out.lt; simp; omega) (w4.heap.size + 1) (by simp) ?_; intro gg cap5 w5 hown5 hgrow _ _; have HM5 := Lib.hid (HM4.out.app HW.out (HOV.out _ _ HM4.out) hgrow (by decide) (by decide)); have HN5 := Lib.hid hown5; obtain ⟨q5, z5'⟩ := HO5.out _ _ _ HM5.out; clear hown5 hgrow))
          all_goals
            clear q q4 q4a
            go_wp2_with fail
            exact ⟨⟨i + 1, _, by omega, by go_num, Lib.hid ⟨firE_succ HQ.out.1 hx.out, pool_step HM4.out HM5.out HW.out (y := .int .i64 y) (by rw [← HY.out]; rfl) HN5.out⟩⟩, by simp [intOf]; omega⟩
        · obtain rfl : np = i := by omega
          have HE3 := Lib.hid HQ.out.1
          have HP2 := Lib.hid HQ.out.2
          clear HQ HP1 hi
          go_wp2_with fail
          refine (rdx_count S HO 50 (5 + 8 * np) _ (Lib.hid HP2.out.rd)).mono ?_
          intro e w1 h
          rcases h.two with ⟨p, er, hx, rfl, hb⟩ | ⟨HE4, v, rfl, hq, hr, hg⟩
          · exact And.intro rfl (.bad (by unfold prsE; rw [or_none HE1.out, or_none HE2.out, HNP.out, or_none HE3.out, show c0 S.d = 5 + 8 * np by unfold c0; rw [HNP.out], or_some hx.out]) hb)
          obtain rfl : v = _ := hq
          have HP3 := Lib.hid (HP2.out.call hr hg)
          obtain ⟨nc, hnc0⟩ : ∃ n, S.d (5 + 8 * np) = n := ⟨_, rfl⟩
          have hnc : nc ≤ 50 := by have h1 := (nxE_none HE4.out).2; unfold leB at h1; have h2 := of_decide_eq_true h1; omega
          have HC0 : Hid (c0 S.d = 5 + 8 * np) := Lib.hid (by unfold c0; rw [HNP.out])
          have HNC : Hid (S.d (c0 S.d) = nc) := Lib.hid (by rw [HC0.out, hnc0])
          replace HE4 : Hid (nxE S.n S.d 2 (leB 50) (c0 S.d) = none) := Lib.hid (by rw [HC0.out]; exact HE4.out)
          replace HP3 := Lib.hid (show PM S w (c0 S.d + 1) QB { prs S.d with np := np, nc := 0, nm := 0 } A w1 by rw [HC0.out]; exact HP3.out)
          rw [hnc0]
          clear hr hg h HP2 hnc0
          have HA := Lib.hid (trivial : True)
          go_wp2_with fail
          go_loopw [33] (fun ix wr => ∃ (i : Nat) (A : Ad), i ≤ nc ∧ ix = .int .i64 i ∧ Hid (firE (fun i => fldsE S.n S.d (cS S.d (c0 S.d + 1) i)) i = none ∧ PM S w (cS S.d (c0 S.d + 1) i) QB { prs S.d with np := np, nc := i, nm := 0 } A wr)) (fun ix _ => nc - (intOf ix).toNat)
          case atStart => exact ⟨0, A, by omega, rfl, Lib.hid ⟨rfl, HP3.out⟩⟩
          case round =>
            obtain ⟨i, A, hi, rfl, HQ⟩ := hrel
            by_cases hin : i < nc
            · have gi : (i : Int) < nc := by omega
              go_wp2
              have HMd := Lib.hid HQ.out.2.drew
              obtain ⟨V, hV⟩ : ∃ V, V = Value.slice A.ca i A.cc := ⟨_, rfl⟩
              have HVE : Hid (∀ B : Pg, V = Value.slice A.ca i A.cc) := Lib.hid fun _ => hV
              have HOV : Hid (∀ k V', PM S w k QB { prs S.d with np := np, nc := i, nm := 0 } A V' → V'.ownsRow (w.heap.size + 1) 45 1 V i (els1 i fun i => .slice (A.fa i) ((prs S.d).nf i) (A.fc i))) := Lib.hid fun k V' h => by rw [hV]; exact h.own.k
              have HOY : Hid (∀ k V', PM S w k QB { prs S.d with np := np, nc := i, nm := 0 } A V' → V'.cell? ⟨QB, 1, none⟩ = some V ∧ V'.frozen? ⟨QB, 1, none⟩ = false) := Lib.hid fun k V' h => h.y 1 V (by rw [hV]; rfl)
              have HO5 : Hid (∀ k V1 V', P5 S w k QB 45 { prs S.d with np := np, nc := i, nm := 0 } A V1 V' → V'.cell? ⟨QB, 1, none⟩ = some V ∧ V'.frozen? ⟨QB, 1, none⟩ = false) := Lib.hid fun k V1 V' h => h.y 1 V (by rw [hV]; rfl)
              have HVE := Lib.hid hV
              clear hV
              have HC := Lib.hid (rdx_fields S HO (cS S.d (c0 S.d + 1) i) wr.drew (Lib.hid HMd.out.rd))
              obtain ⟨m, hm⟩ : ∃ m, S.d (cS S.d (c0 S.d + 1) i) = m := ⟨_, rfl⟩
              have HMm := Lib.hid hm
              rw [hm] at HC
              clear hm
              obtain ⟨q, _⟩ := HOY.out _ _ HMd.out
              obtain ⟨i0, ii, iz0, iz1, iz2⟩ := info_parts info45x
              go_region_law (first | (go_simp; go_at_call 108; refine HC.out.mono ?_; intro e w4 h; rcases h.two with ⟨p', er, hx, rfl, hb⟩ | ⟨hx, v, rfl, ⟨ga, gc, rfl, ho⟩, hr, hg⟩; exact And.intro rfl (.bad (by unfold prsE; rw [or_none HE1.out, or_none HE2.out, HNP.out, or_none HE3.out, or_none HE4.out, HNC.out, or_some (firE_at HQ.out.1 hx.out hin)]) hb); have HO4 := Lib.hid (own_mono ho (show w.heap.size + 1 ≤ wr.drew.heap.size by have := HMd.out.lt; omega)); clear ho; have HM4 := Lib.hid (HMd.out.call hr hg); obtain ⟨q4, _⟩ := HOY.out _ _ HM4.out; obtain ⟨q4a, _⟩ := HOY.out _ _ (HM4.out.alloc (.cells #[.slice ga m gc] 45)); clear hr hg h) | (refine step_append_lies _ (by rfl) (.tmp 36) (.tmp 39) 23 (by rfl) (w.heap.size + 1) 45 i0 _ 1 24 Try.underlying23 ii iz0 iz1 iz2 rfl (by decide) V i (els1 i fun i => .slice (A.fa i) ((prs S.d).nf i) (A.fc i)) (by rfl) (HOV.out _ _ (HM4.out.alloc (.cells #[.slice ga m gc] 45))) ⟨w4.heap.size, 0, none⟩ 1 1 [.slice ga m gc] (by rfl) (by rfl) (World.news_of_block (cs := #[.slice ga m gc]) (t := 45) (fr := (0, 0)) (heap_alloc_new w4 _)) (by simp [Value.oneCell']) (by omega) (by unfold maxLen; omega) (by omega) (by have := HM4.out.lt; simp; omega) (w4.heap.size + 1) (by simp) ?_; intro gg cap5 w5 hown5 hgrow _ _; have HM5 := Lib.hid (HM4.out.app HW.out (HOV.out _ _ HM4.out) hgrow (by decide) (by decide)); have HN5 := Lib.hid hown5; obtain ⟨q5, z5'⟩ := HO5.out _ _ _ HM5.out; clear hown5 hgrow))
              all_goals
                clear q q4 q4a
                go_wp2_with fail
                obtain ⟨A', hA'⟩ := class_step HM4.out HM5.out HW.out (a := ga) (c := gc) (n := m) HMm.out.symm HO4.out HN5.out
                exact ⟨⟨i + 1, A', by omega, by go_num, Lib.hid ⟨firE_succ HQ.out.1 hx.out, by have h9 : cS S.d (c0 S.d + 1) (i + 1) = cS S.d (c0 S.d + 1) i + 1 + m := (by rw [← HMm.out]; rfl); rw [h9]; exact hA'⟩⟩, by simp [intOf]; omega⟩
            · obtain rfl : nc = i := by omega
              have HE5 := Lib.hid HQ.out.1
              have HM0 : Hid (m0 S.d = cS S.d (c0 S.d + 1) nc) := Lib.hid (by unfold m0; rw [HNC.out])
              obtain ⟨f0, hf0⟩ : ∃ f, m0 S.d = f := ⟨_, rfl⟩
              have HP4 := Lib.hid (show PM S w f0 QB { prs S.d with np := np, nc := nc, nm := 0 } A wr by rw [← hf0, HM0.out]; exact HQ.out.2)
              have HF0 := Lib.hid hf0
              clear HQ HP3 hi hf0
              obtain ⟨_, r1, _⟩ := rd_cells HP4.out.rd
              go_wp2_with fail
              clear r1
              refine (rdx_count S HO 100 f0 _ (Lib.hid HP4.out.rd)).mono ?_
              intro e w1 h
              rcases h.two with ⟨p, er, hx, rfl, hb⟩ | ⟨HE6, v, rfl, hq, hr, hg⟩
              · exact And.intro rfl (.bad (by unfold prsE; rw [or_none HE1.out, or_none HE2.out, HNP.out, or_none HE3.out, or_none HE4.out, HNC.out, or_none HE5.out, HF0.out, or_some hx.out]) hb)
              obtain rfl : v = _ := hq
              have HP5 := Lib.hid (HP4.out.call hr hg)
              obtain ⟨nm, hnm0⟩ : ∃ n, S.d f0 = n := ⟨_, rfl⟩
              have hnm : nm ≤ 100 := by have h1 := (nxE_none HE6.out).2; unfold leB at h1; have h2 := of_decide_eq_true h1; omega
              have HNM : Hid (S.d f0 = nm) := Lib.hid hnm0
              rw [hnm0]
              clear hr hg h HP4 hnm0
              by_cases hnz : nm = 0
              · have d1 : ((nm : Int) == 0) = true := by rw [hnz]; rfl
                go_wp2_with (first | (go_at_call 109; refine (refuse_c f0 S.R 3 _).mono ?_; rintro e w' ⟨rfl, rfl⟩))
                exact And.intro rfl (.bad (by unfold prsE; rw [or_none HE1.out, or_none HE2.out, HNP.out, or_none HE3.out, or_none HE4.out, HNC.out, or_none HE5.out, HF0.out, or_none HE6.out]; exact or_some (if_pos (by rw [HNM.out]; exact hnz))) HP5.out.rd.b)
              have d1 : ((nm : Int) == 0) = false := by simpa using hnz
              have HE7 : Hid (noneE S.d f0 = none) := Lib.hid (if_neg (by rw [HNM.out]; exact hnz))
              have HP6 := Lib.hid (show PM S w (mS S.d (m0 S.d + 1) 0) QB { prs S.d with np := np, nc := nc, nm := 0 } A w1 by rw [HF0.out]; exact HP5.out)
              clear HP5
              have HA2 := Lib.hid (trivial : True)
              go_wp2_with fail
              clear d1
              go_loopw [55] (fun ix wr => ∃ (i : Nat) (A : Ad), i ≤ nm ∧ ix = .int .i64 i ∧ Hid (firE (fun i => methE S.n S.d (mS S.d (m0 S.d + 1) i)) i = none ∧ PM S w (mS S.d (m0 S.d + 1) i) QB { prs S.d with np := np, nc := nc, nm := i } A wr)) (fun ix _ => nm - (intOf ix).toNat)
              case atStart => exact ⟨0, A, by omega, rfl, Lib.hid ⟨rfl, HP6.out⟩⟩
              case round =>
                obtain ⟨i, A, hi, rfl, HQ⟩ := hrel
                by_cases hin : i < nm
                · have gi : (i : Int) < nm := by omega
                  go_wp2
                  have HMd := Lib.hid HQ.out.2.drew
                  obtain ⟨V, hV⟩ : ∃ V, V = Value.slice A.ma i A.mc := ⟨_, rfl⟩
                  have HVE : Hid (∀ B : Pg, V = Value.slice A.ma i A.mc) := Lib.hid fun _ => hV
                  have HOV : Hid (∀ k V', PM S w k QB { prs S.d with np := np, nc := nc, nm := i } A V' → V'.ownsRow (w.heap.size + 1) 50 5 V i (els5 i ((prs S.d).mcells A))) := Lib.hid fun k V' h => by rw [hV]; exact h.own.m
                  have HOY : Hid (∀ k V', PM S w k QB { prs S.d with np := np, nc := nc, nm := i } A V' → V'.cell? ⟨QB, 2, none⟩ = some V ∧ V'.frozen? ⟨QB, 2, none⟩ = false) := Lib.hid fun k V' h => h.y 2 V (by rw [hV]; rfl)
                  have HO5 : Hid (∀ k V1 V', P5 S w k QB 50 { prs S.d with np := np, nc := nc, nm := i } A V1 V' → V'.cell? ⟨QB, 2, none⟩ = some V ∧ V'.frozen? ⟨QB, 2, none⟩ = false) := Lib.hid fun k V1 V' h => h.y 2 V (by rw [hV]; rfl)
                  have HVE := Lib.hid hV
                  clear hV
                  have HC := Lib.hid ((rdx_method S HO (mS S.d (m0 S.d + 1) i) wr.drew (Lib.hid HMd.out.rd)).mono fun e V' h => h.imp methW)
                  obtain ⟨n0, hn0⟩ : ∃ n, (prs S.d).pn i = n := ⟨_, rfl⟩
                  obtain ⟨n1, hn1⟩ : ∃ n, (prs S.d).ln i = n := ⟨_, rfl⟩
                  obtain ⟨n2, hn2⟩ : ∃ n, (prs S.d).cn i = n := ⟨_, rfl⟩
                  obtain ⟨mr, hmr⟩ : ∃ n, (prs S.d).rt i = n := ⟨_, rfl⟩
                  obtain ⟨ms, hms⟩ : ∃ n, (prs S.d).sk i = n := ⟨_, rfl⟩
                  have HN0 := Lib.hid hn0
                  have HN1 := Lib.hid hn1
                  have HN2 := Lib.hid hn2
                  have HMR := Lib.hid hmr
                  have HMS := Lib.hid hms
                  rw [hn0, hn1, hn2, hmr, hms] at HC
                  clear hn0 hn1 hn2 hmr hms
                  obtain ⟨q, _⟩ := HOY.out _ _ HMd.out
                  obtain ⟨i0, ii, iz0, iz1, iz2⟩ := info_parts info50x
                  go_region_law (first | (go_simp; go_at_call 110; refine HC.out.mono ?_; intro e w4 h; rcases h.two with ⟨p', er, hx, rfl, hb⟩ | ⟨hx, v, rfl, ⟨ga0, gc0, ga1, gc1, ga2, gc2, he, ho0, ho1, ho2⟩, hr, hg⟩; exact And.intro rfl (.bad (by unfold prsE; rw [or_none HE1.out, or_none HE2.out, HNP.out, or_none HE3.out, or_none HE4.out, HNC.out, or_none HE5.out, or_none (show nxE S.n S.d 2 (leB 100) (m0 S.d) = none by rw [HF0.out]; exact HE6.out), or_none (show noneE S.d (m0 S.d) = none by rw [HF0.out]; exact HE7.out), show S.d (m0 S.d) = nm by rw [HF0.out]; exact HNM.out, or_some (firE_at HQ.out.1 hx.out hin)]) hb); obtain rfl := he; have hlq : w.heap.size + 1 ≤ wr.drew.heap.size := (by have := HMd.out.lt; omega); have HR0 := Lib.hid (own_mono ho0 hlq); have HR1 := Lib.hid (own_mono ho1 hlq); have HR2 := Lib.hid (own_mono ho2 hlq); clear ho0 ho1 ho2 hlq; have HM4 := Lib.hid (HMd.out.call hr hg); obtain ⟨q4, _⟩ := HOY.out _ _ HM4.out; obtain ⟨q4a, _⟩ := HOY.out _ _ (HM4.out.alloc (.cells #[.slice ga0 n0 gc0, .int .i64 mr, .slice ga1 n1 gc1, .int .i64 ms, .slice ga2 n2 gc2] 50)); clear hr hg h) | (refine step_append_lies _ (by rfl) (.tmp 58) (.tmp 61) 24 (by rfl) (w.heap.size + 1) 50 i0 _ 5 88 Try.underlying24 ii iz0 iz1 iz2 rfl (by decide) V i (els5 i ((prs S.d).mcells A)) (by rfl) (HOV.out _ _ (HM4.out.alloc (.cells #[.slice ga0 n0 gc0, .int .i64 mr, .slice ga1 n1 gc1, .int .i64 ms, .slice ga2 n2 gc2] 50))) ⟨w4.heap.size, 0, none⟩ 1 1 [.slice ga0 n0 gc0, .int .i64 mr, .slice ga1 n1 gc1, .int .i64 ms, .slice ga2 n2 gc2] (by rfl) (by rfl) (World.news_of_block (cs := #[.slice ga0 n0 gc0, .int .i64 mr, .slice ga1 n1 gc1, .int .i64 ms, .slice ga2 n2 gc2]) (t := 50) (fr := (0, 0)) (heap_alloc_new w4 _)) (by simp [Value.oneCell']) (by omega) (by unfold maxLen; omega) (by omega) (by have := HM4.out.lt; simp; omega) (w4.heap.size + 1) (by simp) ?_; intro gg cap5 w5 hown5 hgrow _ _; have HM5 := Lib.hid (HM4.out.app HW.out (HOV.out _ _ HM4.out) hgrow (by decide) (by decide)); have HN5 := Lib.hid hown5; obtain ⟨q5, z5'⟩ := HO5.out _ _ _ HM5.out; clear hown5 hgrow))
                  all_goals
                    clear q q4 q4a
                    go_wp2_with fail
                    obtain ⟨A', hA'⟩ := meth_step2 HM4.out HM5.out HW.out HN0.out HN1.out HN2.out HMR.out HMS.out HR0.out HR1.out HR2.out HN5.out
                    exact ⟨⟨i + 1, A', by omega, by go_num, Lib.hid ⟨firE_succ HQ.out.1 hx.out, by rw [mS_succ]; exact hA'⟩⟩, by simp [intOf]; omega⟩
                · obtain rfl : nm = i := by omega
                  have HE8 := Lib.hid HQ.out.1
                  have HP7 := Lib.hid HQ.out.2
                  clear HQ HP6 hi
                  obtain ⟨ed, hed⟩ : ∃ e, mS S.d (m0 S.d + 1) nm = e := ⟨_, rfl⟩
                  have HED := Lib.hid hed
                  rw [hed] at HP7
                  clear hed
                  have HE : Hid (prsE S.n S.d = (if ed < S.n then some (ed, 5) else none : Option (Nat × Int)).or (argE S.n S.d)) := Lib.hid (by unfold prsE; rw [or_none HE1.out, or_none HE2.out, HNP.out, or_none HE3.out, or_none HE4.out, HNC.out, or_none HE5.out, or_none (show nxE S.n S.d 2 (leB 100) (m0 S.d) = none by rw [HF0.out]; exact HE6.out), or_none (show noneE S.d (m0 S.d) = none by rw [HF0.out]; exact HE7.out), show S.d (m0 S.d) = nm by rw [HF0.out]; exact HNM.out, or_none HE8.out, HED.out])
                  obtain ⟨r0, r1, _⟩ := rd_cells HP7.out.rd
                  have hSn : S.n ≤ 140737488355328 := HO.out.n
                  by_cases hend : ed < S.n
                  · have d1 : decide ((ed : Int) < (S.n : Int)) = true := decide_eq_true (by omega)
                    go_wp2
                    go_quiet (fail)
                    go_wp2_with (first | (go_at_call 109; refine (refuse_c ed S.R 5 _).mono ?_; rintro e w' ⟨rfl, rfl⟩))
                    exact And.intro rfl (.bad (by rw [HE.out]; exact or_some (if_pos hend)) (HP7.out.rd.b.drewN _))
                  have d1 : decide ((ed : Int) < (S.n : Int)) = false := decide_eq_false (by omega)
                  have HEB : Hid (prsE S.n S.d = argE S.n S.d) := Lib.hid (by rw [HE.out]; exact or_none (if_neg hend))
                  obtain ⟨y2, _⟩ := HP7.out.y 2 _ rfl
                  have hnz' : 0 < nm := by omega
                  obtain ⟨g, hma, _, hg3, hc⟩ := (own_cell HP7.out.own.m).resolve_left (show ¬ nm = 0 from hnz)
                  have hgg := fun k hk => els5_get (Pg.mcells { prs S.d with np := np, nc := nc, nm := nm } A) (fun i => rfl) hnz' k hk
                  have m0' : wr.cell? ⟨g, 0, none⟩ = some (.slice (A.ppa 0) ((prs S.d).pn 0) (A.ppc 0)) := hc _ _ (hgg 0 (by decide))
                  have m1' : wr.cell? ⟨g, 1, none⟩ = some (.int .i64 ((prs S.d).rt 0)) := hc _ _ (hgg 1 (by decide))
                  have m2' : wr.cell? ⟨g, 2, none⟩ = some (.slice (A.lla 0) ((prs S.d).ln 0) (A.llc 0)) := hc _ _ (hgg 2 (by decide))
                  have m3' : wr.cell? ⟨g, 3, none⟩ = some (.int .i64 ((prs S.d).sk 0)) := hc _ _ (hgg 3 (by decide))
                  have m4' : wr.cell? ⟨g, 4, none⟩ = some (.slice (A.cda 0) ((prs S.d).cn 0) (A.cdc 0)) := hc _ _ (hgg 4 (by decide))
                  have y2b : wr.cell? ⟨QB, 2, none⟩ = some (.slice (some ⟨g, 0, none⟩) nm A.mc) := by rw [y2]; exact congrArg (fun a => some (Value.slice a nm A.mc)) hma
                  clear y2 hc hgg hma
                  obtain ⟨b, hb0⟩ : ∃ b, decide ((prs S.d).pn 0 = 0 ∧ (prs S.d).rt 0 = 0) = b := ⟨_, rfl⟩
                  have HBE := Lib.hid hb0
                  have HF41 : Hid (∀ W, Calls Try.prog 41 #[.agg #[.slice (A.ppa 0) ((prs S.d).pn 0) (A.ppc 0), .int .i64 ((prs S.d).rt 0), .slice (A.lla 0) ((prs S.d).ln 0) (A.llc 0), .int .i64 ((prs S.d).sk 0), .slice (A.cda 0) ((prs S.d).cn 0) (A.cdc 0)]] W fun e w' => e = .returned (.bool b) ∧ Below W.heap.size W w') := Lib.hid fun W => first_c _ _ _ _ _ _ _ _ _ _ _ b W hb0
                  have HAE : Hid (argE S.n S.d = if b = true then none else some (S.n, 1)) := Lib.hid (by rw [← hb0]; exact argE_eq S.n S.d)
                  clear hb0
                  obtain ⟨n0, hn0⟩ : ∃ n, (prs S.d).pn 0 = n := ⟨_, rfl⟩
                  obtain ⟨n1, hn1⟩ : ∃ n, (prs S.d).ln 0 = n := ⟨_, rfl⟩
                  obtain ⟨n2, hn2⟩ : ∃ n, (prs S.d).cn 0 = n := ⟨_, rfl⟩
                  obtain ⟨mr, hmr⟩ : ∃ n, (prs S.d).rt 0 = n := ⟨_, rfl⟩
                  obtain ⟨ms, hms⟩ : ∃ n, (prs S.d).sk 0 = n := ⟨_, rfl⟩
                  rw [hn0] at m0'; rw [hn1] at m2'; rw [hn2] at m4'; rw [hmr] at m1'; rw [hms] at m3'
                  rw [hn0, hn1, hn2, hmr, hms] at HF41
                  clear hn0 hn1 hn2 hmr hms
                  go_wp2
                  go_quiet (fail)
                  clear r0 r1
                  go_wp2_with fail
                  refine (HF41.out _).mono ?_
                  rintro e w5 ⟨rfl, hb5⟩
                  have HP8 := Lib.hid ((HP7.out.drewN nq).below hb5)
                  clear hb5 m0' m1' m2' m3' m4' y2b
                  cases b with
                  | false =>
                    obtain ⟨r0, _, _⟩ := rd_cells HP8.out.rd
                    go_wp2_with (first | (go_at_call 109; refine (refuse_c S.n S.R 1 _).mono ?_; rintro e w' ⟨rfl, rfl⟩))
                    exact And.intro rfl (.bad (HEB.out.trans (HAE.out.trans (if_neg (by decide)))) HP8.out.rd.b)
                  | true =>
                    have HF : Hid (PF S w ed (prs S.d) A z3 w5) := Lib.hid ⟨HP8.out.rd, HP8.out.res, (by
                      have h9 := HP8.out.own
                      rw [← HNP.out, ← HNC.out, ← HNM.out, ← HF0.out] at h9
                      exact h9), HP8.out.gr⟩
                    obtain ⟨y0, _⟩ := HP8.out.y 0 _ rfl
                    obtain ⟨y1, _⟩ := HP8.out.y 1 _ rfl
                    obtain ⟨y2, _⟩ := HP8.out.y 2 _ rfl
                    obtain ⟨u0, t0⟩ := HF.out.y 0 _ rfl
                    obtain ⟨u1, t1⟩ := HF.out.y 1 _ rfl
                    obtain ⟨u2, t2⟩ := HF.out.y 2 _ rfl
                    have y0' : w5.cell? ⟨QB, 0, none⟩ = some (.slice A.pa np A.pc) := y0
                    have y1' : w5.cell? ⟨QB, 1, none⟩ = some (.slice A.ca nc A.cc) := y1
                    have y2' : w5.cell? ⟨QB, 2, none⟩ = some (.slice A.ma nm A.mc) := y2
                    clear y0 y1 y2
                    go_wp2
                    clear y0' y1' y2' u0 u1 u2 t0 t1 t2
                    replace HF := Lib.hid (HF.out.set HW.out 0 (.slice A.pa np A.pc) rfl)
                    generalize w5.setCell ⟨w.heap.size, 0, none⟩ (.slice A.pa np A.pc) = e0 at HF ⊢
                    replace HF := Lib.hid (HF.out.set HW.out 1 (.slice A.ca nc A.cc) rfl)
                    generalize e0.setCell ⟨w.heap.size, 1, none⟩ (.slice A.ca nc A.cc) = e1 at HF ⊢
                    replace HF := Lib.hid (HF.out.set HW.out 2 (.slice A.ma nm A.mc) rfl)
                    generalize e1.setCell ⟨w.heap.size, 2, none⟩ (.slice A.ma nm A.mc) = e2 at HF ⊢
                    have x0 : e2.cell? ⟨w.heap.size, 0, none⟩ = some (.slice A.pa np A.pc) := (HF.out.y 0 _ rfl).1
                    have x1 : e2.cell? ⟨w.heap.size, 1, none⟩ = some (.slice A.ca nc A.cc) := (HF.out.y 1 _ rfl).1
                    have x2 : e2.cell? ⟨w.heap.size, 2, none⟩ = some (.slice A.ma nm A.mc) := (HF.out.y 2 _ rfl).1
                    exact bodyPost_ret (v := .agg #[.slice A.pa np A.pc, .slice A.ca nc A.cc, .slice A.ma nm A.mc]) (by simp [results, Try.results82, go_sem, x0, x1, x2]) rfl (NxR.ok (HEB.out.trans (HAE.out.trans (by simp))) ⟨A, by rw [← HNP.out, ← HNC.out, ← HNM.out, ← HF0.out]; rfl, HF.out.own.mono (by omega)⟩ (HF.out.rd.at (by rw [← HED.out, ← HNM.out, ← HF0.out])) HF.out.gr)
end Go.Proofs.Ytpiafgmncfibmaa
