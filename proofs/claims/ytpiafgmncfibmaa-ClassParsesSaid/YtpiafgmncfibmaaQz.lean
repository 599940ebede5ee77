import Derived.Laws.BitsLemmas
import Derived.IntWalk
import Derived.Laws.BitsAllLaws
import Derived.Deep.DrawnRows
import Derived.Deep.RegionLaw
import Derived.Test.YtpiafgmncfibmaaQx
import Derived.Test.YtpiafgmncfibmaaQc
import Derived.Test.YtpiafgmncfibmaaRows
import Derived.WalkKit
import Derived.ProofKit
import Derived.OpenShut
import Derived.Deep.QuietTactic
import Derived.BigQuiet
import Derived.Outline
import Derived.WalkSmall
import Derived.WalkLawsBesides
import Derived.WalkSpells
import Derived.BigGuardPart
import Derived.RegionTactic
import Derived.Deep.RegionHeld3
import Derived.Lib.Hide
import Derived.Deep.MidRow
import Derived.Below
import Derived.Deep.RegionWith
import Derived.Deep.OwnRows
import Derived.Deep.AppendLies
import Derived.Deep.RegionLaw
namespace Go.Proofs.Ytpiafgmncfibmaa
open Go.ChangeShapes Go.WideShapes Go.ChangeAt Go.RowKit
set_option linter.unusedVariables false

theorem bw_below {S : Src} {V : World} (h : Bw S V) (hR : S.W.heap.size ≤ S.R) : Below S.W.heap.size S.W V := ⟨h.os, h.tape, h.output, World.grownBy.size h, fun i hi => h.block i hi (fun e => by injection e with e; omega)⟩
/-- In the state of an error: the reader, and the result's box. -/
def HBt (S : Src) (w : World) (p : Nat) (er : Int) (V : World) : Prop := R2 S (some (p, er)) 0 V ∧ BoxT V w.heap.size z3 26
theorem HBt.call {S : Src} {w V V' : World} {p : Nat} {er : Int} (h : HBt S w p er V) (hr : R2 S (some (p, er)) 0 V') (hg : V.grownBy V' (some S.R)) : HBt S w p er V' := ⟨hr, h.2.keep (r2_keep h.1 hg 26 (by decide))⟩
theorem PM2.bad {S : Src} {w V V' : World} {x : Option (Nat × Int)} {k QB p : Nat} {er : Int} {P : Pg} {A : Ad} (h : PM2 S w x k QB P A V) (hr : R2 S (some (p, er)) 0 V') (hg : V.grownBy V' (some S.R)) : HBt S w p er V' := ⟨hr, h.res.keep (r2_keep h.rd hg 26 (by decide))⟩
theorem P52.bd {S : Src} {w V V' : World} {p QB e : Nat} {er : Int} {P : Pg} {A : Ad} (h : P52 S w (some (p, er)) 0 QB e P A V V') (hp : PM2 S w (some (p, er)) 0 QB P A V) (hx : prsE S.n S.d = some (p, er)) (hl : S.W.heap.size ≤ w.heap.size) (j : Nat) (v : Value) : BD S w (V'.setCell ⟨QB, j, none⟩ v) := ⟨⟨p, er, hx, h.rd.set h.box (by decide) (by have := hp.qb; omega) v⟩, h.res.far (by have := hp.qb; omega) j v⟩
theorem or_stepU {A x m : Nat} (hA : A < 2 ^ (8 * m)) (hx : x < 256) (hm : m < 8) : bits .or .u64 (A : Int) (IntKind.u64.wrap ((x : Int) * 2 ^ (8 * m))) = ((A + x * 2 ^ (8 * m) : Nat) : Int) := by
  have e : A ||| x * 2 ^ (8 * m) = A + x * 2 ^ (8 * m) := by
    have := Nat.two_pow_add_eq_or_of_lt hA x
    rw [Nat.or_comm, Nat.mul_comm x, ← this, Nat.add_comm]
  have hb : A + x * 2 ^ (8 * m) < 2 ^ 64 := by
    have h2 : 2 ^ (8 * (m + 1)) ≤ 2 ^ 64 := Nat.pow_le_pow_right (by decide) (by omega)
    have e2 : 2 ^ (8 * (m + 1)) = 256 * 2 ^ (8 * m) := by rw [show 8 * (m + 1) = 8 + 8 * m by omega, Nat.pow_add]
    have h3 : x * 2 ^ (8 * m) ≤ 255 * 2 ^ (8 * m) := Nat.mul_le_mul_right _ (by omega)
    omega
  have e1 : IntKind.u64.wrap ((x : Int) * 2 ^ (8 * m)) = ((x * 2 ^ (8 * m) : Nat) : Int) := by
    rw [show (x : Int) * 2 ^ (8 * m) = ((x * 2 ^ (8 * m) : Nat) : Int) by rw [Int.natCast_mul, Int.natCast_pow]; rfl, IntKind.wrap_u64]
    omega
  rw [e1]
  show IntKind.u64.wrap ((BitVec.ofInt 64 (A : Int) ||| BitVec.ofInt 64 ((x * 2 ^ (8 * m) : Nat) : Int)).toNat : Int) = _
  rw [BitVec.toNat_or, BitVec.ofInt_natCast, BitVec.ofInt_natCast, BitVec.toNat_ofNat, BitVec.toNat_ofNat, Nat.mod_eq_of_lt (by omega), Nat.mod_eq_of_lt (by omega), e, IntKind.wrap_u64]
  omega
theorem PM2.below {S : Src} {w V V' : World} {x : Option (Nat × Int)} {k QB : Nat} {P : Pg} {A : Ad} (h : PM2 S w x k QB P A V) (hb : Below V.heap.size V V') : PM2 S w x k QB P A V' :=
  ⟨h.rd.keep (h.rd.b.below hb) (.below hb), h.res.keep (.below hb), h.box.keep (.below hb), h.own.keepE fun e _ => .below hb, h.qb, grown_trans h.gr (grown_of_below hb (some S.R)) (.inl rfl)⟩
theorem meth_step3 {S : Src} {x : Option (Nat × Int)} {w V V' : World} {k QB np nc i g cap : Nat} {P : Pg} {A : Ad} (hp : PM2 S w x k QB { P with np := np, nc := nc, nm := i } A V) (h : P52 S w x k QB 50 { P with np := np, nc := nc, nm := i } A V V') (hl : S.W.heap.size ≤ w.heap.size) {a0 a1 a2 : Option Addr} {c0 c1 c2 n0 n1 n2 : Nat} {r s : Int}
    (e0 : P.pn i = n0) (e1 : P.ln i = n1) (e2 : P.cn i = n2) (e3 : P.rt i = r) (e4 : P.sk i = s)
    (r0 : V.ownsRow (w.heap.size + 1) 3 1 (.slice a0 n0 c0) n0 (els1 n0 fun j => .int .i64 (P.pt i j))) (r1 : V.ownsRow (w.heap.size + 1) 3 1 (.slice a1 n1 c1) n1 (els1 n1 fun j => .int .i64 (P.lt i j))) (r2 : V.ownsRow (w.heap.size + 1) 5 1 (.slice a2 n2 c2) n2 (els1 n2 fun j => .int .u8 (P.cd i j : Nat)))
    (hown : V'.ownsRow (w.heap.size + 1) 50 5 (.slice (some ⟨g, 0, none⟩) (i + 1) cap) (i + 1) (els5 i (P.mcells A) ++ [.slice a0 n0 c0, .int .i64 r, .slice a1 n1 c1, .int .i64 s, .slice a2 n2 c2])) :
    ∃ A', PM2 S w x k QB { P with np := np, nc := nc, nm := i + 1 } A' (V'.setCell ⟨QB, 2, none⟩ (.slice (some ⟨g, 0, none⟩) (i + 1) cap)) := by
  subst e0 e1 e2 e3 e4
  exact meth_step2' hp h hl r0 r1 r2 hown
theorem HBt.bd {S : Src} {w V : World} {p : Nat} {er : Int} (h : HBt S w p er V) (hx : prsE S.n S.d = some (p, er)) : BD S w V := ⟨⟨p, er, hx, h.1⟩, h.2⟩
set_option maxRecDepth 100000 in
set_option maxHeartbeats 20000000 in
theorem parsey_s (S : Src) (HO : Hid (SrcOk S)) (hR : S.R = S.W.heap.size + 1) : Calls Try.prog 19 #[.slice S.a S.n S.c] S.W (ParseX S.W S.n S.d) := by
  have hSn : S.n ≤ 140737488355328 := HO.out.n
  have HRW : Hid (S.W.heap.size ≤ S.R) := Lib.hid (by omega)
  obtain ⟨w, hw⟩ : ∃ w, S.W = w := ⟨_, rfl⟩
  have HWE := Lib.hid hw
  have HW : Hid (S.W.heap.size ≤ w.heap.size) := Lib.hid (by rw [hw]; exact Nat.le_refl _)
  rw [hw] at hR ⊢
  obtain ⟨V0, hV0, hpm, hmg, hlt⟩ := parsey_start S.a S.n S.c S.d w
  have HPM : Hid (PM2 S w none 0 (w.heap.size + 2) { prs S.d with np := 0, nc := 0, nm := 0 } noAd V0) := Lib.hid (by
    have e : (⟨w, w.heap.size + 1, S.n, S.c, S.a, S.d⟩ : Src) = S := by rw [← hR, ← hw]
    rw [e] at hpm
    exact hpm)
  have HMG := Lib.hid hmg
  have HV0 := Lib.hid hV0
  have hRw : ¬ S.R = w.heap.size := by omega
  have hRw2 : ¬ w.heap.size = S.R := by omega
  have HR3 : Hid (S.R ≠ w.heap.size + 3) := Lib.hid (by omega)
  have HRE := Lib.hid hR
  have kc := magicC2 w (.slice S.a S.n S.c)
  clear hpm hmg hV0 hw
  clear hR
  go_enter Try.func19, Try.ntmps19
  go_wp2_with fail
  rw [show (((w.alloc (.cells #[.slice none 0 0, .slice none 0 0, .slice none 0 0] 26)).alloc (.cells #[.slice S.a S.n S.c, .int .i64 0, .int .i64 0, .int .i64 0] 98)).alloc (.cells #[.slice none 0 0, .slice none 0 0, .slice none 0 0] 26)).alloc (.cells #[.int .u8 66, .int .u8 90, .int .u8 82, .int .u8 49] 5 (4, 5)) = V0 from HV0.out.symm, ← HRE.out]
  rw [show w.heap.size + 2 = S.R + 1 by rw [HRE.out]] at HPM
  obtain ⟨QB, hQB⟩ : ∃ b, S.R + 1 = b := ⟨_, rfl⟩
  have HQB := Lib.hid hQB
  rw [hQB] at HPM ⊢
  clear kc hQB
  go_loopw [8] (fun ix wr => ∃ j : Nat, j ≤ 4 ∧ ix = .int .i64 j ∧ Hid ((firE (fun i => nxE S.n S.d 5 (eqB (magN i)) i) j = none ∧ PM2 S w none j QB { prs S.d with np := 0, nc := 0, nm := 0 } noAd wr ∧ MgAt w wr ∧ w.heap.size + 3 < wr.heap.size) ∨ BD S w wr)) (fun ix _ => 4 - (intOf ix).toNat)
  case atStart => exact ⟨0, by omega, rfl, Lib.hid (Or.inl ⟨rfl, HPM.out, HMG.out, hlt⟩)⟩
  case round =>
    clear HPM HMG hlt
    obtain ⟨j, hj, rfl, HQ⟩ := hrel
    rcases HQ.out with hok | hbd
    rotate_left
    · have HBD := Lib.hid hbd
      clear hbd HQ
      obtain ⟨⟨pz, er, hpe, hr9⟩, hres9⟩ := HBD.out
      have HT := Lib.hid hpe
      have HB : Hid (HBt S w pz er wr) := Lib.hid ⟨hr9, hres9⟩
      clear hpe hr9 hres9
      obtain ⟨r2, d2, d3, _⟩ := r2_n HB.out.1
      by_cases hj4 : j < 4
      · have gj : (j : Int) < 4 := by omega
        go_wp2_with fail
        clear r2 d2 d3
        refine (cntx_c S HO 200 (by decide) (by decide) (some (pz, er)) 0 _ (Lib.hid HB.out.1)).mono ?_
        intro e B1 h
        obtain ⟨rfl, hr, hg⟩ := cnt_bad0 h
        replace HB := Lib.hid (HB.out.call hr hg)
        clear hr hg h
        obtain ⟨r2, d2, d3, _⟩ := r2_n HB.out.1
        go_wp2_with fail
        refine wp_loop_rounds 1 ?_
        rw [rounds_succ]
        go_wp2_with fail
        clear r2 d2 d3
        refine (cntx_c S HO 50 (by decide) (by decide) (some (pz, er)) 0 _ (Lib.hid HB.out.1)).mono ?_
        intro e B2 h
        obtain ⟨rfl, hr, hg⟩ := cnt_bad0 h
        replace HB := Lib.hid (HB.out.call hr hg)
        clear hr hg h
        obtain ⟨r2, d2, d3, _⟩ := r2_n HB.out.1
        go_wp2_with fail
        refine wp_loop_rounds 1 ?_
        rw [rounds_succ]
        go_wp2_with fail
        clear r2 d2 d3
        refine (cntx_c S HO 100 (by decide) (by decide) (some (pz, er)) 0 _ (Lib.hid HB.out.1)).mono ?_
        intro e B3 h
        obtain ⟨rfl, hr, hg⟩ := cnt_bad0 h
        replace HB := Lib.hid (HB.out.call hr hg)
        clear hr hg h
        obtain ⟨r2, d2, d3, _⟩ := r2_n HB.out.1
        go_wp2_with fail
        refine wp_loop_rounds 1 ?_
        rw [rounds_succ]
        clear r2 d2 d3
        obtain ⟨r2, d2, d3, r3⟩ := r2_n HB.out.1
        have HPQ : Hid (PQ w (prs S.d) noAd False z3 B3) := Lib.hid ⟨HB.out.2, (by have h9 := bw_below HB.out.1.b HRW.out; rw [HWE.out] at h9; exact h9), fun h => h.elim⟩
        obtain ⟨x0, z0⟩ := HPQ.out.y 0 _ rfl
        obtain ⟨x1, z1⟩ := HPQ.out.y 1 _ rfl
        obtain ⟨x2, z2⟩ := HPQ.out.y 2 _ rfl
        go_wp2
        go_region
        all_goals
          clear x0 x1 x2 z0 z1 z2 r2 r3 d2 d3
          go_wp2
          replace HPQ := Lib.hid (HPQ.out.set 0 (.slice none 0 0) rfl)
          generalize B3.setCell ⟨w.heap.size, 0, none⟩ (.slice none 0 0) = gw0 at HPQ ⊢
          replace HPQ := Lib.hid (HPQ.out.set 1 (.slice none 0 0) rfl)
          generalize gw0.setCell ⟨w.heap.size, 1, none⟩ (.slice none 0 0) = gw1 at HPQ ⊢
          replace HPQ := Lib.hid (HPQ.out.set 2 (.slice none 0 0) rfl)
          generalize gw1.setCell ⟨w.heap.size, 2, none⟩ (.slice none 0 0) = gw2 at HPQ ⊢
          replace HPQ := Lib.hid HPQ.out.drew
          generalize gw2.drew = gw3 at HPQ ⊢
          have fa0 : gw3.cell? ⟨w.heap.size, 0, none⟩ = some (.slice none 0 0) := (HPQ.out.y 0 _ rfl).1
          have fa1 : gw3.cell? ⟨w.heap.size, 1, none⟩ = some (.slice none 0 0) := (HPQ.out.y 1 _ rfl).1
          have fa2 : gw3.cell? ⟨w.heap.size, 2, none⟩ = some (.slice none 0 0) := (HPQ.out.y 2 _ rfl).1
          have HFin : Hid (ParseX w S.n S.d (.returned (.tuple #[.agg #[.slice none 0 0, .slice none 0 0, .slice none 0 0], .int .i64 pz, .int .i64 er])) gw3) := Lib.hid (ParseX.bad HT.out HPQ.out.b)
          exact bodyPost_ret (v := .tuple #[.agg #[.slice none 0 0, .slice none 0 0, .slice none 0 0], .int .i64 pz, .int .i64 er]) (by simp [results, Try.results19, go_sem, fa0, fa1, fa2]) rfl HFin.out
      · obtain rfl : j = 4 := by omega
        go_wp2_with fail
        clear r2 d2 d3
        refine (cntx_c S HO 200 (by decide) (by decide) (some (pz, er)) 0 _ (Lib.hid HB.out.1)).mono ?_
        intro e B4 h
        obtain ⟨rfl, hr, hg⟩ := cnt_bad0 h
        replace HB := Lib.hid (HB.out.call hr hg)
        clear hr hg h
        obtain ⟨r2, d2, d3, _⟩ := r2_n HB.out.1
        go_wp2_with fail
        refine wp_loop_rounds 1 ?_
        rw [rounds_succ]
        go_wp2_with fail
        clear r2 d2 d3
        refine (cntx_c S HO 50 (by decide) (by decide) (some (pz, er)) 0 _ (Lib.hid HB.out.1)).mono ?_
        intro e B5 h
        obtain ⟨rfl, hr, hg⟩ := cnt_bad0 h
        replace HB := Lib.hid (HB.out.call hr hg)
        clear hr hg h
        obtain ⟨r2, d2, d3, _⟩ := r2_n HB.out.1
        go_wp2_with fail
        refine wp_loop_rounds 1 ?_
        rw [rounds_succ]
        go_wp2_with fail
        clear r2 d2 d3
        refine (cntx_c S HO 100 (by decide) (by decide) (some (pz, er)) 0 _ (Lib.hid HB.out.1)).mono ?_
        intro e B6 h
        obtain ⟨rfl, hr, hg⟩ := cnt_bad0 h
        replace HB := Lib.hid (HB.out.call hr hg)
        clear hr hg h
        obtain ⟨r2, d2, d3, _⟩ := r2_n HB.out.1
        go_wp2_with fail
        refine wp_loop_rounds 1 ?_
        rw [rounds_succ]
        clear r2 d2 d3
        obtain ⟨r2, d2, d3, r3⟩ := r2_n HB.out.1
        have HPQ : Hid (PQ w (prs S.d) noAd False z3 B6) := Lib.hid ⟨HB.out.2, (by have h9 := bw_below HB.out.1.b HRW.out; rw [HWE.out] at h9; exact h9), fun h => h.elim⟩
        obtain ⟨x0, z0⟩ := HPQ.out.y 0 _ rfl
        obtain ⟨x1, z1⟩ := HPQ.out.y 1 _ rfl
        obtain ⟨x2, z2⟩ := HPQ.out.y 2 _ rfl
        go_wp2
        go_region
        all_goals
          clear x0 x1 x2 z0 z1 z2 r2 r3 d2 d3
          go_wp2
          replace HPQ := Lib.hid (HPQ.out.set 0 (.slice none 0 0) rfl)
          generalize B6.setCell ⟨w.heap.size, 0, none⟩ (.slice none 0 0) = gw0 at HPQ ⊢
          replace HPQ := Lib.hid (HPQ.out.set 1 (.slice none 0 0) rfl)
          generalize gw0.setCell ⟨w.heap.size, 1, none⟩ (.slice none 0 0) = gw1 at HPQ ⊢
          replace HPQ := Lib.hid (HPQ.out.set 2 (.slice none 0 0) rfl)
          generalize gw1.setCell ⟨w.heap.size, 2, none⟩ (.slice none 0 0) = gw2 at HPQ ⊢
          replace HPQ := Lib.hid HPQ.out.drew
          generalize gw2.drew = gw3 at HPQ ⊢
          have fa0 : gw3.cell? ⟨w.heap.size, 0, none⟩ = some (.slice none 0 0) := (HPQ.out.y 0 _ rfl).1
          have fa1 : gw3.cell? ⟨w.heap.size, 1, none⟩ = some (.slice none 0 0) := (HPQ.out.y 1 _ rfl).1
          have fa2 : gw3.cell? ⟨w.heap.size, 2, none⟩ = some (.slice none 0 0) := (HPQ.out.y 2 _ rfl).1
          have HFin : Hid (ParseX w S.n S.d (.returned (.tuple #[.agg #[.slice none 0 0, .slice none 0 0, .slice none 0 0], .int .i64 pz, .int .i64 er])) gw3) := Lib.hid (ParseX.bad HT.out HPQ.out.b)
          exact bodyPost_ret (v := .tuple #[.agg #[.slice none 0 0, .slice none 0 0, .slice none 0 0], .int .i64 pz, .int .i64 er]) (by simp [results, Try.results19, go_sem, fa0, fa1, fa2]) rfl HFin.out
    obtain ⟨h1, h2, h3, h4⟩ := hok
    have H1 := Lib.hid h1
    have H2 := Lib.hid h2
    have H3 := Lib.hid h3
    clear h1 h2 h3 HQ
    obtain ⟨_, _, r2, _, _, _, _⟩ := r2_y H2.out.rd
    by_cases hjm : j < 4
    · have gj : (j : Int) < 4 := by omega
      have q0 := H3.out j _ (mag_at j hjm)
      have hml := magN_lt j
      obtain ⟨m, hm⟩ : ∃ m, magN j = m := ⟨_, rfl⟩
      have HMm := Lib.hid hm
      rw [hm] at hml
      clear hm q0
      go_wp2_with fail
      clear r2
      refine (onex_c S HO none j _ (Lib.hid H2.out.rd)).mono ?_
      intro e w1 h
      rcases one_ok h with ⟨g1, hd, rfl, hr, hg⟩ | ⟨pz, er, hx, rfl, hr, hg⟩
      rotate_left
      · have HB := Lib.hid (H2.out.bad hr hg)
        have HT : Hid (prsE S.n S.d = some (pz, er)) := Lib.hid (or_some (firE_at H1.out (nx_any_some hx.out 5 (eqB (magN j))) hjm))
        clear hr hg h
        obtain ⟨r2, d2, d3, _⟩ := r2_n HB.out.1
        go_wp2_with fail
        exact ⟨⟨j + 1, by omega, by go_num, Lib.hid (Or.inr (HB.out.bd HT.out))⟩, by simp [intOf]; omega⟩
      have HP1 := Lib.hid (H2.out.call hr hg)
      have HG1 := Lib.hid (H3.out.call h4 HR3.out hg)
      have hlt1 : w.heap.size + 3 < w1.heap.size := Nat.lt_of_lt_of_le h4 hg.size
      have q0 := HG1.out j _ (mag_at j hjm)
      rw [HMm.out] at q0
      obtain ⟨x, hx0⟩ : ∃ x, S.d j = x := ⟨_, rfl⟩
      have HX := Lib.hid hx0
      rw [hx0] at hd ⊢
      clear hr hg h hx0
      obtain ⟨_, _, r2, _, _, _, _⟩ := r2_y HP1.out.rd
      by_cases hxm : x = m
      · have d1 : ((x : Int) != (m : Int)) = false := by subst hxm; simp
        go_wp2_with fail
        exact ⟨⟨j + 1, by omega, by go_num, Lib.hid (Or.inl ⟨firE_succ H1.out (nxE_ok (nxE_none g1.out).1 (by unfold eqB; rw [HX.out, HMm.out, hxm]; simp)), HP1.out, HG1.out, hlt1⟩)⟩, by simp [intOf]; omega⟩
      · have d1 : ((x : Int) != (m : Int)) = true := by simp; omega
        go_wp2_with fail
        clear d1 q0 r2
        refine (failx_c S (j + 1) j 5 (by decide) _ (Lib.hid HP1.out.rd) 0).mono ?_
        rintro e w2 ⟨rfl, hr, hg⟩
        have HB := Lib.hid (HP1.out.bad hr hg)
        have HT : Hid (prsE S.n S.d = some (j, 5)) := Lib.hid (or_some (firE_at H1.out (nxE_bad (nxE_none g1.out).1 (by unfold eqB; rw [HX.out, HMm.out]; simp; omega)) hjm))
        clear hr hg
        go_wp2_with fail
        exact ⟨⟨j + 1, by omega, by go_num, Lib.hid (Or.inr (HB.out.bd HT.out))⟩, by simp [intOf]; omega⟩
    obtain rfl : j = 4 := by omega
    have HE1 := H1
    have HPM := H2
    clear H1 H2 H3 h4 hjm hj
    go_wp2_with fail
    clear r2
    refine (cntx_c S HO 200 (by decide) (by decide) none 4 _ (Lib.hid HPM.out.rd)).mono ?_
    intro e w1 h
    rcases cnt_ok0 h with ⟨HE2, hd, rfl, hr, hg⟩ | ⟨pz, er, hx, rfl, hr, hg⟩
    rotate_left
    · have HB := Lib.hid (HPM.out.bad hr hg)
      have HT : Hid (prsE S.n S.d = some (pz, er)) := Lib.hid (by unfold prsE; rw [or_none HE1.out, or_some hx.out])
      clear hr hg h HPM hx
      obtain ⟨r2, d2, d3, _⟩ := r2_n HB.out.1
      go_wp2_with fail
      refine wp_loop_rounds 1 ?_
      rw [rounds_succ]
      go_wp2_with fail
      clear r2 d2 d3
      refine (cntx_c S HO 50 (by decide) (by decide) (some (pz, er)) 0 _ (Lib.hid HB.out.1)).mono ?_
      intro e B7 h
      obtain ⟨rfl, hr, hg⟩ := cnt_bad0 h
      replace HB := Lib.hid (HB.out.call hr hg)
      clear hr hg h
      obtain ⟨r2, d2, d3, _⟩ := r2_n HB.out.1
      go_wp2_with fail
      refine wp_loop_rounds 1 ?_
      rw [rounds_succ]
      go_wp2_with fail
      clear r2 d2 d3
      refine (cntx_c S HO 100 (by decide) (by decide) (some (pz, er)) 0 _ (Lib.hid HB.out.1)).mono ?_
      intro e B8 h
      obtain ⟨rfl, hr, hg⟩ := cnt_bad0 h
      replace HB := Lib.hid (HB.out.call hr hg)
      clear hr hg h
      obtain ⟨r2, d2, d3, _⟩ := r2_n HB.out.1
      go_wp2_with fail
      refine wp_loop_rounds 1 ?_
      rw [rounds_succ]
      clear r2 d2 d3
      obtain ⟨r2, d2, d3, r3⟩ := r2_n HB.out.1
      have HPQ : Hid (PQ w (prs S.d) noAd False z3 B8) := Lib.hid ⟨HB.out.2, (by have h9 := bw_below HB.out.1.b HRW.out; rw [HWE.out] at h9; exact h9), fun h => h.elim⟩
      obtain ⟨x0, z0⟩ := HPQ.out.y 0 _ rfl
      obtain ⟨x1, z1⟩ := HPQ.out.y 1 _ rfl
      obtain ⟨x2, z2⟩ := HPQ.out.y 2 _ rfl
      go_wp2
      go_region
      all_goals
        clear x0 x1 x2 z0 z1 z2 r2 r3 d2 d3
        go_wp2
        replace HPQ := Lib.hid (HPQ.out.set 0 (.slice none 0 0) rfl)
        generalize B8.setCell ⟨w.heap.size, 0, none⟩ (.slice none 0 0) = gw0 at HPQ ⊢
        replace HPQ := Lib.hid (HPQ.out.set 1 (.slice none 0 0) rfl)
        generalize gw0.setCell ⟨w.heap.size, 1, none⟩ (.slice none 0 0) = gw1 at HPQ ⊢
        replace HPQ := Lib.hid (HPQ.out.set 2 (.slice none 0 0) rfl)
        generalize gw1.setCell ⟨w.heap.size, 2, none⟩ (.slice none 0 0) = gw2 at HPQ ⊢
        replace HPQ := Lib.hid HPQ.out.drew
        generalize gw2.drew = gw3 at HPQ ⊢
        have fa0 : gw3.cell? ⟨w.heap.size, 0, none⟩ = some (.slice none 0 0) := (HPQ.out.y 0 _ rfl).1
        have fa1 : gw3.cell? ⟨w.heap.size, 1, none⟩ = some (.slice none 0 0) := (HPQ.out.y 1 _ rfl).1
        have fa2 : gw3.cell? ⟨w.heap.size, 2, none⟩ = some (.slice none 0 0) := (HPQ.out.y 2 _ rfl).1
        have HFin : Hid (ParseX w S.n S.d (.returned (.tuple #[.agg #[.slice none 0 0, .slice none 0 0, .slice none 0 0], .int .i64 pz, .int .i64 er])) gw3) := Lib.hid (ParseX.bad HT.out HPQ.out.b)
        exact bodyPost_ret (v := .tuple #[.agg #[.slice none 0 0, .slice none 0 0, .slice none 0 0], .int .i64 pz, .int .i64 er]) (by simp [results, Try.results19, go_sem, fa0, fa1, fa2]) rfl HFin.out
    have HP1 := Lib.hid (HPM.out.call hr hg)
    clear hr hg h HPM

    have hnp : S.d 4 ≤ 200 := by have h1 := (nxE_none HE2.out).2; unfold leB at h1; have h2 := of_decide_eq_true h1; omega
    obtain ⟨np, hnp0⟩ : ∃ n, S.d 4 = n := ⟨_, rfl⟩
    have HNP := Lib.hid hnp0
    rw [hnp0] at hnp hd ⊢
    clear hnp0
    obtain ⟨ii, hi0, iz0, iz1, iz2⟩ := info_parts info2x
    go_wp2_with fail
    go_loopw [11] (fun ix wr => ∃ (i : Nat) (A : Ad), i ≤ np ∧ ix = .int .i64 i ∧ Hid ((firE (fun i => numE S.n S.d (5 + 8 * i)) i = none ∧ PM2 S w none (5 + 8 * i) QB { prs S.d with np := i, nc := 0, nm := 0 } A wr) ∨ BD S w wr)) (fun ix _ => np - (intOf ix).toNat)
    case atStart => exact ⟨0, noAd, by omega, rfl, Lib.hid (Or.inl ⟨rfl, HP1.out⟩)⟩
    case round =>
      clear HP1
      obtain ⟨i, A, hi, rfl, HQ⟩ := hrel
      rcases HQ.out with hok | hbd
      rotate_left
      · have HBD := Lib.hid hbd
        clear hbd HQ
        obtain ⟨⟨pz, er, hpe, hr9⟩, hres9⟩ := HBD.out
        have HT := Lib.hid hpe
        have HB : Hid (HBt S w pz er wr) := Lib.hid ⟨hr9, hres9⟩
        clear hpe hr9 hres9
        obtain ⟨r2, d2, d3, _⟩ := r2_n HB.out.1
        by_cases hin : i < np
        · have gj : (i : Int) < np := by omega
          go_wp2_with fail
          clear r2 d2 d3
          refine (cntx_c S HO 50 (by decide) (by decide) (some (pz, er)) 0 _ (Lib.hid HB.out.1)).mono ?_
          intro e B9 h
          obtain ⟨rfl, hr, hg⟩ := cnt_bad0 h
          replace HB := Lib.hid (HB.out.call hr hg)
          clear hr hg h
          obtain ⟨r2, d2, d3, _⟩ := r2_n HB.out.1
          go_wp2_with fail
          refine wp_loop_rounds 1 ?_
          rw [rounds_succ]
          go_wp2_with fail
          clear r2 d2 d3
          refine (cntx_c S HO 100 (by decide) (by decide) (some (pz, er)) 0 _ (Lib.hid HB.out.1)).mono ?_
          intro e B10 h
          obtain ⟨rfl, hr, hg⟩ := cnt_bad0 h
          replace HB := Lib.hid (HB.out.call hr hg)
          clear hr hg h
          obtain ⟨r2, d2, d3, _⟩ := r2_n HB.out.1
          go_wp2_with fail
          refine wp_loop_rounds 1 ?_
          rw [rounds_succ]
          clear r2 d2 d3
          obtain ⟨r2, d2, d3, r3⟩ := r2_n HB.out.1
          have HPQ : Hid (PQ w (prs S.d) noAd False z3 B10) := Lib.hid ⟨HB.out.2, (by have h9 := bw_below HB.out.1.b HRW.out; rw [HWE.out] at h9; exact h9), fun h => h.elim⟩
          obtain ⟨x0, z0⟩ := HPQ.out.y 0 _ rfl
          obtain ⟨x1, z1⟩ := HPQ.out.y 1 _ rfl
          obtain ⟨x2, z2⟩ := HPQ.out.y 2 _ rfl
          go_wp2
          go_region
          all_goals
            clear x0 x1 x2 z0 z1 z2 r2 r3 d2 d3
            go_wp2
            replace HPQ := Lib.hid (HPQ.out.set 0 (.slice none 0 0) rfl)
            generalize B10.setCell ⟨w.heap.size, 0, none⟩ (.slice none 0 0) = gw0 at HPQ ⊢
            replace HPQ := Lib.hid (HPQ.out.set 1 (.slice none 0 0) rfl)
            generalize gw0.setCell ⟨w.heap.size, 1, none⟩ (.slice none 0 0) = gw1 at HPQ ⊢
            replace HPQ := Lib.hid (HPQ.out.set 2 (.slice none 0 0) rfl)
            generalize gw1.setCell ⟨w.heap.size, 2, none⟩ (.slice none 0 0) = gw2 at HPQ ⊢
            replace HPQ := Lib.hid HPQ.out.drew
            generalize gw2.drew = gw3 at HPQ ⊢
            have fa0 : gw3.cell? ⟨w.heap.size, 0, none⟩ = some (.slice none 0 0) := (HPQ.out.y 0 _ rfl).1
            have fa1 : gw3.cell? ⟨w.heap.size, 1, none⟩ = some (.slice none 0 0) := (HPQ.out.y 1 _ rfl).1
            have fa2 : gw3.cell? ⟨w.heap.size, 2, none⟩ = some (.slice none 0 0) := (HPQ.out.y 2 _ rfl).1
            have HFin : Hid (ParseX w S.n S.d (.returned (.tuple #[.agg #[.slice none 0 0, .slice none 0 0, .slice none 0 0], .int .i64 pz, .int .i64 er])) gw3) := Lib.hid (ParseX.bad HT.out HPQ.out.b)
            exact bodyPost_ret (v := .tuple #[.agg #[.slice none 0 0, .slice none 0 0, .slice none 0 0], .int .i64 pz, .int .i64 er]) (by simp [results, Try.results19, go_sem, fa0, fa1, fa2]) rfl HFin.out
        · obtain rfl : np = i := by omega
          go_wp2_with fail
          clear r2 d2 d3
          refine (cntx_c S HO 50 (by decide) (by decide) (some (pz, er)) 0 _ (Lib.hid HB.out.1)).mono ?_
          intro e B11 h
          obtain ⟨rfl, hr, hg⟩ := cnt_bad0 h
          replace HB := Lib.hid (HB.out.call hr hg)
          clear hr hg h
          obtain ⟨r2, d2, d3, _⟩ := r2_n HB.out.1
          go_wp2_with fail
          refine wp_loop_rounds 1 ?_
          rw [rounds_succ]
          go_wp2_with fail
          clear r2 d2 d3
          refine (cntx_c S HO 100 (by decide) (by decide) (some (pz, er)) 0 _ (Lib.hid HB.out.1)).mono ?_
          intro e B12 h
          obtain ⟨rfl, hr, hg⟩ := cnt_bad0 h
          replace HB := Lib.hid (HB.out.call hr hg)
          clear hr hg h
          obtain ⟨r2, d2, d3, _⟩ := r2_n HB.out.1
          go_wp2_with fail
          refine wp_loop_rounds 1 ?_
          rw [rounds_succ]
          clear r2 d2 d3
          obtain ⟨r2, d2, d3, r3⟩ := r2_n HB.out.1
          have HPQ : Hid (PQ w (prs S.d) noAd False z3 B12) := Lib.hid ⟨HB.out.2, (by have h9 := bw_below HB.out.1.b HRW.out; rw [HWE.out] at h9; exact h9), fun h => h.elim⟩
          obtain ⟨x0, z0⟩ := HPQ.out.y 0 _ rfl
          obtain ⟨x1, z1⟩ := HPQ.out.y 1 _ rfl
          obtain ⟨x2, z2⟩ := HPQ.out.y 2 _ rfl
          go_wp2
          go_region
          all_goals
            clear x0 x1 x2 z0 z1 z2 r2 r3 d2 d3
            go_wp2
            replace HPQ := Lib.hid (HPQ.out.set 0 (.slice none 0 0) rfl)
            generalize B12.setCell ⟨w.heap.size, 0, none⟩ (.slice none 0 0) = gw0 at HPQ ⊢
            replace HPQ := Lib.hid (HPQ.out.set 1 (.slice none 0 0) rfl)
            generalize gw0.setCell ⟨w.heap.size, 1, none⟩ (.slice none 0 0) = gw1 at HPQ ⊢
            replace HPQ := Lib.hid (HPQ.out.set 2 (.slice none 0 0) rfl)
            generalize gw1.setCell ⟨w.heap.size, 2, none⟩ (.slice none 0 0) = gw2 at HPQ ⊢
            replace HPQ := Lib.hid HPQ.out.drew
            generalize gw2.drew = gw3 at HPQ ⊢
            have fa0 : gw3.cell? ⟨w.heap.size, 0, none⟩ = some (.slice none 0 0) := (HPQ.out.y 0 _ rfl).1
            have fa1 : gw3.cell? ⟨w.heap.size, 1, none⟩ = some (.slice none 0 0) := (HPQ.out.y 1 _ rfl).1
            have fa2 : gw3.cell? ⟨w.heap.size, 2, none⟩ = some (.slice none 0 0) := (HPQ.out.y 2 _ rfl).1
            have HFin : Hid (ParseX w S.n S.d (.returned (.tuple #[.agg #[.slice none 0 0, .slice none 0 0, .slice none 0 0], .int .i64 pz, .int .i64 er])) gw3) := Lib.hid (ParseX.bad HT.out HPQ.out.b)
            exact bodyPost_ret (v := .tuple #[.agg #[.slice none 0 0, .slice none 0 0, .slice none 0 0], .int .i64 pz, .int .i64 er]) (by simp [results, Try.results19, go_sem, fa0, fa1, fa2]) rfl HFin.out
      obtain ⟨h1, h2⟩ := hok
      have H1 := Lib.hid h1
      have H2 := Lib.hid h2
      clear h1 h2 HQ
      obtain ⟨_, _, r2, _, _, _, _⟩ := r2_y H2.out.rd
      by_cases hin : i < np
      · have gi : (i : Int) < np := by omega
        go_wp2_with fail
        clear r2
        go_loopw [13, 12] (fun ix v wv => ∃ (j : Nat) (y : Int), j ≤ 8 ∧ ix = .int .i64 j ∧ .int .u64 y = v ∧ Hid ((firE (fun q => nxE S.n S.d 0 anyB (5 + 8 * i + q)) j = none ∧ PM2 S w none (5 + 8 * i + j) QB { prs S.d with np := i, nc := 0, nm := 0 } A wv ∧ y = (numU S.d (5 + 8 * i) j : Nat)) ∨ (∃ pz er, prsE S.n S.d = some (pz, er) ∧ PM2 S w (some (pz, er)) 0 QB { prs S.d with np := i, nc := 0, nm := 0 } A wv))) (fun ix _ _ => 8 - (intOf ix).toNat)
        case atStart => exact ⟨0, 0, by omega, rfl, rfl, Lib.hid (Or.inl ⟨rfl, H2.out, rfl⟩)⟩
        case round =>
          clear H2
          obtain ⟨j, y, hj, rfl, rfl, HQ⟩ := hrel
          rcases HQ.out with ⟨g1, g2, g3⟩ | ⟨pz, er, g1, g2⟩
          rotate_left
          · have HT := Lib.hid g1
            have HP := Lib.hid g2
            clear g1 g2 HQ
            by_cases hjm : j < 8
            · have gj : (j : Int) < 8 := by omega
              go_wp2_with fail
              refine (onex_c S HO (some (pz, er)) 0 _ (Lib.hid HP.out.rd)).mono ?_
              intro e w2 h
              obtain ⟨rfl, hr, hg⟩ := one_bad h
              replace HP := Lib.hid (HP.out.call hr hg)
              clear hr hg h
              go_wp2_with fail
              exact ⟨⟨j + 1, _, by omega, by go_num, rfl, Lib.hid (Or.inr ⟨pz, er, HT.out, HP.out⟩)⟩, by simp [intOf]; omega⟩
            · obtain rfl : j = 8 := by omega
              obtain ⟨V, hV⟩ : ∃ V, V = Value.slice A.pa i A.pc := ⟨_, rfl⟩
              have HVE := Lib.hid hV
              have HOw0 : Hid (wr.ownsRow (w.heap.size + 1) 2 1 V i (els1 i fun i => .int .i64 ((prs S.d).po i))) := Lib.hid (by rw [hV]; exact HP.out.own.p)
              have HOw := Lib.hid (fun c => own_keep HOw0.out (.alloc wr (.cells #[c] 2)))
              obtain ⟨q, z⟩ := HP.out.y 0 V (by rw [hV]; rfl)
              have hsz : w.heap.size + 1 < wr.heap.size := HP.out.lt
              clear hV
              go_wp2_with (at_builtin; refine wpList_append_lies _ rfl _ _ 22 rfl (w.heap.size + 1) 2 ii _ 1 8 Try.underlying22 hi0 iz0 iz1 iz2 rfl (by decide) V i (els1 i fun i => .int .i64 ((prs S.d).po i)) rfl (HOw.out _) ⟨wr.heap.size, 0, none⟩ 1 1 [.int .i64 (wrap64 y)] rfl rfl (World.news_of_block (cs := #[.int .i64 (wrap64 y)]) (t := 2) (fr := (0, 0)) (heap_alloc_new wr _)) (by simp [Value.oneCell']) (by omega) (by unfold maxLen; omega) (by omega) (by simp; omega) (wr.heap.size + 1) (by simp) ?_; intro g cap w5 hown hgrow _ _; have HM5 := Lib.hid (HP.out.app HW.out HOw0.out hgrow (by decide) (by decide)); have HN5 := Lib.hid hown; obtain ⟨q5, z5⟩ := HM5.out.y 0 V (by rw [HVE.out]; rfl); clear hown hgrow)

              clear q z q5 z5
              exact ⟨⟨i + 1, A, by omega, by go_num, Lib.hid (Or.inr (HM5.out.bd HP.out HT.out HW.out 0 _))⟩, by simp [intOf]; omega⟩
          have HG1 := Lib.hid g1
          have HP := Lib.hid g2
          have HY := Lib.hid g3
          clear g1 g2 g3 HQ
          by_cases hjm : j < 8
          · have gj : (j : Int) < 8 := by omega
            go_wp2_with fail
            refine (onex_c S HO none (5 + 8 * i + j) _ (Lib.hid HP.out.rd)).mono ?_
            intro e w2 h
            rcases one_ok h with ⟨hx, hd, rfl, hr, hg⟩ | ⟨pz, er, hx, rfl, hr, hg⟩
            rotate_left
            · have HP9 := Lib.hid (HP.out.call hr hg)
              clear hr hg h
              go_wp2_with fail
              exact ⟨⟨j + 1, _, by omega, by go_num, rfl, Lib.hid (Or.inr ⟨pz, er, by unfold prsE; rw [or_none HE1.out, or_none HE2.out, HNP.out, or_some (firE_at H1.out (firE_at HG1.out hx.out hjm) hin)], HP9.out⟩)⟩, by simp [intOf]; omega⟩
            replace HP := Lib.hid (HP.out.call hr hg)
            clear hr hg h
            obtain ⟨x, hx0⟩ : ∃ x, S.d (5 + 8 * i + j) = x := ⟨_, rfl⟩
            have HX := Lib.hid hx0
            rw [hx0] at hd ⊢
            clear hx0
            go_wp2_with fail
            exact ⟨⟨j + 1, _, by omega, by go_num, rfl, Lib.hid (Or.inl ⟨firE_succ HG1.out hx.out, HP.out, by
              have h1 := or_stepU (numU_lt S.d (5 + 8 * i) j fun q hq => HO.out.d _ (nxE_none (firE_lt HG1.out q hq)).1) hd hjm
              rw [← HY.out, ← HX.out] at h1
              rw [← HX.out]
              exact h1⟩)⟩, by simp [intOf]; omega⟩
          · obtain rfl : j = 8 := by omega
            have HNm : Hid (numE S.n S.d (5 + 8 * i) = none) := HG1
            obtain ⟨V, hV⟩ : ∃ V, V = Value.slice A.pa i A.pc := ⟨_, rfl⟩
            have HVE := Lib.hid hV
            have HOw0 : Hid (wr.ownsRow (w.heap.size + 1) 2 1 V i (els1 i fun i => .int .i64 ((prs S.d).po i))) := Lib.hid (by rw [hV]; exact HP.out.own.p)
            have HOw := Lib.hid (fun c => own_keep HOw0.out (.alloc wr (.cells #[c] 2)))
            obtain ⟨q, z⟩ := HP.out.y 0 V (by rw [hV]; rfl)
            have hsz : w.heap.size + 1 < wr.heap.size := HP.out.lt
            clear hV
            go_wp2_with (at_builtin; refine wpList_append_lies _ rfl _ _ 22 rfl (w.heap.size + 1) 2 ii _ 1 8 Try.underlying22 hi0 iz0 iz1 iz2 rfl (by decide) V i (els1 i fun i => .int .i64 ((prs S.d).po i)) rfl (HOw.out _) ⟨wr.heap.size, 0, none⟩ 1 1 [.int .i64 (wrap64 y)] rfl rfl (World.news_of_block (cs := #[.int .i64 (wrap64 y)]) (t := 2) (fr := (0, 0)) (heap_alloc_new wr _)) (by simp [Value.oneCell']) (by omega) (by unfold maxLen; omega) (by omega) (by simp; omega) (wr.heap.size + 1) (by simp) ?_; intro g cap w5 hown hgrow _ _; have HM5 := Lib.hid (HP.out.app HW.out HOw0.out hgrow (by decide) (by decide)); have HN5 := Lib.hid hown; obtain ⟨q5, z5⟩ := HM5.out.y 0 V (by rw [HVE.out]; rfl); clear hown hgrow)

            clear q z q5 z5
            exact ⟨⟨i + 1, _, by omega, by go_num, Lib.hid (Or.inl ⟨firE_succ H1.out HNm.out, pool_step2 HP.out HM5.out HW.out (y := .int .i64 (wrap64 y)) (by rw [HY.out, w64]; rfl) HN5.out⟩)⟩, by simp [intOf]; omega⟩
      · obtain rfl : np = i := by omega
        have HE3 := H1
        have HP2 := H2
        clear H1 H2
        go_wp2_with fail
        clear r2
        refine (cntx_c S HO 50 (by decide) (by decide) none (5 + 8 * np) _ (Lib.hid HP2.out.rd)).mono ?_
        intro e w1 h
        rcases cnt_ok0 h with ⟨HE4, hd, rfl, hr, hg⟩ | ⟨pz, er, hx, rfl, hr, hg⟩
        rotate_left
        · have HB := Lib.hid (HP2.out.bad hr hg)
          have HT : Hid (prsE S.n S.d = some (pz, er)) := Lib.hid (by unfold prsE; rw [or_none HE1.out, or_none HE2.out, HNP.out, or_none HE3.out, show c0 S.d = 5 + 8 * np by unfold c0; rw [HNP.out], or_some hx.out])
          clear hr hg h HP2 hx
          obtain ⟨r2, d2, d3, _⟩ := r2_n HB.out.1
          go_wp2_with fail
          refine wp_loop_rounds 1 ?_
          rw [rounds_succ]
          go_wp2_with fail
          clear r2 d2 d3
          refine (cntx_c S HO 100 (by decide) (by decide) (some (pz, er)) 0 _ (Lib.hid HB.out.1)).mono ?_
          intro e B13 h
          obtain ⟨rfl, hr, hg⟩ := cnt_bad0 h
          replace HB := Lib.hid (HB.out.call hr hg)
          clear hr hg h
          obtain ⟨r2, d2, d3, _⟩ := r2_n HB.out.1
          go_wp2_with fail
          refine wp_loop_rounds 1 ?_
          rw [rounds_succ]
          clear r2 d2 d3
          obtain ⟨r2, d2, d3, r3⟩ := r2_n HB.out.1
          have HPQ : Hid (PQ w (prs S.d) noAd False z3 B13) := Lib.hid ⟨HB.out.2, (by have h9 := bw_below HB.out.1.b HRW.out; rw [HWE.out] at h9; exact h9), fun h => h.elim⟩
          obtain ⟨x0, z0⟩ := HPQ.out.y 0 _ rfl
          obtain ⟨x1, z1⟩ := HPQ.out.y 1 _ rfl
          obtain ⟨x2, z2⟩ := HPQ.out.y 2 _ rfl
          go_wp2
          go_region
          all_goals
            clear x0 x1 x2 z0 z1 z2 r2 r3 d2 d3
            go_wp2
            replace HPQ := Lib.hid (HPQ.out.set 0 (.slice none 0 0) rfl)
            generalize B13.setCell ⟨w.heap.size, 0, none⟩ (.slice none 0 0) = gw0 at HPQ ⊢
            replace HPQ := Lib.hid (HPQ.out.set 1 (.slice none 0 0) rfl)
            generalize gw0.setCell ⟨w.heap.size, 1, none⟩ (.slice none 0 0) = gw1 at HPQ ⊢
            replace HPQ := Lib.hid (HPQ.out.set 2 (.slice none 0 0) rfl)
            generalize gw1.setCell ⟨w.heap.size, 2, none⟩ (.slice none 0 0) = gw2 at HPQ ⊢
            replace HPQ := Lib.hid HPQ.out.drew
            generalize gw2.drew = gw3 at HPQ ⊢
            have fa0 : gw3.cell? ⟨w.heap.size, 0, none⟩ = some (.slice none 0 0) := (HPQ.out.y 0 _ rfl).1
            have fa1 : gw3.cell? ⟨w.heap.size, 1, none⟩ = some (.slice none 0 0) := (HPQ.out.y 1 _ rfl).1
            have fa2 : gw3.cell? ⟨w.heap.size, 2, none⟩ = some (.slice none 0 0) := (HPQ.out.y 2 _ rfl).1
            have HFin : Hid (ParseX w S.n S.d (.returned (.tuple #[.agg #[.slice none 0 0, .slice none 0 0, .slice none 0 0], .int .i64 pz, .int .i64 er])) gw3) := Lib.hid (ParseX.bad HT.out HPQ.out.b)
            exact bodyPost_ret (v := .tuple #[.agg #[.slice none 0 0, .slice none 0 0, .slice none 0 0], .int .i64 pz, .int .i64 er]) (by simp [results, Try.results19, go_sem, fa0, fa1, fa2]) rfl HFin.out
        have HP3 := Lib.hid (HP2.out.call hr hg)
        clear hr hg h HP2
        obtain ⟨nc, hnc0⟩ : ∃ n, S.d (5 + 8 * np) = n := ⟨_, rfl⟩
        have hnc : nc ≤ 50 := by have h1 := (nxE_none HE4.out).2; unfold leB at h1; have h2 := of_decide_eq_true h1; omega
        have HC0 : Hid (c0 S.d = 5 + 8 * np) := Lib.hid (by unfold c0; rw [HNP.out])
        have HNC : Hid (S.d (c0 S.d) = nc) := Lib.hid (by rw [HC0.out, hnc0])
        replace HE4 : Hid (nxE S.n S.d 2 (leB 50) (c0 S.d) = none) := Lib.hid (by rw [HC0.out]; exact HE4.out)
        replace HP3 := Lib.hid (show PM2 S w none (c0 S.d + 1) QB { prs S.d with np := np, nc := 0, nm := 0 } A w1 by rw [HC0.out]; exact HP3.out)
        rw [hnc0]
        clear hnc0 hi0 iz0 iz1 iz2 ii
        obtain ⟨ii, hi0, iz0, iz1, iz2⟩ := info_parts info47x
        obtain ⟨jj, hj0, jz0, jz1, jz2⟩ := info_parts info45x
        go_wp2_with fail
        go_loopw [14] (fun ix wr => ∃ (i : Nat) (A : Ad), i ≤ nc ∧ ix = .int .i64 i ∧ Hid ((firE (fun i => fldsE S.n S.d (cS S.d (c0 S.d + 1) i)) i = none ∧ PM2 S w none (cS S.d (c0 S.d + 1) i) QB { prs S.d with np := np, nc := i, nm := 0 } A wr) ∨ BD S w wr)) (fun ix _ => nc - (intOf ix).toNat)
        case atStart => exact ⟨0, A, by omega, rfl, Lib.hid (Or.inl ⟨rfl, HP3.out⟩)⟩
        case round =>
          clear HP3 A
          obtain ⟨i, A, hi, rfl, HQ⟩ := hrel
          rcases HQ.out with hok | hbd
          rotate_left
          · have HBD := Lib.hid hbd
            clear hbd HQ
            obtain ⟨⟨pz, er, hpe, hr9⟩, hres9⟩ := HBD.out
            have HT := Lib.hid hpe
            have HB : Hid (HBt S w pz er wr) := Lib.hid ⟨hr9, hres9⟩
            clear hpe hr9 hres9
            obtain ⟨r2, d2, d3, _⟩ := r2_n HB.out.1
            by_cases hin : i < nc
            · have gj : (i : Int) < nc := by omega
              go_wp2_with fail
              clear r2 d2 d3
              refine (cntx_c S HO 100 (by decide) (by decide) (some (pz, er)) 0 _ (Lib.hid HB.out.1)).mono ?_
              intro e B14 h
              obtain ⟨rfl, hr, hg⟩ := cnt_bad0 h
              replace HB := Lib.hid (HB.out.call hr hg)
              clear hr hg h
              obtain ⟨r2, d2, d3, _⟩ := r2_n HB.out.1
              go_wp2_with fail
              refine wp_loop_rounds 1 ?_
              rw [rounds_succ]
              clear r2 d2 d3
              obtain ⟨r2, d2, d3, r3⟩ := r2_n HB.out.1
              have HPQ : Hid (PQ w (prs S.d) noAd False z3 B14) := Lib.hid ⟨HB.out.2, (by have h9 := bw_below HB.out.1.b HRW.out; rw [HWE.out] at h9; exact h9), fun h => h.elim⟩
              obtain ⟨x0, z0⟩ := HPQ.out.y 0 _ rfl
              obtain ⟨x1, z1⟩ := HPQ.out.y 1 _ rfl
              obtain ⟨x2, z2⟩ := HPQ.out.y 2 _ rfl
              go_wp2
              go_region
              all_goals
                clear x0 x1 x2 z0 z1 z2 r2 r3 d2 d3
                go_wp2
                replace HPQ := Lib.hid (HPQ.out.set 0 (.slice none 0 0) rfl)
                generalize B14.setCell ⟨w.heap.size, 0, none⟩ (.slice none 0 0) = gw0 at HPQ ⊢
                replace HPQ := Lib.hid (HPQ.out.set 1 (.slice none 0 0) rfl)
                generalize gw0.setCell ⟨w.heap.size, 1, none⟩ (.slice none 0 0) = gw1 at HPQ ⊢
                replace HPQ := Lib.hid (HPQ.out.set 2 (.slice none 0 0) rfl)
                generalize gw1.setCell ⟨w.heap.size, 2, none⟩ (.slice none 0 0) = gw2 at HPQ ⊢
                replace HPQ := Lib.hid HPQ.out.drew
                generalize gw2.drew = gw3 at HPQ ⊢
                have fa0 : gw3.cell? ⟨w.heap.size, 0, none⟩ = some (.slice none 0 0) := (HPQ.out.y 0 _ rfl).1
                have fa1 : gw3.cell? ⟨w.heap.size, 1, none⟩ = some (.slice none 0 0) := (HPQ.out.y 1 _ rfl).1
                have fa2 : gw3.cell? ⟨w.heap.size, 2, none⟩ = some (.slice none 0 0) := (HPQ.out.y 2 _ rfl).1
                have HFin : Hid (ParseX w S.n S.d (.returned (.tuple #[.agg #[.slice none 0 0, .slice none 0 0, .slice none 0 0], .int .i64 pz, .int .i64 er])) gw3) := Lib.hid (ParseX.bad HT.out HPQ.out.b)
                exact bodyPost_ret (v := .tuple #[.agg #[.slice none 0 0, .slice none 0 0, .slice none 0 0], .int .i64 pz, .int .i64 er]) (by simp [results, Try.results19, go_sem, fa0, fa1, fa2]) rfl HFin.out
            · obtain rfl : nc = i := by omega
              go_wp2_with fail
              clear r2 d2 d3
              refine (cntx_c S HO 100 (by decide) (by decide) (some (pz, er)) 0 _ (Lib.hid HB.out.1)).mono ?_
              intro e B15 h
              obtain ⟨rfl, hr, hg⟩ := cnt_bad0 h
              replace HB := Lib.hid (HB.out.call hr hg)
              clear hr hg h
              obtain ⟨r2, d2, d3, _⟩ := r2_n HB.out.1
              go_wp2_with fail
              refine wp_loop_rounds 1 ?_
              rw [rounds_succ]
              clear r2 d2 d3
              obtain ⟨r2, d2, d3, r3⟩ := r2_n HB.out.1
              have HPQ : Hid (PQ w (prs S.d) noAd False z3 B15) := Lib.hid ⟨HB.out.2, (by have h9 := bw_below HB.out.1.b HRW.out; rw [HWE.out] at h9; exact h9), fun h => h.elim⟩
              obtain ⟨x0, z0⟩ := HPQ.out.y 0 _ rfl
              obtain ⟨x1, z1⟩ := HPQ.out.y 1 _ rfl
              obtain ⟨x2, z2⟩ := HPQ.out.y 2 _ rfl
              go_wp2
              go_region
              all_goals
                clear x0 x1 x2 z0 z1 z2 r2 r3 d2 d3
                go_wp2
                replace HPQ := Lib.hid (HPQ.out.set 0 (.slice none 0 0) rfl)
                generalize B15.setCell ⟨w.heap.size, 0, none⟩ (.slice none 0 0) = gw0 at HPQ ⊢
                replace HPQ := Lib.hid (HPQ.out.set 1 (.slice none 0 0) rfl)
                generalize gw0.setCell ⟨w.heap.size, 1, none⟩ (.slice none 0 0) = gw1 at HPQ ⊢
                replace HPQ := Lib.hid (HPQ.out.set 2 (.slice none 0 0) rfl)
                generalize gw1.setCell ⟨w.heap.size, 2, none⟩ (.slice none 0 0) = gw2 at HPQ ⊢
                replace HPQ := Lib.hid HPQ.out.drew
                generalize gw2.drew = gw3 at HPQ ⊢
                have fa0 : gw3.cell? ⟨w.heap.size, 0, none⟩ = some (.slice none 0 0) := (HPQ.out.y 0 _ rfl).1
                have fa1 : gw3.cell? ⟨w.heap.size, 1, none⟩ = some (.slice none 0 0) := (HPQ.out.y 1 _ rfl).1
                have fa2 : gw3.cell? ⟨w.heap.size, 2, none⟩ = some (.slice none 0 0) := (HPQ.out.y 2 _ rfl).1
                have HFin : Hid (ParseX w S.n S.d (.returned (.tuple #[.agg #[.slice none 0 0, .slice none 0 0, .slice none 0 0], .int .i64 pz, .int .i64 er])) gw3) := Lib.hid (ParseX.bad HT.out HPQ.out.b)
                exact bodyPost_ret (v := .tuple #[.agg #[.slice none 0 0, .slice none 0 0, .slice none 0 0], .int .i64 pz, .int .i64 er]) (by simp [results, Try.results19, go_sem, fa0, fa1, fa2]) rfl HFin.out
          obtain ⟨h1, h2⟩ := hok
          have H1 := Lib.hid h1
          have H2 := Lib.hid h2
          clear h1 h2 HQ
          obtain ⟨_, _, r2, _, _, _, _⟩ := r2_y H2.out.rd
          by_cases hin : i < nc
          · have gi : (i : Int) < nc := by omega
            go_wp2_with fail
            clear r2
            obtain ⟨f, hf⟩ : ∃ f, cS S.d (c0 S.d + 1) i = f := ⟨_, rfl⟩
            have HF := Lib.hid hf
            rw [hf] at H2
            clear hf
            refine (cntx_c S HO 50 (by decide) (by decide) none f _ (Lib.hid H2.out.rd)).mono ?_
            intro e wr h
            rcases cnt_ok0 h with ⟨hx, hd, rfl, hr, hg⟩ | ⟨pz, er, hx, rfl, hr, hg⟩
            rotate_left
            · have HP := Lib.hid (H2.out.call hr hg)
              have HT : Hid (prsE S.n S.d = some (pz, er)) := Lib.hid (by unfold prsE; rw [or_none HE1.out, or_none HE2.out, HNP.out, or_none HE3.out, or_none HE4.out, HNC.out, or_some (firE_at H1.out (by unfold fldsE; rw [HF.out, or_some hx.out]) hin)])
              clear hr hg h H2 hx
              obtain ⟨V, hV⟩ : ∃ V, V = Value.slice A.ca i A.cc := ⟨_, rfl⟩
              have HVE := Lib.hid hV
              have HOw0 : Hid (wr.ownsRow (w.heap.size + 1) 45 1 V i (els1 i fun i => .slice (A.fa i) ((prs S.d).nf i) (A.fc i))) := Lib.hid (by rw [hV]; exact HP.out.own.k)
              have HOw := Lib.hid (fun c => own_keep HOw0.out (.alloc wr (.cells #[c] 45)))
              obtain ⟨q, z⟩ := HP.out.y 1 V (by rw [hV]; rfl)
              have hsz : w.heap.size + 1 < wr.heap.size := HP.out.lt
              clear hV
              go_wp2_with fail
              refine wp_loop_rounds 1 ?_
              rw [rounds_succ]
              go_wp2_with (at_builtin; refine wpList_append_lies _ rfl _ _ 23 rfl (w.heap.size + 1) 45 jj _ 1 24 Try.underlying23 hj0 jz0 jz1 jz2 rfl (by decide) V i (els1 i fun i => .slice (A.fa i) ((prs S.d).nf i) (A.fc i)) rfl (HOw.out _) ⟨wr.heap.size, 0, none⟩ 1 1 [.slice none 0 0] rfl rfl (World.news_of_block (cs := #[.slice none 0 0]) (t := 45) (fr := (0, 0)) (heap_alloc_new wr _)) (by simp [Value.oneCell']) (by omega) (by unfold maxLen; omega) (by omega) (by simp; omega) (wr.heap.size + 1) (by simp) ?_; intro g cap w5 hown hgrow _ _; have HM5 := Lib.hid (HP.out.app HW.out HOw0.out hgrow (by decide) (by decide)); have HN5 := Lib.hid hown; obtain ⟨q5, z5⟩ := HM5.out.y 1 V (by rw [HVE.out]; rfl); clear hown hgrow)

              exact ⟨⟨i + 1, A, by omega, by go_num, Lib.hid (Or.inr (HM5.out.bd HP.out HT.out HW.out 1 _))⟩, by simp [intOf]; omega⟩
            have HP4 := Lib.hid (H2.out.call hr hg)
            have HXc := hx
            clear hr hg h H2
            obtain ⟨m, hm0⟩ : ∃ m, S.d f = m := ⟨_, rfl⟩
            have hmb : m ≤ 50 := by have h1 := (nxE_none hx.out).2; unfold leB at h1; have h2 := of_decide_eq_true h1; omega
            have HMm := Lib.hid hm0
            have HE : Hid (fldsE S.n S.d f = firE (fun j => nxE S.n S.d 5 flB (f + 1 + j)) m) := Lib.hid (by unfold fldsE; rw [or_none hx.out, hm0])
            rw [hm0] at hd ⊢
            clear hm0 hx
            obtain ⟨W0, hW0⟩ : ∃ W, wr = W := ⟨_, rfl⟩
            rw [hW0] at HP4 ⊢
            clear hW0
            have HW0 : Hid (S.W.heap.size ≤ W0.heap.size) := Lib.hid (by have := HP4.out.lt; have := HW.out; omega)
            have HL0 : Hid (S.R < W0.heap.size) := Lib.hid HP4.out.rd.lt
            go_wp2_with fail
            go_loopw [17, 15] (fun ix v wv => ∃ (j : Nat) (V : Value), j ≤ m ∧ ix = .int .i64 j ∧ V = v ∧ Hid ((firE (fun j => nxE S.n S.d 5 flB (f + 1 + j)) j = none ∧ R2 S none (f + 1 + j) wv ∧ W0.grownBy wv (some S.R) ∧ wv.ownsRow W0.heap.size 47 2 V j (els2 j (fun j => .int .i64 (flT (S.d (f + 1 + j)))) (fun j => .bool (flV (S.d (f + 1 + j)))))) ∨ (∃ pz er a n c, firE (fun j => nxE S.n S.d 5 flB (f + 1 + j)) m = some (pz, er) ∧ R2 S (some (pz, er)) 0 wv ∧ W0.grownBy wv (some S.R) ∧ V = .slice a n c))) (fun ix _ _ => m - (intOf ix).toNat)
            case atStart => exact ⟨0, _, by omega, rfl, rfl, Lib.hid (Or.inl ⟨rfl, HP4.out.rd, grown_refl _ _, ⟨rfl, .inl ⟨rfl, rfl⟩⟩⟩)⟩
            case round =>
              obtain ⟨j, V, hj, rfl, rfl, HQ⟩ := hrel
              rcases HQ.out with ⟨g1, g2, g3, g4⟩ | ⟨pz, er, va, vn, vc, g1, g2, g3, rfl⟩
              rotate_left
              · have HP := Lib.hid (HP4.out.call g2 g3)
                have HT : Hid (prsE S.n S.d = some (pz, er)) := Lib.hid (by unfold prsE; rw [or_none HE1.out, or_none HE2.out, HNP.out, or_none HE3.out, or_none HE4.out, HNC.out, or_some (firE_at H1.out (by rw [HF.out, HE.out]; exact g1) hin)])
                clear g1 g2 g3 HQ HP4
                obtain ⟨r2, d2, d3, _⟩ := r2_n HP.out.rd
                obtain ⟨V, hV⟩ : ∃ V, V = Value.slice A.ca i A.cc := ⟨_, rfl⟩
                have HVE := Lib.hid hV
                have HOw0 : Hid (wr.ownsRow (w.heap.size + 1) 45 1 V i (els1 i fun i => .slice (A.fa i) ((prs S.d).nf i) (A.fc i))) := Lib.hid (by rw [hV]; exact HP.out.own.k)
                have HOw := Lib.hid (fun c => own_keep HOw0.out (.alloc wr (.cells #[c] 45)))
                obtain ⟨q, z⟩ := HP.out.y 1 V (by rw [hV]; rfl)
                have hsz : w.heap.size + 1 < wr.heap.size := HP.out.lt
                clear hV
                by_cases hjm : j < m
                · have gj : (j : Int) < m := by omega
                  go_wp2_with (at_builtin; refine wpList_append_lies _ rfl _ _ 23 rfl (w.heap.size + 1) 45 jj _ 1 24 Try.underlying23 hj0 jz0 jz1 jz2 rfl (by decide) V i (els1 i fun i => .slice (A.fa i) ((prs S.d).nf i) (A.fc i)) rfl (HOw.out _) ⟨wr.heap.size, 0, none⟩ 1 1 [.slice va vn vc] rfl rfl (World.news_of_block (cs := #[.slice va vn vc]) (t := 45) (fr := (0, 0)) (heap_alloc_new wr _)) (by simp [Value.oneCell']) (by omega) (by unfold maxLen; omega) (by omega) (by simp; omega) (wr.heap.size + 1) (by simp) ?_; intro g cap w5 hown hgrow _ _; have HM5 := Lib.hid (HP.out.app HW.out HOw0.out hgrow (by decide) (by decide)); have HN5 := Lib.hid hown; obtain ⟨q5, z5⟩ := HM5.out.y 1 V (by rw [HVE.out]; rfl); clear hown hgrow)

                  exact ⟨⟨i + 1, A, by omega, by go_num, Lib.hid (Or.inr (HM5.out.bd HP.out HT.out HW.out 1 _))⟩, by simp [intOf]; omega⟩
                · obtain rfl : m = j := by omega
                  go_wp2_with (at_builtin; refine wpList_append_lies _ rfl _ _ 23 rfl (w.heap.size + 1) 45 jj _ 1 24 Try.underlying23 hj0 jz0 jz1 jz2 rfl (by decide) V i (els1 i fun i => .slice (A.fa i) ((prs S.d).nf i) (A.fc i)) rfl (HOw.out _) ⟨wr.heap.size, 0, none⟩ 1 1 [.slice va vn vc] rfl rfl (World.news_of_block (cs := #[.slice va vn vc]) (t := 45) (fr := (0, 0)) (heap_alloc_new wr _)) (by simp [Value.oneCell']) (by omega) (by unfold maxLen; omega) (by omega) (by simp; omega) (wr.heap.size + 1) (by simp) ?_; intro g cap w5 hown hgrow _ _; have HM5 := Lib.hid (HP.out.app HW.out HOw0.out hgrow (by decide) (by decide)); have HN5 := Lib.hid hown; obtain ⟨q5, z5⟩ := HM5.out.y 1 V (by rw [HVE.out]; rfl); clear hown hgrow)

                  exact ⟨⟨i + 1, A, by omega, by go_num, Lib.hid (Or.inr (HM5.out.bd HP.out HT.out HW.out 1 _))⟩, by simp [intOf]; omega⟩
              have G1 := Lib.hid g1
              have G2 := Lib.hid g2
              have G3 := Lib.hid g3
              have G4 := Lib.hid g4
              clear g1 g2 g3 g4 HQ
              obtain ⟨_, _, r2, _, _, _, _⟩ := r2_y G2.out
              by_cases hjm : j < m
              · have gj : (j : Int) < m := by omega
                go_wp2_with fail
                clear r2
                refine (onex_c S HO none (f + 1 + j) _ (Lib.hid G2.out)).mono ?_
                intro e w1 h
                rcases one_ok h with ⟨hx, hd1, rfl, hr, hg⟩ | ⟨pz, er, hx, rfl, hr, hg⟩
                rotate_left
                · have HR1 := Lib.hid hr
                  have HG1 := Lib.hid (grown_trans G3.out hg (.inl rfl))
                  have HO1 := Lib.hid (own_r G4.out hg HL0.out)
                  have hsz : W0.heap.size ≤ w1.heap.size := HG1.out.size
                  have HE9 : Hid (firE (fun j => nxE S.n S.d 5 flB (f + 1 + j)) m = some (pz, er)) := Lib.hid (firE_at G1.out (nx_any_some hx.out 5 flB) hjm)
                  clear hr hg h hx
                  obtain ⟨r2, d2, d3, _⟩ := r2_n HR1.out
                  go_wp2_with (at_builtin; refine wpList_append_lies _ rfl _ _ 45 rfl W0.heap.size 47 ii _ 2 16 Try.underlying45 hi0 iz0 iz1 iz2 rfl (by decide) V j (els2 j (fun j => .int .i64 (flT (S.d (f + 1 + j)))) (fun j => .bool (flV (S.d (f + 1 + j))))) rfl (own_keep HO1.out (.alloc w1 _)) ⟨w1.heap.size, 0, none⟩ 1 1 [.int .i64 0, .bool false] rfl rfl (World.news_of_block (cs := #[.int .i64 0, .bool false]) (t := 47) (fr := (0, 0)) (heap_alloc_new w1 _)) (by simp [Value.oneCell']) (by omega) (by unfold maxLen; omega) (by omega) (by simp; omega) (w1.heap.size + 1) (by simp) ?_; intro g cap w5 hown hgrow _ _)
                  obtain ⟨q1, q2⟩ := HR1.out.app HW0.out (Nat.le_refl _) HO1.out (by decide) hgrow HG1.out
                  exact ⟨⟨j + 1, _, by omega, by go_num, rfl, Lib.hid (Or.inr ⟨pz, er, _, _, _, HE9.out, q1, q2, rfl⟩)⟩, by simp [intOf]; omega⟩
                have HR1 := Lib.hid hr
                have HG1 := Lib.hid (grown_trans G3.out hg (.inl rfl))
                have HO1 := Lib.hid (own_r G4.out hg HL0.out)
                have hsz : W0.heap.size ≤ w1.heap.size := HG1.out.size
                have hqn : f + 1 + j < S.n := (nxE_none hx.out).1
                obtain ⟨x, hx0⟩ : ∃ x, S.d (f + 1 + j) = x := ⟨_, rfl⟩
                have HX := Lib.hid hx0
                rw [hx0] at hd1 ⊢
                clear hx0 hr hg h hx
                obtain ⟨_, r1, r2, _, _, _, _⟩ := r2_y HR1.out
                have hgt : Hid (decide ((16 : Int) ≤ (x : Int)) = flV x) := Lib.hid (by unfold flV; simp; omega)
                obtain ⟨b1, hb1⟩ : ∃ b, isTB (x : Int) = b := ⟨_, rfl⟩
                obtain ⟨b2, hb2⟩ : ∃ b, isTB ((x : Int) - 16) = b := ⟨_, rfl⟩
                have HFB : Hid (flB x = (b1 || b2)) := Lib.hid (by unfold flB; rw [hb1, hb2])
                have HVal : Hid (∀ W, Calls Try.prog 43 #[.int .i64 (x : Nat)] W fun e w' => e = .returned (.bool b1) ∧ W = w') := Lib.hid fun W => hb1 ▸ rvalue_c (x : Int) W
                have HVal2 : Hid (∀ W, Calls Try.prog 43 #[.int .i64 ((x : Int) - 16)] W fun e w' => e = .returned (.bool b2) ∧ W = w') := Lib.hid fun W => hb2 ▸ rvalue_c ((x : Int) - 16) W
                clear hb1 hb2
                have hs : (((f + 1 + j + 1 : Nat) : Int)) - 1 = ((f + 1 + j : Nat) : Int) := by omega
                cases b1
                cases b2
                · go_wp2_with (first | (go_at_call 43; first | (with_reducible refine (HVal.out _).mono ?_; rintro e w' ⟨rfl, rfl⟩) | (with_reducible refine (HVal2.out _).mono ?_; rintro e w' ⟨rfl, rfl⟩)) | (go_at_call 47; refine (failx_c S (f + 1 + j + 1) (f + 1 + j) 5 (by decide) _ HR1 0).mono ?_; rintro e w2 ⟨rfl, hr2, hg2⟩; have HR2 := Lib.hid hr2; have HG2 := Lib.hid (grown_trans HG1.out hg2 (.inl rfl)); have HO2 := Lib.hid (own_r HO1.out hg2 HL0.out); have hsz2 : W0.heap.size ≤ w2.heap.size := HG2.out.size; clear hr2 hg2) | (at_builtin; refine wpList_append_lies _ rfl _ _ 45 rfl W0.heap.size 47 ii _ 2 16 Try.underlying45 hi0 iz0 iz1 iz2 rfl (by decide) V j (els2 j (fun j => .int .i64 (flT (S.d (f + 1 + j)))) (fun j => .bool (flV (S.d (f + 1 + j))))) rfl (own_keep HO2.out (.alloc w2 _)) ⟨w2.heap.size, 0, none⟩ 1 1 [.int .i64 ((x : Int) % 16), .bool (decide ((16 : Int) ≤ (x : Int)))] rfl rfl (World.news_of_block (cs := #[.int .i64 ((x : Int) % 16), .bool (decide ((16 : Int) ≤ (x : Int)))]) (t := 47) (fr := (0, 0)) (heap_alloc_new w2 _)) (by simp [Value.oneCell']) (by omega) (by unfold maxLen; omega) (by omega) (by simp; omega) (w2.heap.size + 1) (by simp) ?_; intro g cap w5 hown hgrow _ _))
                  obtain ⟨q1, q2⟩ := HR2.out.app HW0.out (Nat.le_refl _) HO2.out (by decide) hgrow HG2.out
                  exact ⟨⟨j + 1, _, by omega, by go_num, rfl, Lib.hid (Or.inr ⟨_, _, _, _, _, firE_at G1.out (nxE_bad hqn (by rw [HX.out]; exact HFB.out)) hjm, q1, q2, rfl⟩)⟩, by simp [intOf]; omega⟩
                all_goals
                  go_wp2_with (first | (go_at_call 43; first | (with_reducible refine (HVal.out _).mono ?_; rintro e w' ⟨rfl, rfl⟩) | (with_reducible refine (HVal2.out _).mono ?_; rintro e w' ⟨rfl, rfl⟩)) | (at_builtin; refine wpList_append_lies _ rfl _ _ 45 rfl W0.heap.size 47 ii _ 2 16 Try.underlying45 hi0 iz0 iz1 iz2 rfl (by decide) V j (els2 j (fun j => .int .i64 (flT (S.d (f + 1 + j)))) (fun j => .bool (flV (S.d (f + 1 + j))))) rfl (own_keep HO1.out (.alloc w1 _)) ⟨w1.heap.size, 0, none⟩ 1 1 [.int .i64 ((x : Int) % 16), .bool (decide ((16 : Int) ≤ (x : Int)))] rfl rfl (World.news_of_block (cs := #[.int .i64 ((x : Int) % 16), .bool (decide ((16 : Int) ≤ (x : Int)))]) (t := 47) (fr := (0, 0)) (heap_alloc_new w1 _)) (by simp [Value.oneCell']) (by omega) (by unfold maxLen; omega) (by omega) (by simp; omega) (w1.heap.size + 1) (by simp) ?_; intro g cap w5 hown hgrow _ _))
                  obtain ⟨q1, q2⟩ := HR1.out.app HW0.out (Nat.le_refl _) HO1.out (by decide) hgrow HG1.out
                  exact ⟨⟨j + 1, _, by omega, by go_num, rfl, Lib.hid (Or.inl ⟨firE_succ G1.out (nxE_ok hqn (by rw [HX.out]; exact HFB.out)), q1, q2, by rw [els2_snoc j (fun j => .int .i64 (flT (S.d (f + 1 + j)))) (fun j => .bool (flV (S.d (f + 1 + j)))) _ _ (by rw [HX.out]; unfold flT; rw [Int.natCast_emod]; rfl) (by rw [HX.out, hgt.out])] at hown; exact hown⟩)⟩, by simp [intOf]; omega⟩
              · obtain rfl : m = j := by omega
                obtain ⟨va, vc, hv⟩ := own_slice G4.out
                subst hv
                have HP := Lib.hid (HP4.out.call G2.out G3.out)
                have HOf := Lib.hid (own_mono G4.out (show w.heap.size + 1 ≤ W0.heap.size by have := HP4.out.lt; omega))
                obtain ⟨V, hV⟩ : ∃ V, V = Value.slice A.ca i A.cc := ⟨_, rfl⟩
                have HVE := Lib.hid hV
                have HOw0 : Hid (wr.ownsRow (w.heap.size + 1) 45 1 V i (els1 i fun i => .slice (A.fa i) ((prs S.d).nf i) (A.fc i))) := Lib.hid (by rw [hV]; exact HP.out.own.k)
                have HOw := Lib.hid (fun c => own_keep HOw0.out (.alloc wr (.cells #[c] 45)))
                obtain ⟨q, z⟩ := HP.out.y 1 V (by rw [hV]; rfl)
                have hsz : w.heap.size + 1 < wr.heap.size := HP.out.lt
                clear hV
                go_wp2_with (at_builtin; refine wpList_append_lies _ rfl _ _ 23 rfl (w.heap.size + 1) 45 jj _ 1 24 Try.underlying23 hj0 jz0 jz1 jz2 rfl (by decide) V i (els1 i fun i => .slice (A.fa i) ((prs S.d).nf i) (A.fc i)) rfl (HOw.out _) ⟨wr.heap.size, 0, none⟩ 1 1 [.slice va m vc] rfl rfl (World.news_of_block (cs := #[.slice va m vc]) (t := 45) (fr := (0, 0)) (heap_alloc_new wr _)) (by simp [Value.oneCell']) (by omega) (by unfold maxLen; omega) (by omega) (by simp; omega) (wr.heap.size + 1) (by simp) ?_; intro g cap w5 hown hgrow _ _; have HM5 := Lib.hid (HP.out.app HW.out HOw0.out hgrow (by decide) (by decide)); have HN5 := Lib.hid hown; obtain ⟨q5, z5⟩ := HM5.out.y 1 V (by rw [HVE.out]; rfl); clear hown hgrow)

                obtain ⟨A', hA'⟩ := class_step2 HP.out HM5.out HW.out (a := va) (c := vc) (n := m) (by rw [← HMm.out, ← HF.out]; rfl) (by have h9 := HOf.out; rw [← HF.out] at h9; exact h9) HN5.out
                exact ⟨⟨i + 1, A', by omega, by go_num, Lib.hid (Or.inl ⟨firE_succ H1.out (by rw [HF.out, HE.out]; exact G1.out), by have h9 : cS S.d (c0 S.d + 1) (i + 1) = f + 1 + m := (by rw [← HMm.out, ← HF.out]; rfl); rw [h9]; exact hA'⟩)⟩, by simp [intOf]; omega⟩
          · obtain rfl : nc = i := by omega
            have HE5 := H1
            have HP4 := H2
            clear H1 H2
            go_wp2_with fail
            clear r2
            have HM0 : Hid (m0 S.d = cS S.d (c0 S.d + 1) nc) := Lib.hid (by unfold m0; rw [HNC.out])
            obtain ⟨f0, hf0⟩ : ∃ f, m0 S.d = f := ⟨_, rfl⟩
            replace HP4 := Lib.hid (show PM2 S w none f0 QB { prs S.d with np := np, nc := nc, nm := 0 } A wr by rw [← hf0, HM0.out]; exact HP4.out)
            have HF0 := Lib.hid hf0
            clear hf0 hi0 iz0 iz1 iz2 ii
            refine (cntx_c S HO 100 (by decide) (by decide) none f0 _ (Lib.hid HP4.out.rd)).mono ?_
            intro e w1 h
            rcases cnt_ok0 h with ⟨HE6, hd, rfl, hr, hg⟩ | ⟨pz, er, hx, rfl, hr, hg⟩
            rotate_left
            · have HB := Lib.hid (HP4.out.bad hr hg)
              have HT : Hid (prsE S.n S.d = some (pz, er)) := Lib.hid (by unfold prsE; rw [or_none HE1.out, or_none HE2.out, HNP.out, or_none HE3.out, or_none HE4.out, HNC.out, or_none HE5.out, HF0.out, or_some hx.out])
              clear hr hg h HP4 hx
              obtain ⟨r2, d2, d3, _⟩ := r2_n HB.out.1
              go_wp2_with fail
              refine wp_loop_rounds 1 ?_
              rw [rounds_succ]
              clear r2 d2 d3
              obtain ⟨r2, d2, d3, r3⟩ := r2_n HB.out.1
              have HPQ : Hid (PQ w (prs S.d) noAd False z3 w1) := Lib.hid ⟨HB.out.2, (by have h9 := bw_below HB.out.1.b HRW.out; rw [HWE.out] at h9; exact h9), fun h => h.elim⟩
              obtain ⟨x0, z0⟩ := HPQ.out.y 0 _ rfl
              obtain ⟨x1, z1⟩ := HPQ.out.y 1 _ rfl
              obtain ⟨x2, z2⟩ := HPQ.out.y 2 _ rfl
              go_wp2
              go_region
              all_goals
                clear x0 x1 x2 z0 z1 z2 r2 r3 d2 d3
                go_wp2
                replace HPQ := Lib.hid (HPQ.out.set 0 (.slice none 0 0) rfl)
                generalize w1.setCell ⟨w.heap.size, 0, none⟩ (.slice none 0 0) = gw0 at HPQ ⊢
                replace HPQ := Lib.hid (HPQ.out.set 1 (.slice none 0 0) rfl)
                generalize gw0.setCell ⟨w.heap.size, 1, none⟩ (.slice none 0 0) = gw1 at HPQ ⊢
                replace HPQ := Lib.hid (HPQ.out.set 2 (.slice none 0 0) rfl)
                generalize gw1.setCell ⟨w.heap.size, 2, none⟩ (.slice none 0 0) = gw2 at HPQ ⊢
                replace HPQ := Lib.hid HPQ.out.drew
                generalize gw2.drew = gw3 at HPQ ⊢
                have fa0 : gw3.cell? ⟨w.heap.size, 0, none⟩ = some (.slice none 0 0) := (HPQ.out.y 0 _ rfl).1
                have fa1 : gw3.cell? ⟨w.heap.size, 1, none⟩ = some (.slice none 0 0) := (HPQ.out.y 1 _ rfl).1
                have fa2 : gw3.cell? ⟨w.heap.size, 2, none⟩ = some (.slice none 0 0) := (HPQ.out.y 2 _ rfl).1
                have HFin : Hid (ParseX w S.n S.d (.returned (.tuple #[.agg #[.slice none 0 0, .slice none 0 0, .slice none 0 0], .int .i64 pz, .int .i64 er])) gw3) := Lib.hid (ParseX.bad HT.out HPQ.out.b)
                exact bodyPost_ret (v := .tuple #[.agg #[.slice none 0 0, .slice none 0 0, .slice none 0 0], .int .i64 pz, .int .i64 er]) (by simp [results, Try.results19, go_sem, fa0, fa1, fa2]) rfl HFin.out
            have HP5 := Lib.hid (HP4.out.call hr hg)
            clear hr hg h HP4
            obtain ⟨nm, hnm0⟩ : ∃ n, S.d f0 = n := ⟨_, rfl⟩
            have hnm : nm ≤ 100 := by have h1 := (nxE_none HE6.out).2; unfold leB at h1; have h2 := of_decide_eq_true h1; omega
            have hqn : f0 < S.n := (nxE_none HE6.out).1
            have HNM : Hid (S.d f0 = nm) := Lib.hid hnm0
            rw [hnm0]
            clear hnm0 hd
            have r1 := (r2_y HP5.out.rd).2.1
            have r2 := (r2_y HP5.out.rd).2.2.1
            by_cases hnz : nm = 0
            · have d1 : ((nm : Int) == 0) = true := by rw [hnz]; rfl
              have gz : decide ((0 : Int) < (nm : Int)) = false := decide_eq_false (by omega)
              go_wp2_with fail
              clear d1 r1 r2
              refine (failx_c S (f0 + 1) f0 3 (by decide) _ (Lib.hid HP5.out.rd) 0).mono ?_
              rintro e wf ⟨rfl, hr, hg⟩
              have HB := Lib.hid (HP5.out.bad hr hg)
              have HT : Hid (prsE S.n S.d = some (f0, 3)) := Lib.hid (by unfold prsE; rw [or_none HE1.out, or_none HE2.out, HNP.out, or_none HE3.out, or_none HE4.out, HNC.out, or_none HE5.out, HF0.out, or_none HE6.out]; exact or_some (if_pos (by rw [HNM.out]; exact hnz)))
              clear hr hg HP5
              obtain ⟨pz, hpz⟩ : ∃ x, f0 = x := ⟨_, rfl⟩
              obtain ⟨er, her⟩ : ∃ x : Int, 3 = x := ⟨_, rfl⟩
              rw [hpz, her] at HB HT
              clear hpz her
              obtain ⟨r2, d2, d3, _⟩ := r2_n HB.out.1
              go_wp2_with fail
              refine wp_loop_rounds 1 ?_
              rw [rounds_succ]
              clear r2 d2 d3
              obtain ⟨r2, d2, d3, r3⟩ := r2_n HB.out.1
              have HPQ : Hid (PQ w (prs S.d) noAd False z3 wf) := Lib.hid ⟨HB.out.2, (by have h9 := bw_below HB.out.1.b HRW.out; rw [HWE.out] at h9; exact h9), fun h => h.elim⟩
              obtain ⟨x0, z0⟩ := HPQ.out.y 0 _ rfl
              obtain ⟨x1, z1⟩ := HPQ.out.y 1 _ rfl
              obtain ⟨x2, z2⟩ := HPQ.out.y 2 _ rfl
              go_wp2
              go_region
              all_goals
                clear x0 x1 x2 z0 z1 z2 r2 r3 d2 d3
                go_wp2
                replace HPQ := Lib.hid (HPQ.out.set 0 (.slice none 0 0) rfl)
                generalize wf.setCell ⟨w.heap.size, 0, none⟩ (.slice none 0 0) = gw0 at HPQ ⊢
                replace HPQ := Lib.hid (HPQ.out.set 1 (.slice none 0 0) rfl)
                generalize gw0.setCell ⟨w.heap.size, 1, none⟩ (.slice none 0 0) = gw1 at HPQ ⊢
                replace HPQ := Lib.hid (HPQ.out.set 2 (.slice none 0 0) rfl)
                generalize gw1.setCell ⟨w.heap.size, 2, none⟩ (.slice none 0 0) = gw2 at HPQ ⊢
                replace HPQ := Lib.hid HPQ.out.drew
                generalize gw2.drew = gw3 at HPQ ⊢
                have fa0 : gw3.cell? ⟨w.heap.size, 0, none⟩ = some (.slice none 0 0) := (HPQ.out.y 0 _ rfl).1
                have fa1 : gw3.cell? ⟨w.heap.size, 1, none⟩ = some (.slice none 0 0) := (HPQ.out.y 1 _ rfl).1
                have fa2 : gw3.cell? ⟨w.heap.size, 2, none⟩ = some (.slice none 0 0) := (HPQ.out.y 2 _ rfl).1
                have HFin : Hid (ParseX w S.n S.d (.returned (.tuple #[.agg #[.slice none 0 0, .slice none 0 0, .slice none 0 0], .int .i64 pz, .int .i64 er])) gw3) := Lib.hid (ParseX.bad HT.out HPQ.out.b)
                exact bodyPost_ret (v := .tuple #[.agg #[.slice none 0 0, .slice none 0 0, .slice none 0 0], .int .i64 pz, .int .i64 er]) (by simp [results, Try.results19, go_sem, fa0, fa1, fa2]) rfl HFin.out
            have d1 : ((nm : Int) == 0) = false := by simpa using hnz
            have HE7 : Hid (noneE S.d f0 = none) := Lib.hid (if_neg (by rw [HNM.out]; exact hnz))
            have HP6 := Lib.hid (show PM2 S w none (mS S.d (m0 S.d + 1) 0) QB { prs S.d with np := np, nc := nc, nm := 0 } A w1 by rw [HF0.out]; exact HP5.out)
            clear HP5
            go_wp2_with fail
            clear d1 r1 r2
            go_loopw [19] (fun ix wr => ∃ (i : Nat) (A : Ad), i ≤ nm ∧ ix = .int .i64 i ∧ Hid ((firE (fun i => methE S.n S.d (mS S.d (m0 S.d + 1) i)) i = none ∧ PM2 S w none (mS S.d (m0 S.d + 1) i) QB { prs S.d with np := np, nc := nc, nm := i } A wr) ∨ BD S w wr)) (fun ix _ => nm - (intOf ix).toNat)
            case atStart => exact ⟨0, A, by omega, rfl, Lib.hid (Or.inl ⟨rfl, HP6.out⟩)⟩
            case round =>
              clear HP6 A
              obtain ⟨i, A, hi, rfl, HQ⟩ := hrel
              rcases HQ.out with hok | hbd
              rotate_left
              · have HBD := Lib.hid hbd
                clear hbd HQ
                obtain ⟨⟨pz, er, hpe, hr9⟩, hres9⟩ := HBD.out
                have HT := Lib.hid hpe
                have HB : Hid (HBt S w pz er wr) := Lib.hid ⟨hr9, hres9⟩
                clear hpe hr9 hres9
                by_cases hin : i < nm
                · have gj : (i : Int) < nm := by omega
                  obtain ⟨r2, d2, d3, r3⟩ := r2_n HB.out.1
                  have HPQ : Hid (PQ w (prs S.d) noAd False z3 wr) := Lib.hid ⟨HB.out.2, (by have h9 := bw_below HB.out.1.b HRW.out; rw [HWE.out] at h9; exact h9), fun h => h.elim⟩
                  obtain ⟨x0, z0⟩ := HPQ.out.y 0 _ rfl
                  obtain ⟨x1, z1⟩ := HPQ.out.y 1 _ rfl
                  obtain ⟨x2, z2⟩ := HPQ.out.y 2 _ rfl
                  go_wp2
                  go_region
                  all_goals
                    clear x0 x1 x2 z0 z1 z2 r2 r3 d2 d3
                    go_wp2
                    replace HPQ := Lib.hid (HPQ.out.set 0 (.slice none 0 0) rfl)
                    generalize wr.setCell ⟨w.heap.size, 0, none⟩ (.slice none 0 0) = gw0 at HPQ ⊢
                    replace HPQ := Lib.hid (HPQ.out.set 1 (.slice none 0 0) rfl)
                    generalize gw0.setCell ⟨w.heap.size, 1, none⟩ (.slice none 0 0) = gw1 at HPQ ⊢
                    replace HPQ := Lib.hid (HPQ.out.set 2 (.slice none 0 0) rfl)
                    generalize gw1.setCell ⟨w.heap.size, 2, none⟩ (.slice none 0 0) = gw2 at HPQ ⊢
                    replace HPQ := Lib.hid HPQ.out.drew
                    generalize gw2.drew = gw3 at HPQ ⊢
                    have fa0 : gw3.cell? ⟨w.heap.size, 0, none⟩ = some (.slice none 0 0) := (HPQ.out.y 0 _ rfl).1
                    have fa1 : gw3.cell? ⟨w.heap.size, 1, none⟩ = some (.slice none 0 0) := (HPQ.out.y 1 _ rfl).1
                    have fa2 : gw3.cell? ⟨w.heap.size, 2, none⟩ = some (.slice none 0 0) := (HPQ.out.y 2 _ rfl).1
                    have HFin : Hid (ParseX w S.n S.d (.returned (.tuple #[.agg #[.slice none 0 0, .slice none 0 0, .slice none 0 0], .int .i64 pz, .int .i64 er])) gw3) := Lib.hid (ParseX.bad HT.out HPQ.out.b)
                    exact bodyPost_ret (v := .tuple #[.agg #[.slice none 0 0, .slice none 0 0, .slice none 0 0], .int .i64 pz, .int .i64 er]) (by simp [results, Try.results19, go_sem, fa0, fa1, fa2]) rfl HFin.out
                · obtain rfl : nm = i := by omega
                  obtain ⟨r2, d2, d3, r3⟩ := r2_n HB.out.1
                  have HPQ : Hid (PQ w (prs S.d) noAd False z3 wr) := Lib.hid ⟨HB.out.2, (by have h9 := bw_below HB.out.1.b HRW.out; rw [HWE.out] at h9; exact h9), fun h => h.elim⟩
                  obtain ⟨x0, z0⟩ := HPQ.out.y 0 _ rfl
                  obtain ⟨x1, z1⟩ := HPQ.out.y 1 _ rfl
                  obtain ⟨x2, z2⟩ := HPQ.out.y 2 _ rfl
                  go_wp2
                  go_region
                  all_goals
                    clear x0 x1 x2 z0 z1 z2 r2 r3 d2 d3
                    go_wp2
                    replace HPQ := Lib.hid (HPQ.out.set 0 (.slice none 0 0) rfl)
                    generalize wr.setCell ⟨w.heap.size, 0, none⟩ (.slice none 0 0) = gw0 at HPQ ⊢
                    replace HPQ := Lib.hid (HPQ.out.set 1 (.slice none 0 0) rfl)
                    generalize gw0.setCell ⟨w.heap.size, 1, none⟩ (.slice none 0 0) = gw1 at HPQ ⊢
                    replace HPQ := Lib.hid (HPQ.out.set 2 (.slice none 0 0) rfl)
                    generalize gw1.setCell ⟨w.heap.size, 2, none⟩ (.slice none 0 0) = gw2 at HPQ ⊢
                    replace HPQ := Lib.hid HPQ.out.drew
                    generalize gw2.drew = gw3 at HPQ ⊢
                    have fa0 : gw3.cell? ⟨w.heap.size, 0, none⟩ = some (.slice none 0 0) := (HPQ.out.y 0 _ rfl).1
                    have fa1 : gw3.cell? ⟨w.heap.size, 1, none⟩ = some (.slice none 0 0) := (HPQ.out.y 1 _ rfl).1
                    have fa2 : gw3.cell? ⟨w.heap.size, 2, none⟩ = some (.slice none 0 0) := (HPQ.out.y 2 _ rfl).1
                    have HFin : Hid (ParseX w S.n S.d (.returned (.tuple #[.agg #[.slice none 0 0, .slice none 0 0, .slice none 0 0], .int .i64 pz, .int .i64 er])) gw3) := Lib.hid (ParseX.bad HT.out HPQ.out.b)
                    exact bodyPost_ret (v := .tuple #[.agg #[.slice none 0 0, .slice none 0 0, .slice none 0 0], .int .i64 pz, .int .i64 er]) (by simp [results, Try.results19, go_sem, fa0, fa1, fa2]) rfl HFin.out
              obtain ⟨h1, h2⟩ := hok
              have H1 := Lib.hid h1
              have H2 := Lib.hid h2
              clear h1 h2 HQ
              have r2 := (r2_y H2.out.rd).2.2.1
              by_cases hin : i < nm
              · have gi : (i : Int) < nm := by omega
                go_wp2
                clear r2
                have HMd := Lib.hid H2.out.drew
                obtain ⟨V, hV⟩ : ∃ V, V = Value.slice A.ma i A.mc := ⟨_, rfl⟩
                have HOV : Hid (∀ x k V', PM2 S w x k QB { prs S.d with np := np, nc := nc, nm := i } A V' → V'.ownsRow (w.heap.size + 1) 50 5 V i (els5 i ((prs S.d).mcells A))) := Lib.hid fun x k V' h => by rw [hV]; exact h.own.m
                have HOY : Hid (∀ x k V', PM2 S w x k QB { prs S.d with np := np, nc := nc, nm := i } A V' → V'.cell? ⟨QB, 2, none⟩ = some V ∧ V'.frozen? ⟨QB, 2, none⟩ = false) := Lib.hid fun x k V' h => h.y 2 V (by rw [hV]; rfl)
                have HO5 : Hid (∀ x k V1 V', P52 S w x k QB 50 { prs S.d with np := np, nc := nc, nm := i } A V1 V' → V'.cell? ⟨QB, 2, none⟩ = some V ∧ V'.frozen? ⟨QB, 2, none⟩ = false) := Lib.hid fun x k V1 V' h => h.y 2 V (by rw [hV]; rfl)
                have HVE := Lib.hid hV
                clear hV
                have HC := Lib.hid (mthx_c S HO (mS S.d (m0 S.d + 1) i) wr.drew (Lib.hid HMd.out.rd))
                obtain ⟨q, _⟩ := HOY.out _ _ _ HMd.out
                obtain ⟨i0, ii, iz0, iz1, iz2⟩ := info_parts info50x
                cases hme : methE S.n S.d (mS S.d (m0 S.d + 1) i) with
                | some pe =>
                  obtain ⟨pz, er⟩ := pe
                  have HT : Hid (prsE S.n S.d = some (pz, er)) := Lib.hid (by unfold prsE; rw [or_none HE1.out, or_none HE2.out, HNP.out, or_none HE3.out, or_none HE4.out, HNC.out, or_none HE5.out, or_none (show nxE S.n S.d 2 (leB 100) (m0 S.d) = none by rw [HF0.out]; exact HE6.out), or_none (show noneE S.d (m0 S.d) = none by rw [HF0.out]; exact HE7.out), show S.d (m0 S.d) = nm by rw [HF0.out]; exact HNM.out, or_some (firE_at H1.out hme hin)])
                  have HC2 : Hid (Calls Try.prog 49 #[.pointer (some ⟨S.R, 0, none⟩)] wr.drew fun e w' => ∃ a0 n0 c0 r a1 n1 c1 s a2 n2 c2, e = .returned (.agg #[.slice a0 n0 c0, .int .i64 r, .slice a1 n1 c1, .int .i64 s, .slice a2 n2 c2]) ∧ R2 S (some (pz, er)) 0 w' ∧ wr.drew.grownBy w' (some S.R)) := Lib.hid (HC.out.mono fun e w' h => by
                    rcases h with ⟨h1, _⟩ | ⟨p', er', h1, h2⟩
                    · rw [hme] at h1; cases h1
                    · rw [hme] at h1; injection h1 with h1; injection h1 with h8 h9; subst h8 h9; exact h2)
                  clear hme HC
                  go_region_law (first | (go_simp; go_at_call 49; refine HC2.out.mono ?_; rintro e w4 ⟨ga0, n0, gc0, mr, ga1, n1, gc1, ms, ga2, n2, gc2, rfl, hr, hg⟩; have HM4 := Lib.hid (HMd.out.call hr hg); obtain ⟨q4, _⟩ := HOY.out _ _ _ HM4.out; obtain ⟨q4a, _⟩ := HOY.out _ _ _ (HM4.out.alloc (.cells #[.slice ga0 n0 gc0, .int .i64 mr, .slice ga1 n1 gc1, .int .i64 ms, .slice ga2 n2 gc2] 50)); clear hr hg) | (refine step_append_lies _ (by rfl) (.tmp 187) (.tmp 190) 24 (by rfl) (w.heap.size + 1) 50 i0 _ 5 88 Try.underlying24 ii iz0 iz1 iz2 rfl (by decide) V i (els5 i ((prs S.d).mcells A)) (by rfl) (HOV.out _ _ _ (HM4.out.alloc (.cells #[.slice ga0 n0 gc0, .int .i64 mr, .slice ga1 n1 gc1, .int .i64 ms, .slice ga2 n2 gc2] 50))) ⟨w4.heap.size, 0, none⟩ 1 1 [.slice ga0 n0 gc0, .int .i64 mr, .slice ga1 n1 gc1, .int .i64 ms, .slice ga2 n2 gc2] (by rfl) (by rfl) (World.news_of_block (cs := #[.slice ga0 n0 gc0, .int .i64 mr, .slice ga1 n1 gc1, .int .i64 ms, .slice ga2 n2 gc2]) (t := 50) (fr := (0, 0)) (heap_alloc_new w4 _)) (by simp [Value.oneCell']) (by omega) (by unfold maxLen; omega) (by omega) (by have := HM4.out.lt; simp; omega) (w4.heap.size + 1) (by simp) ?_; intro gg cap5 w5 hown5 hgrow _ _; have HM5 := Lib.hid (HM4.out.app HW.out (HOV.out _ _ _ HM4.out) hgrow (by decide) (by decide)); have HN5 := Lib.hid hown5; obtain ⟨q5, z5'⟩ := HO5.out _ _ _ _ HM5.out; clear hown5 hgrow))
                  all_goals
                    clear q q4 q4a
                    go_wp2_with fail
                    exact ⟨⟨i + 1, A, by omega, by go_num, Lib.hid (Or.inr (HM5.out.bd HM4.out HT.out HW.out 2 _))⟩, by simp [intOf]; omega⟩
                | none =>
                  have HX : Hid (methE S.n S.d (mS S.d (m0 S.d + 1) i) = none) := Lib.hid hme
                  have HC2 : Hid (Calls Try.prog 49 #[.pointer (some ⟨S.R, 0, none⟩)] wr.drew fun e w' => ∃ v, e = .returned v ∧ MethW (prs S.d) i ((prs S.d).pn i) ((prs S.d).rt i) ((prs S.d).ln i) ((prs S.d).sk i) ((prs S.d).cn i) wr.drew v w' ∧ R2 S none (mS S.d (m0 S.d + 1) (i + 1)) w' ∧ wr.drew.grownBy w' (some S.R)) := Lib.hid (HC.out.mono fun e w' h => by
                    rcases h with ⟨_, v, h2, h3, h4, h5⟩ | ⟨p', er', h1, _⟩
                    · exact ⟨v, h2, methW h3, by rw [mS_succ]; exact h4, h5⟩
                    · rw [hme] at h1; cases h1)
                  clear hme HC
                  obtain ⟨n0, hn0⟩ : ∃ n, (prs S.d).pn i = n := ⟨_, rfl⟩
                  obtain ⟨n1, hn1⟩ : ∃ n, (prs S.d).ln i = n := ⟨_, rfl⟩
                  obtain ⟨n2, hn2⟩ : ∃ n, (prs S.d).cn i = n := ⟨_, rfl⟩
                  obtain ⟨mr, hmr⟩ : ∃ n, (prs S.d).rt i = n := ⟨_, rfl⟩
                  obtain ⟨ms, hms⟩ : ∃ n, (prs S.d).sk i = n := ⟨_, rfl⟩
                  have HN0 := Lib.hid hn0
                  have HN1 := Lib.hid hn1
                  have HN2 := Lib.hid hn2
                  have HMR := Lib.hid hmr
                  have HMS := Lib.hid hms
                  rw [hn0, hn1, hn2, hmr, hms] at HC2
                  clear hn0 hn1 hn2 hmr hms
                  go_region_law (first | (go_simp; go_at_call 49; refine HC2.out.mono ?_; rintro e w4 ⟨v, rfl, ⟨ga0, gc0, ga1, gc1, ga2, gc2, he, ho0, ho1, ho2⟩, hr, hg⟩; obtain rfl := he; have hlq : w.heap.size + 1 ≤ wr.drew.heap.size := (by have := HMd.out.lt; omega); have HR0 := Lib.hid (own_mono ho0 hlq); have HR1 := Lib.hid (own_mono ho1 hlq); have HR2 := Lib.hid (own_mono ho2 hlq); clear ho0 ho1 ho2 hlq; have HM4 := Lib.hid (HMd.out.call hr hg); obtain ⟨q4, _⟩ := HOY.out _ _ _ HM4.out; obtain ⟨q4a, _⟩ := HOY.out _ _ _ (HM4.out.alloc (.cells #[.slice ga0 n0 gc0, .int .i64 mr, .slice ga1 n1 gc1, .int .i64 ms, .slice ga2 n2 gc2] 50)); clear hr hg) | (refine step_append_lies _ (by rfl) (.tmp 187) (.tmp 190) 24 (by rfl) (w.heap.size + 1) 50 i0 _ 5 88 Try.underlying24 ii iz0 iz1 iz2 rfl (by decide) V i (els5 i ((prs S.d).mcells A)) (by rfl) (HOV.out _ _ _ (HM4.out.alloc (.cells #[.slice ga0 n0 gc0, .int .i64 mr, .slice ga1 n1 gc1, .int .i64 ms, .slice ga2 n2 gc2] 50))) ⟨w4.heap.size, 0, none⟩ 1 1 [.slice ga0 n0 gc0, .int .i64 mr, .slice ga1 n1 gc1, .int .i64 ms, .slice ga2 n2 gc2] (by rfl) (by rfl) (World.news_of_block (cs := #[.slice ga0 n0 gc0, .int .i64 mr, .slice ga1 n1 gc1, .int .i64 ms, .slice ga2 n2 gc2]) (t := 50) (fr := (0, 0)) (heap_alloc_new w4 _)) (by simp [Value.oneCell']) (by omega) (by unfold maxLen; omega) (by omega) (by have := HM4.out.lt; simp; omega) (w4.heap.size + 1) (by simp) ?_; intro gg cap5 w5 hown5 hgrow _ _; have HM5 := Lib.hid (HM4.out.app HW.out (HOV.out _ _ _ HM4.out) hgrow (by decide) (by decide)); have HN5 := Lib.hid hown5; obtain ⟨q5, z5'⟩ := HO5.out _ _ _ _ HM5.out; clear hown5 hgrow))
                  all_goals
                    clear q q4 q4a
                    go_wp2_with fail
                    obtain ⟨A', hA'⟩ := meth_step3 HM4.out HM5.out HW.out HN0.out HN1.out HN2.out HMR.out HMS.out HR0.out HR1.out HR2.out HN5.out
                    exact ⟨⟨i + 1, A', by omega, by go_num, Lib.hid (Or.inl ⟨firE_succ H1.out HX.out, hA'⟩)⟩, by simp [intOf]; omega⟩
              · obtain rfl : nm = i := by omega
                have HE8 := H1
                have HP7 := H2
                clear H1 H2 hi
                obtain ⟨ed, hed⟩ : ∃ e, mS S.d (m0 S.d + 1) nm = e := ⟨_, rfl⟩
                have HED := Lib.hid hed
                rw [hed] at HP7
                have HPre : Hid (preE S.n S.d = none) := Lib.hid (by unfold preE; rw [or_none HE1.out, or_none HE2.out, HNP.out, or_none HE3.out, or_none HE4.out, HNC.out, or_none HE5.out, or_none (show nxE S.n S.d 2 (leB 100) (m0 S.d) = none by rw [HF0.out]; exact HE6.out), or_none (show noneE S.d (m0 S.d) = none by rw [HF0.out]; exact HE7.out), show S.d (m0 S.d) = nm by rw [HF0.out]; exact HNM.out, HE8.out])
                have HE : Hid (prsE S.n S.d = (if ed < S.n then some (ed, 5) else none : Option (Nat × Int)).or (argE S.n S.d)) := Lib.hid (by rw [prsE_pre, or_none HPre.out]; unfold endP; rw [show S.d (m0 S.d) = nm by rw [HF0.out]; exact HNM.out, hed])
                clear hed
                have r1 := (r2_y HP7.out.rd).2.1
                by_cases hend : ed < S.n
                · have d1 : decide ((ed : Int) < (S.n : Int)) = true := decide_eq_true (by omega)
                  go_wp2_with fail
                  clear d1 r1 r2
                  refine (failx_c S ed ed 5 (by decide) _ (Lib.hid HP7.out.rd) 0).mono ?_
                  rintro e wf ⟨rfl, hr, hg⟩
                  have HB := Lib.hid (HP7.out.bad hr hg)
                  have HT : Hid (prsE S.n S.d = some (ed, 5)) := Lib.hid (by rw [HE.out]; exact or_some (if_pos hend))
                  clear hr hg HP7
                  obtain ⟨pz, hpz⟩ : ∃ x, ed = x := ⟨_, rfl⟩
                  obtain ⟨er, her⟩ : ∃ x : Int, 5 = x := ⟨_, rfl⟩
                  rw [hpz, her] at HB HT
                  clear hpz her
                  obtain ⟨r2, d2, d3, r3⟩ := r2_n HB.out.1
                  have HPQ : Hid (PQ w (prs S.d) noAd False z3 wf) := Lib.hid ⟨HB.out.2, (by have h9 := bw_below HB.out.1.b HRW.out; rw [HWE.out] at h9; exact h9), fun h => h.elim⟩
                  obtain ⟨x0, z0⟩ := HPQ.out.y 0 _ rfl
                  obtain ⟨x1, z1⟩ := HPQ.out.y 1 _ rfl
                  obtain ⟨x2, z2⟩ := HPQ.out.y 2 _ rfl
                  go_wp2
                  go_region
                  all_goals
                    clear x0 x1 x2 z0 z1 z2 r2 r3 d2 d3
                    go_wp2
                    replace HPQ := Lib.hid (HPQ.out.set 0 (.slice none 0 0) rfl)
                    generalize wf.setCell ⟨w.heap.size, 0, none⟩ (.slice none 0 0) = gw0 at HPQ ⊢
                    replace HPQ := Lib.hid (HPQ.out.set 1 (.slice none 0 0) rfl)
                    generalize gw0.setCell ⟨w.heap.size, 1, none⟩ (.slice none 0 0) = gw1 at HPQ ⊢
                    replace HPQ := Lib.hid (HPQ.out.set 2 (.slice none 0 0) rfl)
                    generalize gw1.setCell ⟨w.heap.size, 2, none⟩ (.slice none 0 0) = gw2 at HPQ ⊢
                    replace HPQ := Lib.hid HPQ.out.drew
                    generalize gw2.drew = gw3 at HPQ ⊢
                    have fa0 : gw3.cell? ⟨w.heap.size, 0, none⟩ = some (.slice none 0 0) := (HPQ.out.y 0 _ rfl).1
                    have fa1 : gw3.cell? ⟨w.heap.size, 1, none⟩ = some (.slice none 0 0) := (HPQ.out.y 1 _ rfl).1
                    have fa2 : gw3.cell? ⟨w.heap.size, 2, none⟩ = some (.slice none 0 0) := (HPQ.out.y 2 _ rfl).1
                    have HFin : Hid (ParseX w S.n S.d (.returned (.tuple #[.agg #[.slice none 0 0, .slice none 0 0, .slice none 0 0], .int .i64 pz, .int .i64 er])) gw3) := Lib.hid (ParseX.bad HT.out HPQ.out.b)
                    exact bodyPost_ret (v := .tuple #[.agg #[.slice none 0 0, .slice none 0 0, .slice none 0 0], .int .i64 pz, .int .i64 er]) (by simp [results, Try.results19, go_sem, fa0, fa1, fa2]) rfl HFin.out
                have d1 : decide ((ed : Int) < (S.n : Int)) = false := decide_eq_false (by omega)
                have HEB : Hid (prsE S.n S.d = argE S.n S.d) := Lib.hid (by rw [HE.out]; exact or_none (if_neg hend))
                obtain ⟨y0, _⟩ := HP7.out.y 0 (.slice A.pa np A.pc) rfl
                obtain ⟨y1, _⟩ := HP7.out.y 1 (.slice A.ca nc A.cc) rfl
                obtain ⟨y2, _⟩ := HP7.out.y 2 (.slice A.ma nm A.mc) rfl
                obtain ⟨b, hb0⟩ : ∃ b, decide ((prs S.d).pn 0 = 0 ∧ (prs S.d).rt 0 = 0) = b := ⟨_, rfl⟩
                have HAE : Hid (argE S.n S.d = if b = true then none else some (S.n, 1)) := Lib.hid (by rw [← hb0]; exact argE_eq S.n S.d)
                obtain ⟨ck, hck⟩ : ∃ c : Int, c = if b = true then 0 else 1 := ⟨_, rfl⟩
                have HPR : Hid ({ prs S.d with np := np, nc := nc, nm := nm } = prs S.d) := Lib.hid (by rw [← HNP.out, ← HNC.out, ← HNM.out, ← HF0.out]; rfl)
                have HRc : Hid (∀ W, PgAt W { prs S.d with np := np, nc := nc, nm := nm } A → Calls Try.prog 17 #[.agg #[.slice A.pa np A.pc, .slice A.ca nc A.cc, .slice A.ma nm A.mc]] W fun e w' => e = .returned (.int .i64 ck) ∧ Below W.heap.size W w') := Lib.hid fun W hW => by
                  have h9 := refcheck_c { prs S.d with np := np, nc := nc, nm := nm } A W hW (by rw [HPR.out]; exact pre_fits HPre.out HO.out.d A)
                  rw [show ({ prs S.d with np := np, nc := nc, nm := nm } : Pg).chk = ck by rw [HPR.out, pre_chk HPre.out, hb0]; exact hck.symm] at h9
                  exact h9
                have HCK := Lib.hid hck
                clear hb0 hck
                go_wp2_with fail
                clear d1 r1
                refine (HRc.out _ HP7.out.own.at).mono ?_
                rintro e w5 ⟨rfl, hb5⟩
                have HP8 := Lib.hid (HP7.out.below hb5)
                clear hb5 y0 y1 y2 r2 HP7
                cases b with
                | false =>
                  obtain rfl : ck = 1 := HCK.out.trans rfl
                  go_wp2_with fail
                  refine (failx_c S ed S.n 1 (by decide) _ (Lib.hid HP8.out.rd) 0).mono ?_
                  rintro e wf ⟨rfl, hr, hg⟩
                  have HB := Lib.hid (HP8.out.bad hr hg)
                  have HT : Hid (prsE S.n S.d = some (S.n, 1)) := Lib.hid (by rw [HEB.out, HAE.out]; rfl)
                  clear hr hg HP8
                  obtain ⟨pz, hpz⟩ : ∃ x, S.n = x := ⟨_, rfl⟩
                  obtain ⟨er, her⟩ : ∃ x : Int, 1 = x := ⟨_, rfl⟩
                  replace HB : Hid (HBt S w pz er wf) := Lib.hid (by rw [← hpz, ← her]; exact HB.out)
                  replace HT : Hid (prsE S.n S.d = some (pz, er)) := Lib.hid (by rw [HT.out, hpz, her])
                  clear hpz her
                  obtain ⟨r2, d2, d3, r3⟩ := r2_n HB.out.1
                  have HPQ : Hid (PQ w (prs S.d) noAd False z3 wf) := Lib.hid ⟨HB.out.2, (by have h9 := bw_below HB.out.1.b HRW.out; rw [HWE.out] at h9; exact h9), fun h => h.elim⟩
                  obtain ⟨x0, z0⟩ := HPQ.out.y 0 _ rfl
                  obtain ⟨x1, z1⟩ := HPQ.out.y 1 _ rfl
                  obtain ⟨x2, z2⟩ := HPQ.out.y 2 _ rfl
                  go_wp2
                  go_region
                  all_goals
                    clear x0 x1 x2 z0 z1 z2 r2 r3 d2 d3
                    go_wp2
                    replace HPQ := Lib.hid (HPQ.out.set 0 (.slice none 0 0) rfl)
                    generalize wf.setCell ⟨w.heap.size, 0, none⟩ (.slice none 0 0) = gw0 at HPQ ⊢
                    replace HPQ := Lib.hid (HPQ.out.set 1 (.slice none 0 0) rfl)
                    generalize gw0.setCell ⟨w.heap.size, 1, none⟩ (.slice none 0 0) = gw1 at HPQ ⊢
                    replace HPQ := Lib.hid (HPQ.out.set 2 (.slice none 0 0) rfl)
                    generalize gw1.setCell ⟨w.heap.size, 2, none⟩ (.slice none 0 0) = gw2 at HPQ ⊢
                    replace HPQ := Lib.hid HPQ.out.drew
                    generalize gw2.drew = gw3 at HPQ ⊢
                    have fa0 : gw3.cell? ⟨w.heap.size, 0, none⟩ = some (.slice none 0 0) := (HPQ.out.y 0 _ rfl).1
                    have fa1 : gw3.cell? ⟨w.heap.size, 1, none⟩ = some (.slice none 0 0) := (HPQ.out.y 1 _ rfl).1
                    have fa2 : gw3.cell? ⟨w.heap.size, 2, none⟩ = some (.slice none 0 0) := (HPQ.out.y 2 _ rfl).1
                    have HFin : Hid (ParseX w S.n S.d (.returned (.tuple #[.agg #[.slice none 0 0, .slice none 0 0, .slice none 0 0], .int .i64 pz, .int .i64 er])) gw3) := Lib.hid (ParseX.bad HT.out HPQ.out.b)
                    exact bodyPost_ret (v := .tuple #[.agg #[.slice none 0 0, .slice none 0 0, .slice none 0 0], .int .i64 pz, .int .i64 er]) (by simp [results, Try.results19, go_sem, fa0, fa1, fa2]) rfl HFin.out
                | true =>
                  obtain rfl : ck = 0 := HCK.out.trans rfl
                  have HX0 : Hid (prsE S.n S.d = none) := Lib.hid (by rw [HEB.out, HAE.out]; rfl)
                  have r2 := (r2_y HP8.out.rd).2.2.1
                  obtain ⟨y0, _⟩ := HP8.out.y 0 (.slice A.pa np A.pc) rfl
                  obtain ⟨y1, _⟩ := HP8.out.y 1 (.slice A.ca nc A.cc) rfl
                  obtain ⟨y2, _⟩ := HP8.out.y 2 (.slice A.ma nm A.mc) rfl
                  have HPQ : Hid (PQ w (prs S.d) A True z3 w5) := Lib.hid ⟨HP8.out.res, (by have h9 := bw_below HP8.out.rd.b HRW.out; rw [HWE.out] at h9; exact h9), fun _ => (by have h9 := HP8.out.own; rw [HPR.out] at h9; exact h9.mono (by omega))⟩
                  obtain ⟨x0, z0⟩ := HPQ.out.y 0 _ rfl
                  obtain ⟨x1, z1⟩ := HPQ.out.y 1 _ rfl
                  obtain ⟨x2, z2⟩ := HPQ.out.y 2 _ rfl
                  go_wp2
                  clear x0 x1 x2 z0 z1 z2 y0 y1 y2 r2
                  replace HPQ := Lib.hid (HPQ.out.set 0 (.slice A.pa np A.pc) rfl)
                  generalize w5.setCell ⟨w.heap.size, 0, none⟩ (.slice A.pa np A.pc) = e0 at HPQ ⊢
                  replace HPQ := Lib.hid (HPQ.out.set 1 (.slice A.ca nc A.cc) rfl)
                  generalize e0.setCell ⟨w.heap.size, 1, none⟩ (.slice A.ca nc A.cc) = e1 at HPQ ⊢
                  replace HPQ := Lib.hid (HPQ.out.set 2 (.slice A.ma nm A.mc) rfl)
                  generalize e1.setCell ⟨w.heap.size, 2, none⟩ (.slice A.ma nm A.mc) = e2 at HPQ ⊢
                  have x0 : e2.cell? ⟨w.heap.size, 0, none⟩ = some (.slice A.pa np A.pc) := (HPQ.out.y 0 _ rfl).1
                  have x1 : e2.cell? ⟨w.heap.size, 1, none⟩ = some (.slice A.ca nc A.cc) := (HPQ.out.y 1 _ rfl).1
                  have x2 : e2.cell? ⟨w.heap.size, 2, none⟩ = some (.slice A.ma nm A.mc) := (HPQ.out.y 2 _ rfl).1
                  have HFin : Hid (ParseX w S.n S.d (.returned (.tuple #[.agg #[.slice A.pa np A.pc, .slice A.ca nc A.cc, .slice A.ma nm A.mc], .int .i64 0, .int .i64 0])) e2) := Lib.hid (by
                    have h9 := ParseX.ok HX0.out (HPQ.out.o trivial) HPQ.out.b
                    rw [← HPR.out] at h9
                    rw [HPR.out] at h9
                    have h8 : ((prs S.d).cells A) = #[.slice A.pa np A.pc, .slice A.ca nc A.cc, .slice A.ma nm A.mc] := by rw [← HPR.out]; rfl
                    rw [h8] at h9
                    exact h9)
                  exact bodyPost_ret (v := .tuple #[.agg #[.slice A.pa np A.pc, .slice A.ca nc A.cc, .slice A.ma nm A.mc], .int .i64 0, .int .i64 0]) (by simp [results, Try.results19, go_sem, x0, x1, x2]) rfl HFin.out
end Go.Proofs.Ytpiafgmncfibmaa
