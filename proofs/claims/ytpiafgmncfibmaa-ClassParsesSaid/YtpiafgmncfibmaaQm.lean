import Derived.Laws.BitsLemmas
import Derived.IntWalk
import Derived.Laws.BitsAllLaws
import Derived.Deep.DrawnRows
import Derived.Deep.RegionLaw
import Derived.Test.YtpiafgmncfibmaaQb
import Derived.Test.YtpiafgmncfibmaaRows
import Derived.WalkKit
import Derived.ProofKit
import Derived.OpenShut
import Derived.Deep.QuietTactic
import Derived.BigQuiet
import Derived.Outline
import Derived.WalkSmall
import Derived.WalkLawsBesides
import Derived.WalkSpells
import Derived.BigGuardPart
import Derived.RegionTactic
import Derived.Deep.RegionHeld3
import Derived.Lib.Hide
import Derived.Deep.MidRow
import Derived.Below
import Derived.Deep.RegionWith
import Derived.Deep.OwnRows
import Derived.Deep.AppendLies
import Derived.Deep.RegionLaw
namespace Go.Proofs.Ytpiafgmncfibmaa
open Go.ChangeShapes Go.WideShapes Go.ChangeAt Go.RowKit
set_option linter.unusedVariables false

theorem methE_q (n : Nat) (d : Nat → Nat) (k q l p : Nat) (hq : k + 1 + d k = q) (hl : d (q + 1) = l) (hp : q + 3 + l = p) : methE n d k =
  (nxE n d 0 anyB k).or ((tysE n d (k + 1) (d k)).or ((nxE n d 5 rtB q).or ((nxE n d 2 (leB (40 - (d k : Int))) (q + 1)).or
  ((tysE n d (q + 2) l).or ((nxE n d 2 (leB 40) (q + 2 + l)).or ((nxE n d 0 anyB p).or ((nxE n d 0 anyB (p + 1)).or
  ((sizE p (d p + 256 * d (p + 1))).or (firE (fun i => nxE n d 0 anyB (p + 2 + i)) (d p + 256 * d (p + 1))))))))))) := by
  have e2 : k + 2 + d k = q + 1 := by omega
  have e3 : k + 3 + d k = q + 2 := by omega
  have e4 : k + 4 + d k + l = p := by omega
  have e5 : k + 5 + d k + l = p + 1 := by omega
  have e6 : k + 6 + d k + l = p + 2 := by omega
  have em : mSz d k = d p + 256 * d (p + 1) := by unfold mSz; rw [e2, hl, e4, e5]
  unfold methE
  rw [em, e2, hl, hq, e3, e4, e5, e6]
theorem rb_n {d : Nat → Nat} {q r : Nat} (h : d q = r) (hr : ¬ r ≤ 2) : rtB (d q) = false := by
  unfold rtB isRB isTB; rw [h]; simp; omega
theorem rb_y {d : Nat → Nat} {q r : Nat} (h : d q = r) (hr : r ≤ 2) : rtB (d q) = true := by
  unfold rtB isRB isTB; rw [h]; simp; omega
theorem nx_any_some {n : Nat} {d : Nat → Nat} {k : Nat} {pe : Nat × Int} (h : nxE n d 0 anyB k = some pe) (er : Int) (ok : Nat → Bool) : nxE n d er ok k = some pe := by
  by_cases hk : k < n
  · rw [nxE_ok hk rfl] at h; cases h
  · rw [nxE_short (by omega)] at h ⊢; exact h
theorem r2_n1 {S : Src} {k p : Nat} {er : Int} {V : World} (h : R2 S (some (p, er)) k V) : ∃ k' : Int, V.cell? ⟨S.R, 1, none⟩ = some (.int .i64 k') := by
  obtain ⟨h1, k', h2⟩ := h.r
  exact ⟨k', h2.cell 1⟩
set_option maxRecDepth 100000 in
set_option maxHeartbeats 3000000 in
theorem mthx_c (S : Src) (HO : Hid (SrcOk S)) (k : Nat) (w : World) (HR : Hid (R2 S none k w)) : Calls Try.prog 49 #[.pointer (some ⟨S.R, 0, none⟩)] w (MthR S k w) := by
  have HW := Lib.hid HR.out.b.size
  have hSn : S.n ≤ 140737488355328 := HO.out.n
  have hRl := HR.out.lt
  have hRn1 : ¬ S.R = w.heap.size + 1 := by omega
  have hRn2 : ¬ w.heap.size + 1 = S.R := by omega
  obtain ⟨q, hq⟩ : ∃ q, k + 1 + S.d k = q := ⟨_, rfl⟩
  obtain ⟨l, hl⟩ : ∃ l, S.d (q + 1) = l := ⟨_, rfl⟩
  obtain ⟨p, hp⟩ : ∃ p, q + 3 + l = p := ⟨_, rfl⟩
  obtain ⟨u, hu⟩ : ∃ u, S.d k = u := ⟨_, rfl⟩
  obtain ⟨rt, hrt⟩ : ∃ r, S.d q = r := ⟨_, rfl⟩
  obtain ⟨sk, hsk⟩ : ∃ r, S.d (q + 2 + l) = r := ⟨_, rfl⟩
  obtain ⟨xa, hxa⟩ : ∃ r, S.d p = r := ⟨_, rfl⟩
  obtain ⟨xb, hxb⟩ : ∃ r, S.d (p + 1) = r := ⟨_, rfl⟩
  obtain ⟨sz, hsz⟩ : ∃ r, xa + 256 * xb = r := ⟨_, rfl⟩
  have HE := Lib.hid (methE_q S.n S.d k q l p hq hl hp)
  rw [hxa, hxb, hsz, hu] at HE
  have HU := Lib.hid hu
  have HRT := Lib.hid hrt
  have HSK := Lib.hid hsk
  have HXA := Lib.hid hxa
  have HXB := Lib.hid hxb
  have HLL := Lib.hid hl
  have HSZ := Lib.hid hsz
  have HQ0 : Hid (k + 1 + u = q) := Lib.hid (by rw [← hu]; exact hq)
  have HP0 := Lib.hid hp
  clear hu hrt hsk hxa hxb hl hq hsz hp
  go_enter Try.func49, Try.ntmps49
  go_wp2_with fail
  have HM : Hid (MB2 S w none k z5 ((w.alloc (.cells z5 50)).alloc (.cells z5 50))) := Lib.hid (.new HR.out)
  generalize hV0 : ((w.alloc (.cells #[.slice none 0 0, .int .i64 0, .slice none 0 0, .int .i64 0, .slice none 0 0] 50)).alloc (.cells #[.slice none 0 0, .int .i64 0, .slice none 0 0, .int .i64 0, .slice none 0 0] 50)) = V0
  replace HM : Hid (MB2 S w none k z5 V0) := Lib.hid (hV0 ▸ HM.out)
  have HN : Hid (MO w nilV 0 [] nilV 0 [] nilV 0 [] V0) := Lib.hid (.new _ _)
  clear hV0
  refine (onex_c S HO none k _ (Lib.hid HM.out.rd)).mono ?_
  intro e V1 h
  rcases one_ok h with ⟨h1, hd0, rfl, hr, hg⟩ | ⟨pz, er, hx, rfl, hr, hg⟩
  rotate_left
  · replace HM := Lib.hid (HM.out.call hr hg)
    clear hr hg h
    have HT : Hid (methE S.n S.d k = some (pz, er)) := Lib.hid (by rw [HE.out, or_some hx.out])
    clear HN
    obtain ⟨r2, d2, _, _⟩ := r2_n HM.out.rd
    go_wp2_with fail
    clear r2 d2
    refine (tysx_c S HO (some (pz, er)) 0 (by omega) 0 _ (Lib.hid HM.out.rd)).mono ?_
    intro e W1 h
    obtain ⟨ta, tm, tc, rfl, hr, hg⟩ := tys_bad h
    replace HM := Lib.hid (HM.out.call hr hg)
    clear hr hg h
    obtain ⟨r2, d2, _, _⟩ := r2_n HM.out.rd
    obtain ⟨y, z⟩ := HM.out.y 0 _ rfl
    go_wp2_with fail
    replace HM := Lib.hid (HM.out.set HW.out 0 (.slice ta tm tc) rfl)
    generalize W1.setCell ⟨w.heap.size + 1, 0, none⟩ (.slice ta tm tc) = W1s at HM ⊢
    clear y z
    clear r2 d2
    refine (onex_c S HO (some (pz, er)) 0 _ (Lib.hid HM.out.rd)).mono ?_
    intro e W2 h
    obtain ⟨rfl, hr, hg⟩ := one_bad h
    replace HM := Lib.hid (HM.out.call hr hg)
    clear hr hg h
    obtain ⟨r2, d2, _, _⟩ := r2_n HM.out.rd
    obtain ⟨y, z⟩ := HM.out.y 1 _ rfl
    go_wp2_with fail
    replace HM := Lib.hid (HM.out.set HW.out 1 (.int .i64 0) rfl)
    generalize W2.setCell ⟨w.heap.size + 1, 1, none⟩ (.int .i64 0) = W2s at HM ⊢
    clear y z
    clear r2 d2
    refine (onex_c S HO (some (pz, er)) 0 _ (Lib.hid HM.out.rd)).mono ?_
    intro e W3 h
    obtain ⟨rfl, hr, hg⟩ := one_bad h
    replace HM := Lib.hid (HM.out.call hr hg)
    clear hr hg h
    obtain ⟨r2, d2, _, _⟩ := r2_n HM.out.rd
    go_wp2_with fail
    clear r2 d2
    refine (tysx_c S HO (some (pz, er)) 0 (by omega) 0 _ (Lib.hid HM.out.rd)).mono ?_
    intro e W4 h
    obtain ⟨tb, tn, td, rfl, hr, hg⟩ := tys_bad h
    replace HM := Lib.hid (HM.out.call hr hg)
    clear hr hg h
    obtain ⟨r2, d2, _, _⟩ := r2_n HM.out.rd
    obtain ⟨y, z⟩ := HM.out.y 2 _ rfl
    go_wp2_with fail
    replace HM := Lib.hid (HM.out.set HW.out 2 (.slice tb tn td) rfl)
    generalize W4.setCell ⟨w.heap.size + 1, 2, none⟩ (.slice tb tn td) = W4s at HM ⊢
    clear y z
    clear r2 d2
    refine (cntx_c S HO 40 (by decide) (by decide) (some (pz, er)) 0 _ (Lib.hid HM.out.rd)).mono ?_
    intro e W5 h
    obtain ⟨cv, _, rfl, hr, hg⟩ := cnt_bad h
    replace HM := Lib.hid (HM.out.call hr hg)
    clear hr hg h
    obtain ⟨ka, r1⟩ := r2_n1 HM.out.rd
    obtain ⟨r2, d2, _, _⟩ := r2_n HM.out.rd
    obtain ⟨y, z⟩ := HM.out.y 3 _ rfl
    go_wp2_with fail
    replace HM := Lib.hid (HM.out.set HW.out 3 (.int .i64 (cv : Nat)) rfl)
    generalize W5.setCell ⟨w.heap.size + 1, 3, none⟩ (.int .i64 (cv : Nat)) = W5s at HM ⊢
    clear y z
    clear r2 d2
    clear r1
    refine (onex_c S HO (some (pz, er)) 0 _ (Lib.hid HM.out.rd)).mono ?_
    intro e W6 h
    obtain ⟨rfl, hr, hg⟩ := one_bad h
    replace HM := Lib.hid (HM.out.call hr hg)
    clear hr hg h
    obtain ⟨r2, d2, _, _⟩ := r2_n HM.out.rd
    go_wp2_with fail
    clear r2 d2
    refine (onex_c S HO (some (pz, er)) 0 _ (Lib.hid HM.out.rd)).mono ?_
    intro e W7 h
    obtain ⟨rfl, hr, hg⟩ := one_bad h
    replace HM := Lib.hid (HM.out.call hr hg)
    clear hr hg h
    obtain ⟨r2, d2, _, _⟩ := r2_n HM.out.rd
    go_wp2_with fail
    clear d2 r2
    have HF : Hid (MF2 S w (some (pz, er)) 0 z5 W7) := Lib.hid ⟨HM.out.rd, HM.out.res, HM.out.gr⟩
    obtain ⟨y0, _⟩ := HM.out.y 0 (.slice ta tm tc) rfl
    obtain ⟨u0, t0⟩ := HF.out.y 0 _ rfl
    obtain ⟨y1, _⟩ := HM.out.y 1 (.int .i64 0) rfl
    obtain ⟨u1, t1⟩ := HF.out.y 1 _ rfl
    obtain ⟨y2, _⟩ := HM.out.y 2 (.slice tb tn td) rfl
    obtain ⟨u2, t2⟩ := HF.out.y 2 _ rfl
    obtain ⟨y3, _⟩ := HM.out.y 3 (.int .i64 (cv : Nat)) rfl
    obtain ⟨u3, t3⟩ := HF.out.y 3 _ rfl
    obtain ⟨y4, _⟩ := HM.out.y 4 (.slice none 0 0) rfl
    obtain ⟨u4, t4⟩ := HF.out.y 4 _ rfl
    obtain ⟨r2, d2, _, _⟩ := r2_n HM.out.rd
    refine wp_loop_rounds 1 ?_
    rw [rounds_succ]
    go_wp2
    clear y0 y1 y2 y3 y4 u0 u1 u2 u3 u4 t0 t1 t2 t3 t4 r2 d2
    replace HF := Lib.hid (HF.out.set HW.out 0 (.slice ta tm tc) rfl)
    generalize W7.setCell ⟨w.heap.size, 0, none⟩ (.slice ta tm tc) = fw0 at HF ⊢
    replace HF := Lib.hid (HF.out.set HW.out 1 (.int .i64 0) rfl)
    generalize fw0.setCell ⟨w.heap.size, 1, none⟩ (.int .i64 0) = fw1 at HF ⊢
    replace HF := Lib.hid (HF.out.set HW.out 2 (.slice tb tn td) rfl)
    generalize fw1.setCell ⟨w.heap.size, 2, none⟩ (.slice tb tn td) = fw2 at HF ⊢
    replace HF := Lib.hid (HF.out.set HW.out 3 (.int .i64 (cv : Nat)) rfl)
    generalize fw2.setCell ⟨w.heap.size, 3, none⟩ (.int .i64 (cv : Nat)) = fw3 at HF ⊢
    replace HF := Lib.hid (HF.out.set HW.out 4 (.slice none 0 0) rfl)
    generalize fw3.setCell ⟨w.heap.size, 4, none⟩ (.slice none 0 0) = fw4 at HF ⊢
    have fa0 : fw4.cell? ⟨w.heap.size, 0, none⟩ = some (.slice ta tm tc) := (HF.out.y 0 _ rfl).1
    have fa1 : fw4.cell? ⟨w.heap.size, 1, none⟩ = some (.int .i64 0) := (HF.out.y 1 _ rfl).1
    have fa2 : fw4.cell? ⟨w.heap.size, 2, none⟩ = some (.slice tb tn td) := (HF.out.y 2 _ rfl).1
    have fa3 : fw4.cell? ⟨w.heap.size, 3, none⟩ = some (.int .i64 (cv : Nat)) := (HF.out.y 3 _ rfl).1
    have fa4 : fw4.cell? ⟨w.heap.size, 4, none⟩ = some (.slice none 0 0) := (HF.out.y 4 _ rfl).1
    have HEnd : Hid (MthR S k w (.returned (.agg #[.slice ta tm tc, .int .i64 0, .slice tb tn td, .int .i64 (cv : Nat), .slice none 0 0])) fw4) := Lib.hid (Or.inr ⟨pz, er, HT.out, _, _, _, _, _, _, _, _, _, _, _, rfl, HF.out.rd, HF.out.gr⟩)
    exact bodyPost_ret (v := .agg #[.slice ta tm tc, .int .i64 0, .slice tb tn td, .int .i64 (cv : Nat), .slice none 0 0]) (by simp [results, Try.results49, go_sem, fa0, fa1, fa2, fa3, fa4]) rfl HEnd.out
  rw [HU.out] at hd0 ⊢
  replace HN := Lib.hid (HN.out.call2 HM.out.rd hg)
  replace HM := Lib.hid (HM.out.call hr hg)
  clear hr hg h
  go_wp2_with fail
  refine (tysx_c S HO none u (by omega) (k + 1) _ (Lib.hid HM.out.rd)).mono ?_
  intro e V2 h
  rcases tys_ok h with ⟨h2, a0, f0, rfl, ho, hr, hg⟩ | ⟨pz, er, ta, tm, tc, hx, rfl, hr, hg⟩
  rotate_left
  · replace HM := Lib.hid (HM.out.call hr hg)
    clear hr hg h
    have HT : Hid (methE S.n S.d k = some (pz, er)) := Lib.hid (by rw [HE.out, or_none h1.out, or_some hx.out])
    clear HN
    obtain ⟨r2, d2, _, _⟩ := r2_n HM.out.rd
    obtain ⟨y, z⟩ := HM.out.y 0 _ rfl
    go_wp2_with fail
    replace HM := Lib.hid (HM.out.set HW.out 0 (.slice ta tm tc) rfl)
    generalize V2.setCell ⟨w.heap.size + 1, 0, none⟩ (.slice ta tm tc) = V2s at HM ⊢
    clear y z
    clear r2 d2
    refine (onex_c S HO (some (pz, er)) 0 _ (Lib.hid HM.out.rd)).mono ?_
    intro e W8 h
    obtain ⟨rfl, hr, hg⟩ := one_bad h
    replace HM := Lib.hid (HM.out.call hr hg)
    clear hr hg h
    obtain ⟨r2, d2, _, _⟩ := r2_n HM.out.rd
    obtain ⟨y, z⟩ := HM.out.y 1 _ rfl
    go_wp2_with fail
    replace HM := Lib.hid (HM.out.set HW.out 1 (.int .i64 0) rfl)
    generalize W8.setCell ⟨w.heap.size + 1, 1, none⟩ (.int .i64 0) = W8s at HM ⊢
    clear y z
    clear r2 d2
    refine (onex_c S HO (some (pz, er)) 0 _ (Lib.hid HM.out.rd)).mono ?_
    intro e W9 h
    obtain ⟨rfl, hr, hg⟩ := one_bad h
    replace HM := Lib.hid (HM.out.call hr hg)
    clear hr hg h
    obtain ⟨r2, d2, _, _⟩ := r2_n HM.out.rd
    go_wp2_with fail
    clear r2 d2
    refine (tysx_c S HO (some (pz, er)) 0 (by omega) 0 _ (Lib.hid HM.out.rd)).mono ?_
    intro e W10 h
    obtain ⟨tb, tn, td, rfl, hr, hg⟩ := tys_bad h
    replace HM := Lib.hid (HM.out.call hr hg)
    clear hr hg h
    obtain ⟨r2, d2, _, _⟩ := r2_n HM.out.rd
    obtain ⟨y, z⟩ := HM.out.y 2 _ rfl
    go_wp2_with fail
    replace HM := Lib.hid (HM.out.set HW.out 2 (.slice tb tn td) rfl)
    generalize W10.setCell ⟨w.heap.size + 1, 2, none⟩ (.slice tb tn td) = W10s at HM ⊢
    clear y z
    clear r2 d2
    refine (cntx_c S HO 40 (by decide) (by decide) (some (pz, er)) 0 _ (Lib.hid HM.out.rd)).mono ?_
    intro e W11 h
    obtain ⟨cv, _, rfl, hr, hg⟩ := cnt_bad h
    replace HM := Lib.hid (HM.out.call hr hg)
    clear hr hg h
    obtain ⟨ka, r1⟩ := r2_n1 HM.out.rd
    obtain ⟨r2, d2, _, _⟩ := r2_n HM.out.rd
    obtain ⟨y, z⟩ := HM.out.y 3 _ rfl
    go_wp2_with fail
    replace HM := Lib.hid (HM.out.set HW.out 3 (.int .i64 (cv : Nat)) rfl)
    generalize W11.setCell ⟨w.heap.size + 1, 3, none⟩ (.int .i64 (cv : Nat)) = W11s at HM ⊢
    clear y z
    clear r2 d2
    clear r1
    refine (onex_c S HO (some (pz, er)) 0 _ (Lib.hid HM.out.rd)).mono ?_
    intro e W12 h
    obtain ⟨rfl, hr, hg⟩ := one_bad h
    replace HM := Lib.hid (HM.out.call hr hg)
    clear hr hg h
    obtain ⟨r2, d2, _, _⟩ := r2_n HM.out.rd
    go_wp2_with fail
    clear r2 d2
    refine (onex_c S HO (some (pz, er)) 0 _ (Lib.hid HM.out.rd)).mono ?_
    intro e W13 h
    obtain ⟨rfl, hr, hg⟩ := one_bad h
    replace HM := Lib.hid (HM.out.call hr hg)
    clear hr hg h
    obtain ⟨r2, d2, _, _⟩ := r2_n HM.out.rd
    go_wp2_with fail
    clear d2 r2
    have HF : Hid (MF2 S w (some (pz, er)) 0 z5 W13) := Lib.hid ⟨HM.out.rd, HM.out.res, HM.out.gr⟩
    obtain ⟨y0, _⟩ := HM.out.y 0 (.slice ta tm tc) rfl
    obtain ⟨u0, t0⟩ := HF.out.y 0 _ rfl
    obtain ⟨y1, _⟩ := HM.out.y 1 (.int .i64 0) rfl
    obtain ⟨u1, t1⟩ := HF.out.y 1 _ rfl
    obtain ⟨y2, _⟩ := HM.out.y 2 (.slice tb tn td) rfl
    obtain ⟨u2, t2⟩ := HF.out.y 2 _ rfl
    obtain ⟨y3, _⟩ := HM.out.y 3 (.int .i64 (cv : Nat)) rfl
    obtain ⟨u3, t3⟩ := HF.out.y 3 _ rfl
    obtain ⟨y4, _⟩ := HM.out.y 4 (.slice none 0 0) rfl
    obtain ⟨u4, t4⟩ := HF.out.y 4 _ rfl
    obtain ⟨r2, d2, _, _⟩ := r2_n HM.out.rd
    refine wp_loop_rounds 1 ?_
    rw [rounds_succ]
    go_wp2
    clear y0 y1 y2 y3 y4 u0 u1 u2 u3 u4 t0 t1 t2 t3 t4 r2 d2
    replace HF := Lib.hid (HF.out.set HW.out 0 (.slice ta tm tc) rfl)
    generalize W13.setCell ⟨w.heap.size, 0, none⟩ (.slice ta tm tc) = fw0 at HF ⊢
    replace HF := Lib.hid (HF.out.set HW.out 1 (.int .i64 0) rfl)
    generalize fw0.setCell ⟨w.heap.size, 1, none⟩ (.int .i64 0) = fw1 at HF ⊢
    replace HF := Lib.hid (HF.out.set HW.out 2 (.slice tb tn td) rfl)
    generalize fw1.setCell ⟨w.heap.size, 2, none⟩ (.slice tb tn td) = fw2 at HF ⊢
    replace HF := Lib.hid (HF.out.set HW.out 3 (.int .i64 (cv : Nat)) rfl)
    generalize fw2.setCell ⟨w.heap.size, 3, none⟩ (.int .i64 (cv : Nat)) = fw3 at HF ⊢
    replace HF := Lib.hid (HF.out.set HW.out 4 (.slice none 0 0) rfl)
    generalize fw3.setCell ⟨w.heap.size, 4, none⟩ (.slice none 0 0) = fw4 at HF ⊢
    have fa0 : fw4.cell? ⟨w.heap.size, 0, none⟩ = some (.slice ta tm tc) := (HF.out.y 0 _ rfl).1
    have fa1 : fw4.cell? ⟨w.heap.size, 1, none⟩ = some (.int .i64 0) := (HF.out.y 1 _ rfl).1
    have fa2 : fw4.cell? ⟨w.heap.size, 2, none⟩ = some (.slice tb tn td) := (HF.out.y 2 _ rfl).1
    have fa3 : fw4.cell? ⟨w.heap.size, 3, none⟩ = some (.int .i64 (cv : Nat)) := (HF.out.y 3 _ rfl).1
    have fa4 : fw4.cell? ⟨w.heap.size, 4, none⟩ = some (.slice none 0 0) := (HF.out.y 4 _ rfl).1
    have HEnd : Hid (MthR S k w (.returned (.agg #[.slice ta tm tc, .int .i64 0, .slice tb tn td, .int .i64 (cv : Nat), .slice none 0 0])) fw4) := Lib.hid (Or.inr ⟨pz, er, HT.out, _, _, _, _, _, _, _, _, _, _, _, rfl, HF.out.rd, HF.out.gr⟩)
    exact bodyPost_ret (v := .agg #[.slice ta tm tc, .int .i64 0, .slice tb tn td, .int .i64 (cv : Nat), .slice none 0 0]) (by simp [results, Try.results49, go_sem, fa0, fa1, fa2, fa3, fa4]) rfl HEnd.out
  have HO0 := Lib.hid (own_mono ho HM.out.sz)
  replace HN := Lib.hid (HN.out.call2 HM.out.rd hg)
  replace HM := Lib.hid (HM.out.call (hr.at HQ0.out) hg)
  clear hr hg h ho
  obtain ⟨y, z⟩ := HM.out.y 0 _ rfl
  go_wp2_with fail
  replace HN := Lib.hid (MO.set2 ⟨HO0.out, HN.out.b, HN.out.c⟩ HM.out 0 (.slice a0 u f0))
  replace HM := Lib.hid (HM.out.set HW.out 0 (.slice a0 u f0) rfl)
  clear y z
  generalize V2.setCell ⟨w.heap.size + 1, 0, none⟩ (.slice a0 u f0) = V2s at HM HN ⊢
  refine (onex_c S HO none q _ (Lib.hid HM.out.rd)).mono ?_
  intro e V3 h
  rcases one_ok h with ⟨h3a, hd1, rfl, hr, hg⟩ | ⟨pz, er, hx, rfl, hr, hg⟩
  rotate_left
  · replace HM := Lib.hid (HM.out.call hr hg)
    clear hr hg h
    have HT : Hid (methE S.n S.d k = some (pz, er)) := Lib.hid (by rw [HE.out, or_none h1.out, or_none h2.out, or_some (nx_any_some hx.out 5 rtB)])
    clear HN
    obtain ⟨r2, d2, _, _⟩ := r2_n HM.out.rd
    obtain ⟨y, z⟩ := HM.out.y 1 _ rfl
    go_wp2_with fail
    replace HM := Lib.hid (HM.out.set HW.out 1 (.int .i64 0) rfl)
    generalize V3.setCell ⟨w.heap.size + 1, 1, none⟩ (.int .i64 0) = V3s at HM ⊢
    clear y z
    clear r2 d2
    refine (onex_c S HO (some (pz, er)) 0 _ (Lib.hid HM.out.rd)).mono ?_
    intro e W14 h
    obtain ⟨rfl, hr, hg⟩ := one_bad h
    replace HM := Lib.hid (HM.out.call hr hg)
    clear hr hg h
    obtain ⟨r2, d2, _, _⟩ := r2_n HM.out.rd
    go_wp2_with fail
    clear r2 d2
    refine (tysx_c S HO (some (pz, er)) 0 (by omega) 0 _ (Lib.hid HM.out.rd)).mono ?_
    intro e W15 h
    obtain ⟨tb, tn, td, rfl, hr, hg⟩ := tys_bad h
    replace HM := Lib.hid (HM.out.call hr hg)
    clear hr hg h
    obtain ⟨r2, d2, _, _⟩ := r2_n HM.out.rd
    obtain ⟨y, z⟩ := HM.out.y 2 _ rfl
    go_wp2_with fail
    replace HM := Lib.hid (HM.out.set HW.out 2 (.slice tb tn td) rfl)
    generalize W15.setCell ⟨w.heap.size + 1, 2, none⟩ (.slice tb tn td) = W15s at HM ⊢
    clear y z
    clear r2 d2
    refine (cntx_c S HO 40 (by decide) (by decide) (some (pz, er)) 0 _ (Lib.hid HM.out.rd)).mono ?_
    intro e W16 h
    obtain ⟨cv, _, rfl, hr, hg⟩ := cnt_bad h
    replace HM := Lib.hid (HM.out.call hr hg)
    clear hr hg h
    obtain ⟨ka, r1⟩ := r2_n1 HM.out.rd
    obtain ⟨r2, d2, _, _⟩ := r2_n HM.out.rd
    obtain ⟨y, z⟩ := HM.out.y 3 _ rfl
    go_wp2_with fail
    replace HM := Lib.hid (HM.out.set HW.out 3 (.int .i64 (cv : Nat)) rfl)
    generalize W16.setCell ⟨w.heap.size + 1, 3, none⟩ (.int .i64 (cv : Nat)) = W16s at HM ⊢
    clear y z
    clear r2 d2
    clear r1
    refine (onex_c S HO (some (pz, er)) 0 _ (Lib.hid HM.out.rd)).mono ?_
    intro e W17 h
    obtain ⟨rfl, hr, hg⟩ := one_bad h
    replace HM := Lib.hid (HM.out.call hr hg)
    clear hr hg h
    obtain ⟨r2, d2, _, _⟩ := r2_n HM.out.rd
    go_wp2_with fail
    clear r2 d2
    refine (onex_c S HO (some (pz, er)) 0 _ (Lib.hid HM.out.rd)).mono ?_
    intro e W18 h
    obtain ⟨rfl, hr, hg⟩ := one_bad h
    replace HM := Lib.hid (HM.out.call hr hg)
    clear hr hg h
    obtain ⟨r2, d2, _, _⟩ := r2_n HM.out.rd
    go_wp2_with fail
    clear d2 r2
    have HF : Hid (MF2 S w (some (pz, er)) 0 z5 W18) := Lib.hid ⟨HM.out.rd, HM.out.res, HM.out.gr⟩
    obtain ⟨y0, _⟩ := HM.out.y 0 (.slice a0 u f0) rfl
    obtain ⟨u0, t0⟩ := HF.out.y 0 _ rfl
    obtain ⟨y1, _⟩ := HM.out.y 1 (.int .i64 0) rfl
    obtain ⟨u1, t1⟩ := HF.out.y 1 _ rfl
    obtain ⟨y2, _⟩ := HM.out.y 2 (.slice tb tn td) rfl
    obtain ⟨u2, t2⟩ := HF.out.y 2 _ rfl
    obtain ⟨y3, _⟩ := HM.out.y 3 (.int .i64 (cv : Nat)) rfl
    obtain ⟨u3, t3⟩ := HF.out.y 3 _ rfl
    obtain ⟨y4, _⟩ := HM.out.y 4 (.slice none 0 0) rfl
    obtain ⟨u4, t4⟩ := HF.out.y 4 _ rfl
    obtain ⟨r2, d2, _, _⟩ := r2_n HM.out.rd
    refine wp_loop_rounds 1 ?_
    rw [rounds_succ]
    go_wp2
    clear y0 y1 y2 y3 y4 u0 u1 u2 u3 u4 t0 t1 t2 t3 t4 r2 d2
    replace HF := Lib.hid (HF.out.set HW.out 0 (.slice a0 u f0) rfl)
    generalize W18.setCell ⟨w.heap.size, 0, none⟩ (.slice a0 u f0) = fw0 at HF ⊢
    replace HF := Lib.hid (HF.out.set HW.out 1 (.int .i64 0) rfl)
    generalize fw0.setCell ⟨w.heap.size, 1, none⟩ (.int .i64 0) = fw1 at HF ⊢
    replace HF := Lib.hid (HF.out.set HW.out 2 (.slice tb tn td) rfl)
    generalize fw1.setCell ⟨w.heap.size, 2, none⟩ (.slice tb tn td) = fw2 at HF ⊢
    replace HF := Lib.hid (HF.out.set HW.out 3 (.int .i64 (cv : Nat)) rfl)
    generalize fw2.setCell ⟨w.heap.size, 3, none⟩ (.int .i64 (cv : Nat)) = fw3 at HF ⊢
    replace HF := Lib.hid (HF.out.set HW.out 4 (.slice none 0 0) rfl)
    generalize fw3.setCell ⟨w.heap.size, 4, none⟩ (.slice none 0 0) = fw4 at HF ⊢
    have fa0 : fw4.cell? ⟨w.heap.size, 0, none⟩ = some (.slice a0 u f0) := (HF.out.y 0 _ rfl).1
    have fa1 : fw4.cell? ⟨w.heap.size, 1, none⟩ = some (.int .i64 0) := (HF.out.y 1 _ rfl).1
    have fa2 : fw4.cell? ⟨w.heap.size, 2, none⟩ = some (.slice tb tn td) := (HF.out.y 2 _ rfl).1
    have fa3 : fw4.cell? ⟨w.heap.size, 3, none⟩ = some (.int .i64 (cv : Nat)) := (HF.out.y 3 _ rfl).1
    have fa4 : fw4.cell? ⟨w.heap.size, 4, none⟩ = some (.slice none 0 0) := (HF.out.y 4 _ rfl).1
    have HEnd : Hid (MthR S k w (.returned (.agg #[.slice a0 u f0, .int .i64 0, .slice tb tn td, .int .i64 (cv : Nat), .slice none 0 0])) fw4) := Lib.hid (Or.inr ⟨pz, er, HT.out, _, _, _, _, _, _, _, _, _, _, _, rfl, HF.out.rd, HF.out.gr⟩)
    exact bodyPost_ret (v := .agg #[.slice a0 u f0, .int .i64 0, .slice tb tn td, .int .i64 (cv : Nat), .slice none 0 0]) (by simp [results, Try.results49, go_sem, fa0, fa1, fa2, fa3, fa4]) rfl HEnd.out
  rw [HRT.out] at hd1 ⊢
  replace HN := Lib.hid (HN.out.call2 HM.out.rd hg)
  replace HM := Lib.hid (HM.out.call hr hg)
  clear hr hg h
  obtain ⟨y, z⟩ := HM.out.y 1 _ rfl
  obtain ⟨_, r1, r2, _, _, _, _⟩ := r2_y HM.out.rd
  have hqn : q < S.n := (nxE_none h3a.out).1
  by_cases hr2 : rt ≤ 2
  rotate_left
  · have d2 : decide ((2 : Int) < (rt : Int)) = true := decide_eq_true (by omega)
    go_wp2_with fail
    clear d2 y z r1 r2
    replace HM := Lib.hid (HM.out.set HW.out 1 (.int .i64 (rt : Nat)) rfl)
    generalize V3.setCell ⟨w.heap.size + 1, 1, none⟩ (.int .i64 (rt : Nat)) = V3s at HM ⊢
    refine (failx_c S (q + 1) q 5 (by decide) _ (Lib.hid HM.out.rd) 0).mono ?_
    rintro e V3t ⟨rfl, hr, hg⟩
    replace HM := Lib.hid (HM.out.call hr hg)
    clear hr hg
    obtain ⟨pz, hpz⟩ : ∃ x, q = x := ⟨_, rfl⟩
    obtain ⟨er, her⟩ : ∃ x : Int, 5 = x := ⟨_, rfl⟩
    rw [hpz, her] at HM
    have HT : Hid (methE S.n S.d k = some (pz, er)) := Lib.hid (by rw [HE.out, or_none h1.out, or_none h2.out, ← hpz, ← her]; exact or_some (nxE_bad (nxE_none h3a.out).1 (rb_n HRT.out hr2)))
    clear HN
    obtain ⟨r2, d2, _, _⟩ := r2_n HM.out.rd
    go_wp2_with fail
    clear r2 d2
    refine (onex_c S HO (some (pz, er)) 0 _ (Lib.hid HM.out.rd)).mono ?_
    intro e W19 h
    obtain ⟨rfl, hr, hg⟩ := one_bad h
    replace HM := Lib.hid (HM.out.call hr hg)
    clear hr hg h
    obtain ⟨r2, d2, _, _⟩ := r2_n HM.out.rd
    go_wp2_with fail
    clear r2 d2
    refine (tysx_c S HO (some (pz, er)) 0 (by omega) 0 _ (Lib.hid HM.out.rd)).mono ?_
    intro e W20 h
    obtain ⟨tb, tn, td, rfl, hr, hg⟩ := tys_bad h
    replace HM := Lib.hid (HM.out.call hr hg)
    clear hr hg h
    obtain ⟨r2, d2, _, _⟩ := r2_n HM.out.rd
    obtain ⟨y, z⟩ := HM.out.y 2 _ rfl
    go_wp2_with fail
    replace HM := Lib.hid (HM.out.set HW.out 2 (.slice tb tn td) rfl)
    generalize W20.setCell ⟨w.heap.size + 1, 2, none⟩ (.slice tb tn td) = W20s at HM ⊢
    clear y z
    clear r2 d2
    refine (cntx_c S HO 40 (by decide) (by decide) (some (pz, er)) 0 _ (Lib.hid HM.out.rd)).mono ?_
    intro e W21 h
    obtain ⟨cv, _, rfl, hr, hg⟩ := cnt_bad h
    replace HM := Lib.hid (HM.out.call hr hg)
    clear hr hg h
    obtain ⟨ka, r1⟩ := r2_n1 HM.out.rd
    obtain ⟨r2, d2, _, _⟩ := r2_n HM.out.rd
    obtain ⟨y, z⟩ := HM.out.y 3 _ rfl
    go_wp2_with fail
    replace HM := Lib.hid (HM.out.set HW.out 3 (.int .i64 (cv : Nat)) rfl)
    generalize W21.setCell ⟨w.heap.size + 1, 3, none⟩ (.int .i64 (cv : Nat)) = W21s at HM ⊢
    clear y z
    clear r2 d2
    clear r1
    refine (onex_c S HO (some (pz, er)) 0 _ (Lib.hid HM.out.rd)).mono ?_
    intro e W22 h
    obtain ⟨rfl, hr, hg⟩ := one_bad h
    replace HM := Lib.hid (HM.out.call hr hg)
    clear hr hg h
    obtain ⟨r2, d2, _, _⟩ := r2_n HM.out.rd
    go_wp2_with fail
    clear r2 d2
    refine (onex_c S HO (some (pz, er)) 0 _ (Lib.hid HM.out.rd)).mono ?_
    intro e W23 h
    obtain ⟨rfl, hr, hg⟩ := one_bad h
    replace HM := Lib.hid (HM.out.call hr hg)
    clear hr hg h
    obtain ⟨r2, d2, _, _⟩ := r2_n HM.out.rd
    go_wp2_with fail
    clear d2 r2
    have HF : Hid (MF2 S w (some (pz, er)) 0 z5 W23) := Lib.hid ⟨HM.out.rd, HM.out.res, HM.out.gr⟩
    obtain ⟨y0, _⟩ := HM.out.y 0 (.slice a0 u f0) rfl
    obtain ⟨u0, t0⟩ := HF.out.y 0 _ rfl
    obtain ⟨y1, _⟩ := HM.out.y 1 (.int .i64 (rt : Nat)) rfl
    obtain ⟨u1, t1⟩ := HF.out.y 1 _ rfl
    obtain ⟨y2, _⟩ := HM.out.y 2 (.slice tb tn td) rfl
    obtain ⟨u2, t2⟩ := HF.out.y 2 _ rfl
    obtain ⟨y3, _⟩ := HM.out.y 3 (.int .i64 (cv : Nat)) rfl
    obtain ⟨u3, t3⟩ := HF.out.y 3 _ rfl
    obtain ⟨y4, _⟩ := HM.out.y 4 (.slice none 0 0) rfl
    obtain ⟨u4, t4⟩ := HF.out.y 4 _ rfl
    obtain ⟨r2, d2, _, _⟩ := r2_n HM.out.rd
    refine wp_loop_rounds 1 ?_
    rw [rounds_succ]
    go_wp2
    clear y0 y1 y2 y3 y4 u0 u1 u2 u3 u4 t0 t1 t2 t3 t4 r2 d2
    replace HF := Lib.hid (HF.out.set HW.out 0 (.slice a0 u f0) rfl)
    generalize W23.setCell ⟨w.heap.size, 0, none⟩ (.slice a0 u f0) = fw0 at HF ⊢
    replace HF := Lib.hid (HF.out.set HW.out 1 (.int .i64 (rt : Nat)) rfl)
    generalize fw0.setCell ⟨w.heap.size, 1, none⟩ (.int .i64 (rt : Nat)) = fw1 at HF ⊢
    replace HF := Lib.hid (HF.out.set HW.out 2 (.slice tb tn td) rfl)
    generalize fw1.setCell ⟨w.heap.size, 2, none⟩ (.slice tb tn td) = fw2 at HF ⊢
    replace HF := Lib.hid (HF.out.set HW.out 3 (.int .i64 (cv : Nat)) rfl)
    generalize fw2.setCell ⟨w.heap.size, 3, none⟩ (.int .i64 (cv : Nat)) = fw3 at HF ⊢
    replace HF := Lib.hid (HF.out.set HW.out 4 (.slice none 0 0) rfl)
    generalize fw3.setCell ⟨w.heap.size, 4, none⟩ (.slice none 0 0) = fw4 at HF ⊢
    have fa0 : fw4.cell? ⟨w.heap.size, 0, none⟩ = some (.slice a0 u f0) := (HF.out.y 0 _ rfl).1
    have fa1 : fw4.cell? ⟨w.heap.size, 1, none⟩ = some (.int .i64 (rt : Nat)) := (HF.out.y 1 _ rfl).1
    have fa2 : fw4.cell? ⟨w.heap.size, 2, none⟩ = some (.slice tb tn td) := (HF.out.y 2 _ rfl).1
    have fa3 : fw4.cell? ⟨w.heap.size, 3, none⟩ = some (.int .i64 (cv : Nat)) := (HF.out.y 3 _ rfl).1
    have fa4 : fw4.cell? ⟨w.heap.size, 4, none⟩ = some (.slice none 0 0) := (HF.out.y 4 _ rfl).1
    have HEnd : Hid (MthR S k w (.returned (.agg #[.slice a0 u f0, .int .i64 (rt : Nat), .slice tb tn td, .int .i64 (cv : Nat), .slice none 0 0])) fw4) := Lib.hid (Or.inr ⟨pz, er, HT.out, _, _, _, _, _, _, _, _, _, _, _, rfl, HF.out.rd, HF.out.gr⟩)
    exact bodyPost_ret (v := .agg #[.slice a0 u f0, .int .i64 (rt : Nat), .slice tb tn td, .int .i64 (cv : Nat), .slice none 0 0]) (by simp [results, Try.results49, go_sem, fa0, fa1, fa2, fa3, fa4]) rfl HEnd.out
  have d2 : decide ((2 : Int) < (rt : Int)) = false := decide_eq_false (by omega)
  have h3 : Hid (nxE S.n S.d 5 rtB q = none) := Lib.hid (nxE_ok (nxE_none h3a.out).1 (rb_y HRT.out hr2))
  go_wp2_with fail
  clear d2 y z r1 r2
  replace HN := Lib.hid (HN.out.set2 HM.out 1 (.int .i64 (rt : Nat)))
  replace HM := Lib.hid (HM.out.set HW.out 1 (.int .i64 (rt : Nat)) rfl)
  generalize V3.setCell ⟨w.heap.size + 1, 1, none⟩ (.int .i64 (rt : Nat)) = V3s at HM HN ⊢
  refine (onex_c S HO none (q + 1) _ (Lib.hid HM.out.rd)).mono ?_
  intro e V4 h
  rcases one_ok h with ⟨h4a, hd2, rfl, hr, hg⟩ | ⟨pz, er, hx, rfl, hr, hg⟩
  rotate_left
  · replace HM := Lib.hid (HM.out.call hr hg)
    clear hr hg h
    have HT : Hid (methE S.n S.d k = some (pz, er)) := Lib.hid (by rw [HE.out, or_none h1.out, or_none h2.out, or_none h3.out, or_some (nx_any_some hx.out 2 (leB (40 - (u : Int))))])
    clear HN
    obtain ⟨r2, d2, _, _⟩ := r2_n HM.out.rd
    go_wp2_with fail
    clear r2 d2
    refine (tysx_c S HO (some (pz, er)) 0 (by omega) 0 _ (Lib.hid HM.out.rd)).mono ?_
    intro e W24 h
    obtain ⟨tb, tn, td, rfl, hr, hg⟩ := tys_bad h
    replace HM := Lib.hid (HM.out.call hr hg)
    clear hr hg h
    obtain ⟨r2, d2, _, _⟩ := r2_n HM.out.rd
    obtain ⟨y, z⟩ := HM.out.y 2 _ rfl
    go_wp2_with fail
    replace HM := Lib.hid (HM.out.set HW.out 2 (.slice tb tn td) rfl)
    generalize W24.setCell ⟨w.heap.size + 1, 2, none⟩ (.slice tb tn td) = W24s at HM ⊢
    clear y z
    clear r2 d2
    refine (cntx_c S HO 40 (by decide) (by decide) (some (pz, er)) 0 _ (Lib.hid HM.out.rd)).mono ?_
    intro e W25 h
    obtain ⟨cv, _, rfl, hr, hg⟩ := cnt_bad h
    replace HM := Lib.hid (HM.out.call hr hg)
    clear hr hg h
    obtain ⟨ka, r1⟩ := r2_n1 HM.out.rd
    obtain ⟨r2, d2, _, _⟩ := r2_n HM.out.rd
    obtain ⟨y, z⟩ := HM.out.y 3 _ rfl
    go_wp2_with fail
    replace HM := Lib.hid (HM.out.set HW.out 3 (.int .i64 (cv : Nat)) rfl)
    generalize W25.setCell ⟨w.heap.size + 1, 3, none⟩ (.int .i64 (cv : Nat)) = W25s at HM ⊢
    clear y z
    clear r2 d2
    clear r1
    refine (onex_c S HO (some (pz, er)) 0 _ (Lib.hid HM.out.rd)).mono ?_
    intro e W26 h
    obtain ⟨rfl, hr, hg⟩ := one_bad h
    replace HM := Lib.hid (HM.out.call hr hg)
    clear hr hg h
    obtain ⟨r2, d2, _, _⟩ := r2_n HM.out.rd
    go_wp2_with fail
    clear r2 d2
    refine (onex_c S HO (some (pz, er)) 0 _ (Lib.hid HM.out.rd)).mono ?_
    intro e W27 h
    obtain ⟨rfl, hr, hg⟩ := one_bad h
    replace HM := Lib.hid (HM.out.call hr hg)
    clear hr hg h
    obtain ⟨r2, d2, _, _⟩ := r2_n HM.out.rd
    go_wp2_with fail
    clear d2 r2
    have HF : Hid (MF2 S w (some (pz, er)) 0 z5 W27) := Lib.hid ⟨HM.out.rd, HM.out.res, HM.out.gr⟩
    obtain ⟨y0, _⟩ := HM.out.y 0 (.slice a0 u f0) rfl
    obtain ⟨u0, t0⟩ := HF.out.y 0 _ rfl
    obtain ⟨y1, _⟩ := HM.out.y 1 (.int .i64 (rt : Nat)) rfl
    obtain ⟨u1, t1⟩ := HF.out.y 1 _ rfl
    obtain ⟨y2, _⟩ := HM.out.y 2 (.slice tb tn td) rfl
    obtain ⟨u2, t2⟩ := HF.out.y 2 _ rfl
    obtain ⟨y3, _⟩ := HM.out.y 3 (.int .i64 (cv : Nat)) rfl
    obtain ⟨u3, t3⟩ := HF.out.y 3 _ rfl
    obtain ⟨y4, _⟩ := HM.out.y 4 (.slice none 0 0) rfl
    obtain ⟨u4, t4⟩ := HF.out.y 4 _ rfl
    obtain ⟨r2, d2, _, _⟩ := r2_n HM.out.rd
    refine wp_loop_rounds 1 ?_
    rw [rounds_succ]
    go_wp2
    clear y0 y1 y2 y3 y4 u0 u1 u2 u3 u4 t0 t1 t2 t3 t4 r2 d2
    replace HF := Lib.hid (HF.out.set HW.out 0 (.slice a0 u f0) rfl)
    generalize W27.setCell ⟨w.heap.size, 0, none⟩ (.slice a0 u f0) = fw0 at HF ⊢
    replace HF := Lib.hid (HF.out.set HW.out 1 (.int .i64 (rt : Nat)) rfl)
    generalize fw0.setCell ⟨w.heap.size, 1, none⟩ (.int .i64 (rt : Nat)) = fw1 at HF ⊢
    replace HF := Lib.hid (HF.out.set HW.out 2 (.slice tb tn td) rfl)
    generalize fw1.setCell ⟨w.heap.size, 2, none⟩ (.slice tb tn td) = fw2 at HF ⊢
    replace HF := Lib.hid (HF.out.set HW.out 3 (.int .i64 (cv : Nat)) rfl)
    generalize fw2.setCell ⟨w.heap.size, 3, none⟩ (.int .i64 (cv : Nat)) = fw3 at HF ⊢
    replace HF := Lib.hid (HF.out.set HW.out 4 (.slice none 0 0) rfl)
    generalize fw3.setCell ⟨w.heap.size, 4, none⟩ (.slice none 0 0) = fw4 at HF ⊢
    have fa0 : fw4.cell? ⟨w.heap.size, 0, none⟩ = some (.slice a0 u f0) := (HF.out.y 0 _ rfl).1
    have fa1 : fw4.cell? ⟨w.heap.size, 1, none⟩ = some (.int .i64 (rt : Nat)) := (HF.out.y 1 _ rfl).1
    have fa2 : fw4.cell? ⟨w.heap.size, 2, none⟩ = some (.slice tb tn td) := (HF.out.y 2 _ rfl).1
    have fa3 : fw4.cell? ⟨w.heap.size, 3, none⟩ = some (.int .i64 (cv : Nat)) := (HF.out.y 3 _ rfl).1
    have fa4 : fw4.cell? ⟨w.heap.size, 4, none⟩ = some (.slice none 0 0) := (HF.out.y 4 _ rfl).1
    have HEnd : Hid (MthR S k w (.returned (.agg #[.slice a0 u f0, .int .i64 (rt : Nat), .slice tb tn td, .int .i64 (cv : Nat), .slice none 0 0])) fw4) := Lib.hid (Or.inr ⟨pz, er, HT.out, _, _, _, _, _, _, _, _, _, _, _, rfl, HF.out.rd, HF.out.gr⟩)
    exact bodyPost_ret (v := .agg #[.slice a0 u f0, .int .i64 (rt : Nat), .slice tb tn td, .int .i64 (cv : Nat), .slice none 0 0]) (by simp [results, Try.results49, go_sem, fa0, fa1, fa2, fa3, fa4]) rfl HEnd.out
  rw [HLL.out] at hd2 ⊢
  replace HN := Lib.hid (HN.out.call2 HM.out.rd hg)
  replace HM := Lib.hid (HM.out.call hr hg)
  clear hr hg h
  obtain ⟨y, _⟩ := HM.out.y 0 (.slice a0 u f0) rfl
  obtain ⟨_, r1, r2, _, _, _, _⟩ := r2_y HM.out.rd
  have hqn1 : q + 1 < S.n := (nxE_none h4a.out).1
  by_cases hlu : l + u ≤ 40
  rotate_left
  · have d2 : decide ((40 : Int) < (l : Int) + (u : Int)) = true := decide_eq_true (by omega)
    go_wp2_with fail
    clear d2 y r1 r2
    refine (failx_c S (q + 1 + 1) (q + 1) 2 (by decide) _ (Lib.hid HM.out.rd) 0).mono ?_
    rintro e V4t ⟨rfl, hr, hg⟩
    replace HM := Lib.hid (HM.out.call hr hg)
    clear hr hg
    obtain ⟨pz, hpz⟩ : ∃ x, q + 1 = x := ⟨_, rfl⟩
    obtain ⟨er, her⟩ : ∃ x : Int, 2 = x := ⟨_, rfl⟩
    rw [hpz, her] at HM
    have HT : Hid (methE S.n S.d k = some (pz, er)) := Lib.hid (by rw [HE.out, or_none h1.out, or_none h2.out, or_none h3.out]; rw [← hpz, ← her]; exact or_some (nxE_bad (nxE_none h4a.out).1 (by unfold leB; rw [HLL.out]; exact decide_eq_false (by omega))))
    clear HN
    obtain ⟨r2, d2, _, _⟩ := r2_n HM.out.rd
    go_wp2_with fail
    clear r2 d2
    refine (tysx_c S HO (some (pz, er)) l (by omega) 0 _ (Lib.hid HM.out.rd)).mono ?_
    intro e W28 h
    obtain ⟨tb, tn, td, rfl, hr, hg⟩ := tys_bad h
    replace HM := Lib.hid (HM.out.call hr hg)
    clear hr hg h
    obtain ⟨r2, d2, _, _⟩ := r2_n HM.out.rd
    obtain ⟨y, z⟩ := HM.out.y 2 _ rfl
    go_wp2_with fail
    replace HM := Lib.hid (HM.out.set HW.out 2 (.slice tb tn td) rfl)
    generalize W28.setCell ⟨w.heap.size + 1, 2, none⟩ (.slice tb tn td) = W28s at HM ⊢
    clear y z
    clear r2 d2
    refine (cntx_c S HO 40 (by decide) (by decide) (some (pz, er)) 0 _ (Lib.hid HM.out.rd)).mono ?_
    intro e W29 h
    obtain ⟨cv, _, rfl, hr, hg⟩ := cnt_bad h
    replace HM := Lib.hid (HM.out.call hr hg)
    clear hr hg h
    obtain ⟨ka, r1⟩ := r2_n1 HM.out.rd
    obtain ⟨r2, d2, _, _⟩ := r2_n HM.out.rd
    obtain ⟨y, z⟩ := HM.out.y 3 _ rfl
    go_wp2_with fail
    replace HM := Lib.hid (HM.out.set HW.out 3 (.int .i64 (cv : Nat)) rfl)
    generalize W29.setCell ⟨w.heap.size + 1, 3, none⟩ (.int .i64 (cv : Nat)) = W29s at HM ⊢
    clear y z
    clear r2 d2
    clear r1
    refine (onex_c S HO (some (pz, er)) 0 _ (Lib.hid HM.out.rd)).mono ?_
    intro e W30 h
    obtain ⟨rfl, hr, hg⟩ := one_bad h
    replace HM := Lib.hid (HM.out.call hr hg)
    clear hr hg h
    obtain ⟨r2, d2, _, _⟩ := r2_n HM.out.rd
    go_wp2_with fail
    clear r2 d2
    refine (onex_c S HO (some (pz, er)) 0 _ (Lib.hid HM.out.rd)).mono ?_
    intro e W31 h
    obtain ⟨rfl, hr, hg⟩ := one_bad h
    replace HM := Lib.hid (HM.out.call hr hg)
    clear hr hg h
    obtain ⟨r2, d2, _, _⟩ := r2_n HM.out.rd
    go_wp2_with fail
    clear d2 r2
    have HF : Hid (MF2 S w (some (pz, er)) 0 z5 W31) := Lib.hid ⟨HM.out.rd, HM.out.res, HM.out.gr⟩
    obtain ⟨y0, _⟩ := HM.out.y 0 (.slice a0 u f0) rfl
    obtain ⟨u0, t0⟩ := HF.out.y 0 _ rfl
    obtain ⟨y1, _⟩ := HM.out.y 1 (.int .i64 (rt : Nat)) rfl
    obtain ⟨u1, t1⟩ := HF.out.y 1 _ rfl
    obtain ⟨y2, _⟩ := HM.out.y 2 (.slice tb tn td) rfl
    obtain ⟨u2, t2⟩ := HF.out.y 2 _ rfl
    obtain ⟨y3, _⟩ := HM.out.y 3 (.int .i64 (cv : Nat)) rfl
    obtain ⟨u3, t3⟩ := HF.out.y 3 _ rfl
    obtain ⟨y4, _⟩ := HM.out.y 4 (.slice none 0 0) rfl
    obtain ⟨u4, t4⟩ := HF.out.y 4 _ rfl
    obtain ⟨r2, d2, _, _⟩ := r2_n HM.out.rd
    refine wp_loop_rounds 1 ?_
    rw [rounds_succ]
    go_wp2
    clear y0 y1 y2 y3 y4 u0 u1 u2 u3 u4 t0 t1 t2 t3 t4 r2 d2
    replace HF := Lib.hid (HF.out.set HW.out 0 (.slice a0 u f0) rfl)
    generalize W31.setCell ⟨w.heap.size, 0, none⟩ (.slice a0 u f0) = fw0 at HF ⊢
    replace HF := Lib.hid (HF.out.set HW.out 1 (.int .i64 (rt : Nat)) rfl)
    generalize fw0.setCell ⟨w.heap.size, 1, none⟩ (.int .i64 (rt : Nat)) = fw1 at HF ⊢
    replace HF := Lib.hid (HF.out.set HW.out 2 (.slice tb tn td) rfl)
    generalize fw1.setCell ⟨w.heap.size, 2, none⟩ (.slice tb tn td) = fw2 at HF ⊢
    replace HF := Lib.hid (HF.out.set HW.out 3 (.int .i64 (cv : Nat)) rfl)
    generalize fw2.setCell ⟨w.heap.size, 3, none⟩ (.int .i64 (cv : Nat)) = fw3 at HF ⊢
    replace HF := Lib.hid (HF.out.set HW.out 4 (.slice none 0 0) rfl)
    generalize fw3.setCell ⟨w.heap.size, 4, none⟩ (.slice none 0 0) = fw4 at HF ⊢
    have fa0 : fw4.cell? ⟨w.heap.size, 0, none⟩ = some (.slice a0 u f0) := (HF.out.y 0 _ rfl).1
    have fa1 : fw4.cell? ⟨w.heap.size, 1, none⟩ = some (.int .i64 (rt : Nat)) := (HF.out.y 1 _ rfl).1
    have fa2 : fw4.cell? ⟨w.heap.size, 2, none⟩ = some (.slice tb tn td) := (HF.out.y 2 _ rfl).1
    have fa3 : fw4.cell? ⟨w.heap.size, 3, none⟩ = some (.int .i64 (cv : Nat)) := (HF.out.y 3 _ rfl).1
    have fa4 : fw4.cell? ⟨w.heap.size, 4, none⟩ = some (.slice none 0 0) := (HF.out.y 4 _ rfl).1
    have HEnd : Hid (MthR S k w (.returned (.agg #[.slice a0 u f0, .int .i64 (rt : Nat), .slice tb tn td, .int .i64 (cv : Nat), .slice none 0 0])) fw4) := Lib.hid (Or.inr ⟨pz, er, HT.out, _, _, _, _, _, _, _, _, _, _, _, rfl, HF.out.rd, HF.out.gr⟩)
    exact bodyPost_ret (v := .agg #[.slice a0 u f0, .int .i64 (rt : Nat), .slice tb tn td, .int .i64 (cv : Nat), .slice none 0 0]) (by simp [results, Try.results49, go_sem, fa0, fa1, fa2, fa3, fa4]) rfl HEnd.out
  have d2 : decide ((40 : Int) < (l : Int) + (u : Int)) = false := decide_eq_false (by omega)
  have h4 : Hid (nxE S.n S.d 2 (leB (40 - (u : Int))) (q + 1) = none) := Lib.hid (nxE_ok (nxE_none h4a.out).1 (by unfold leB; rw [HLL.out]; exact decide_eq_true (by omega)))
  go_wp2_with fail
  clear d2 y r1 r2
  refine (tysx_c S HO none l (by omega) (q + 2) _ (Lib.hid (HM.out.rd.at (by omega)))).mono ?_
  intro e V5 h
  rcases tys_ok h with ⟨h5, a1, f1, rfl, ho, hr, hg⟩ | ⟨pz, er, ta, tm, tc, hx, rfl, hr, hg⟩
  rotate_left
  · replace HM := Lib.hid (HM.out.call hr hg)
    clear hr hg h
    have HT : Hid (methE S.n S.d k = some (pz, er)) := Lib.hid (by rw [HE.out, or_none h1.out, or_none h2.out, or_none h3.out, or_none h4.out, or_some hx.out])
    clear HN
    obtain ⟨r2, d2, _, _⟩ := r2_n HM.out.rd
    obtain ⟨y, z⟩ := HM.out.y 2 _ rfl
    go_wp2_with fail
    replace HM := Lib.hid (HM.out.set HW.out 2 (.slice ta tm tc) rfl)
    generalize V5.setCell ⟨w.heap.size + 1, 2, none⟩ (.slice ta tm tc) = V5s at HM ⊢
    clear y z
    clear r2 d2
    refine (cntx_c S HO 40 (by decide) (by decide) (some (pz, er)) 0 _ (Lib.hid HM.out.rd)).mono ?_
    intro e W32 h
    obtain ⟨cv, _, rfl, hr, hg⟩ := cnt_bad h
    replace HM := Lib.hid (HM.out.call hr hg)
    clear hr hg h
    obtain ⟨ka, r1⟩ := r2_n1 HM.out.rd
    obtain ⟨r2, d2, _, _⟩ := r2_n HM.out.rd
    obtain ⟨y, z⟩ := HM.out.y 3 _ rfl
    go_wp2_with fail
    replace HM := Lib.hid (HM.out.set HW.out 3 (.int .i64 (cv : Nat)) rfl)
    generalize W32.setCell ⟨w.heap.size + 1, 3, none⟩ (.int .i64 (cv : Nat)) = W32s at HM ⊢
    clear y z
    clear r2 d2
    clear r1
    refine (onex_c S HO (some (pz, er)) 0 _ (Lib.hid HM.out.rd)).mono ?_
    intro e W33 h
    obtain ⟨rfl, hr, hg⟩ := one_bad h
    replace HM := Lib.hid (HM.out.call hr hg)
    clear hr hg h
    obtain ⟨r2, d2, _, _⟩ := r2_n HM.out.rd
    go_wp2_with fail
    clear r2 d2
    refine (onex_c S HO (some (pz, er)) 0 _ (Lib.hid HM.out.rd)).mono ?_
    intro e W34 h
    obtain ⟨rfl, hr, hg⟩ := one_bad h
    replace HM := Lib.hid (HM.out.call hr hg)
    clear hr hg h
    obtain ⟨r2, d2, _, _⟩ := r2_n HM.out.rd
    go_wp2_with fail
    clear d2 r2
    have HF : Hid (MF2 S w (some (pz, er)) 0 z5 W34) := Lib.hid ⟨HM.out.rd, HM.out.res, HM.out.gr⟩
    obtain ⟨y0, _⟩ := HM.out.y 0 (.slice a0 u f0) rfl
    obtain ⟨u0, t0⟩ := HF.out.y 0 _ rfl
    obtain ⟨y1, _⟩ := HM.out.y 1 (.int .i64 (rt : Nat)) rfl
    obtain ⟨u1, t1⟩ := HF.out.y 1 _ rfl
    obtain ⟨y2, _⟩ := HM.out.y 2 (.slice ta tm tc) rfl
    obtain ⟨u2, t2⟩ := HF.out.y 2 _ rfl
    obtain ⟨y3, _⟩ := HM.out.y 3 (.int .i64 (cv : Nat)) rfl
    obtain ⟨u3, t3⟩ := HF.out.y 3 _ rfl
    obtain ⟨y4, _⟩ := HM.out.y 4 (.slice none 0 0) rfl
    obtain ⟨u4, t4⟩ := HF.out.y 4 _ rfl
    obtain ⟨r2, d2, _, _⟩ := r2_n HM.out.rd
    refine wp_loop_rounds 1 ?_
    rw [rounds_succ]
    go_wp2
    clear y0 y1 y2 y3 y4 u0 u1 u2 u3 u4 t0 t1 t2 t3 t4 r2 d2
    replace HF := Lib.hid (HF.out.set HW.out 0 (.slice a0 u f0) rfl)
    generalize W34.setCell ⟨w.heap.size, 0, none⟩ (.slice a0 u f0) = fw0 at HF ⊢
    replace HF := Lib.hid (HF.out.set HW.out 1 (.int .i64 (rt : Nat)) rfl)
    generalize fw0.setCell ⟨w.heap.size, 1, none⟩ (.int .i64 (rt : Nat)) = fw1 at HF ⊢
    replace HF := Lib.hid (HF.out.set HW.out 2 (.slice ta tm tc) rfl)
    generalize fw1.setCell ⟨w.heap.size, 2, none⟩ (.slice ta tm tc) = fw2 at HF ⊢
    replace HF := Lib.hid (HF.out.set HW.out 3 (.int .i64 (cv : Nat)) rfl)
    generalize fw2.setCell ⟨w.heap.size, 3, none⟩ (.int .i64 (cv : Nat)) = fw3 at HF ⊢
    replace HF := Lib.hid (HF.out.set HW.out 4 (.slice none 0 0) rfl)
    generalize fw3.setCell ⟨w.heap.size, 4, none⟩ (.slice none 0 0) = fw4 at HF ⊢
    have fa0 : fw4.cell? ⟨w.heap.size, 0, none⟩ = some (.slice a0 u f0) := (HF.out.y 0 _ rfl).1
    have fa1 : fw4.cell? ⟨w.heap.size, 1, none⟩ = some (.int .i64 (rt : Nat)) := (HF.out.y 1 _ rfl).1
    have fa2 : fw4.cell? ⟨w.heap.size, 2, none⟩ = some (.slice ta tm tc) := (HF.out.y 2 _ rfl).1
    have fa3 : fw4.cell? ⟨w.heap.size, 3, none⟩ = some (.int .i64 (cv : Nat)) := (HF.out.y 3 _ rfl).1
    have fa4 : fw4.cell? ⟨w.heap.size, 4, none⟩ = some (.slice none 0 0) := (HF.out.y 4 _ rfl).1
    have HEnd : Hid (MthR S k w (.returned (.agg #[.slice a0 u f0, .int .i64 (rt : Nat), .slice ta tm tc, .int .i64 (cv : Nat), .slice none 0 0])) fw4) := Lib.hid (Or.inr ⟨pz, er, HT.out, _, _, _, _, _, _, _, _, _, _, _, rfl, HF.out.rd, HF.out.gr⟩)
    exact bodyPost_ret (v := .agg #[.slice a0 u f0, .int .i64 (rt : Nat), .slice ta tm tc, .int .i64 (cv : Nat), .slice none 0 0]) (by simp [results, Try.results49, go_sem, fa0, fa1, fa2, fa3, fa4]) rfl HEnd.out
  have HO1 := Lib.hid (own_mono ho HM.out.sz)
  replace HN := Lib.hid (HN.out.call2 HM.out.rd hg)
  replace HM := Lib.hid (HM.out.call hr hg)
  clear hr hg h ho
  obtain ⟨y, z⟩ := HM.out.y 2 _ rfl
  go_wp2_with fail
  replace HN := Lib.hid (MO.set2 ⟨HN.out.a, HO1.out, HN.out.c⟩ HM.out 2 (.slice a1 l f1))
  replace HM := Lib.hid (HM.out.set HW.out 2 (.slice a1 l f1) rfl)
  clear y z
  generalize V5.setCell ⟨w.heap.size + 1, 2, none⟩ (.slice a1 l f1) = V5s at HM HN ⊢
  refine (cntx_c S HO 40 (by decide) (by decide) none (q + 2 + l) _ (Lib.hid HM.out.rd)).mono ?_
  intro e V6 h
  rcases cnt_ok h with ⟨h6, hd3, rfl, hr, hg⟩ | ⟨pz, er, cv, hx, _, rfl, hr, hg⟩
  rotate_left
  · replace HM := Lib.hid (HM.out.call hr hg)
    clear hr hg h
    have HT : Hid (methE S.n S.d k = some (pz, er)) := Lib.hid (by rw [HE.out, or_none h1.out, or_none h2.out, or_none h3.out, or_none h4.out, or_none h5.out, or_some hx.out])
    clear HN
    obtain ⟨ka, r1⟩ := r2_n1 HM.out.rd
    obtain ⟨r2, d2, _, _⟩ := r2_n HM.out.rd
    obtain ⟨y, z⟩ := HM.out.y 3 _ rfl
    go_wp2_with fail
    replace HM := Lib.hid (HM.out.set HW.out 3 (.int .i64 (cv : Nat)) rfl)
    generalize V6.setCell ⟨w.heap.size + 1, 3, none⟩ (.int .i64 (cv : Nat)) = V6s at HM ⊢
    clear y z
    clear r2 d2
    clear r1
    refine (onex_c S HO (some (pz, er)) 0 _ (Lib.hid HM.out.rd)).mono ?_
    intro e W35 h
    obtain ⟨rfl, hr, hg⟩ := one_bad h
    replace HM := Lib.hid (HM.out.call hr hg)
    clear hr hg h
    obtain ⟨r2, d2, _, _⟩ := r2_n HM.out.rd
    go_wp2_with fail
    clear r2 d2
    refine (onex_c S HO (some (pz, er)) 0 _ (Lib.hid HM.out.rd)).mono ?_
    intro e W36 h
    obtain ⟨rfl, hr, hg⟩ := one_bad h
    replace HM := Lib.hid (HM.out.call hr hg)
    clear hr hg h
    obtain ⟨r2, d2, _, _⟩ := r2_n HM.out.rd
    go_wp2_with fail
    clear d2 r2
    have HF : Hid (MF2 S w (some (pz, er)) 0 z5 W36) := Lib.hid ⟨HM.out.rd, HM.out.res, HM.out.gr⟩
    obtain ⟨y0, _⟩ := HM.out.y 0 (.slice a0 u f0) rfl
    obtain ⟨u0, t0⟩ := HF.out.y 0 _ rfl
    obtain ⟨y1, _⟩ := HM.out.y 1 (.int .i64 (rt : Nat)) rfl
    obtain ⟨u1, t1⟩ := HF.out.y 1 _ rfl
    obtain ⟨y2, _⟩ := HM.out.y 2 (.slice a1 l f1) rfl
    obtain ⟨u2, t2⟩ := HF.out.y 2 _ rfl
    obtain ⟨y3, _⟩ := HM.out.y 3 (.int .i64 (cv : Nat)) rfl
    obtain ⟨u3, t3⟩ := HF.out.y 3 _ rfl
    obtain ⟨y4, _⟩ := HM.out.y 4 (.slice none 0 0) rfl
    obtain ⟨u4, t4⟩ := HF.out.y 4 _ rfl
    obtain ⟨r2, d2, _, _⟩ := r2_n HM.out.rd
    refine wp_loop_rounds 1 ?_
    rw [rounds_succ]
    go_wp2
    clear y0 y1 y2 y3 y4 u0 u1 u2 u3 u4 t0 t1 t2 t3 t4 r2 d2
    replace HF := Lib.hid (HF.out.set HW.out 0 (.slice a0 u f0) rfl)
    generalize W36.setCell ⟨w.heap.size, 0, none⟩ (.slice a0 u f0) = fw0 at HF ⊢
    replace HF := Lib.hid (HF.out.set HW.out 1 (.int .i64 (rt : Nat)) rfl)
    generalize fw0.setCell ⟨w.heap.size, 1, none⟩ (.int .i64 (rt : Nat)) = fw1 at HF ⊢
    replace HF := Lib.hid (HF.out.set HW.out 2 (.slice a1 l f1) rfl)
    generalize fw1.setCell ⟨w.heap.size, 2, none⟩ (.slice a1 l f1) = fw2 at HF ⊢
    replace HF := Lib.hid (HF.out.set HW.out 3 (.int .i64 (cv : Nat)) rfl)
    generalize fw2.setCell ⟨w.heap.size, 3, none⟩ (.int .i64 (cv : Nat)) = fw3 at HF ⊢
    replace HF := Lib.hid (HF.out.set HW.out 4 (.slice none 0 0) rfl)
    generalize fw3.setCell ⟨w.heap.size, 4, none⟩ (.slice none 0 0) = fw4 at HF ⊢
    have fa0 : fw4.cell? ⟨w.heap.size, 0, none⟩ = some (.slice a0 u f0) := (HF.out.y 0 _ rfl).1
    have fa1 : fw4.cell? ⟨w.heap.size, 1, none⟩ = some (.int .i64 (rt : Nat)) := (HF.out.y 1 _ rfl).1
    have fa2 : fw4.cell? ⟨w.heap.size, 2, none⟩ = some (.slice a1 l f1) := (HF.out.y 2 _ rfl).1
    have fa3 : fw4.cell? ⟨w.heap.size, 3, none⟩ = some (.int .i64 (cv : Nat)) := (HF.out.y 3 _ rfl).1
    have fa4 : fw4.cell? ⟨w.heap.size, 4, none⟩ = some (.slice none 0 0) := (HF.out.y 4 _ rfl).1
    have HEnd : Hid (MthR S k w (.returned (.agg #[.slice a0 u f0, .int .i64 (rt : Nat), .slice a1 l f1, .int .i64 (cv : Nat), .slice none 0 0])) fw4) := Lib.hid (Or.inr ⟨pz, er, HT.out, _, _, _, _, _, _, _, _, _, _, _, rfl, HF.out.rd, HF.out.gr⟩)
    exact bodyPost_ret (v := .agg #[.slice a0 u f0, .int .i64 (rt : Nat), .slice a1 l f1, .int .i64 (cv : Nat), .slice none 0 0]) (by simp [results, Try.results49, go_sem, fa0, fa1, fa2, fa3, fa4]) rfl HEnd.out
  rw [HSK.out] at hd3 ⊢
  replace HN := Lib.hid (HN.out.call2 HM.out.rd hg)
  replace HM := Lib.hid (HM.out.call (hr.at (show _ = p by have := HP0.out; omega)) hg)
  clear hr hg h
  obtain ⟨y, z⟩ := HM.out.y 3 _ rfl
  obtain ⟨_, r1, _, _, _, _, _⟩ := r2_y HM.out.rd
  go_wp2_with fail
  replace HN := Lib.hid (HN.out.set2 HM.out 3 (.int .i64 (sk : Nat)))
  replace HM := Lib.hid (HM.out.set HW.out 3 (.int .i64 (sk : Nat)) rfl)
  clear y z r1
  generalize V6.setCell ⟨w.heap.size + 1, 3, none⟩ (.int .i64 (sk : Nat)) = V6s at HM HN ⊢
  refine (onex_c S HO none p _ (Lib.hid HM.out.rd)).mono ?_
  intro e V7 h
  rcases one_ok h with ⟨h7, hd4, rfl, hr, hg⟩ | ⟨pz, er, hx, rfl, hr, hg⟩
  rotate_left
  · replace HM := Lib.hid (HM.out.call hr hg)
    clear hr hg h
    have HT : Hid (methE S.n S.d k = some (pz, er)) := Lib.hid (by rw [HE.out, or_none h1.out, or_none h2.out, or_none h3.out, or_none h4.out, or_none h5.out, or_none h6.out, or_some hx.out])
    clear HN
    obtain ⟨r2, d2, _, _⟩ := r2_n HM.out.rd
    go_wp2_with fail
    clear r2 d2
    refine (onex_c S HO (some (pz, er)) 0 _ (Lib.hid HM.out.rd)).mono ?_
    intro e W37 h
    obtain ⟨rfl, hr, hg⟩ := one_bad h
    replace HM := Lib.hid (HM.out.call hr hg)
    clear hr hg h
    obtain ⟨r2, d2, _, _⟩ := r2_n HM.out.rd
    go_wp2_with fail
    clear d2 r2
    have HF : Hid (MF2 S w (some (pz, er)) 0 z5 W37) := Lib.hid ⟨HM.out.rd, HM.out.res, HM.out.gr⟩
    obtain ⟨y0, _⟩ := HM.out.y 0 (.slice a0 u f0) rfl
    obtain ⟨u0, t0⟩ := HF.out.y 0 _ rfl
    obtain ⟨y1, _⟩ := HM.out.y 1 (.int .i64 (rt : Nat)) rfl
    obtain ⟨u1, t1⟩ := HF.out.y 1 _ rfl
    obtain ⟨y2, _⟩ := HM.out.y 2 (.slice a1 l f1) rfl
    obtain ⟨u2, t2⟩ := HF.out.y 2 _ rfl
    obtain ⟨y3, _⟩ := HM.out.y 3 (.int .i64 (sk : Nat)) rfl
    obtain ⟨u3, t3⟩ := HF.out.y 3 _ rfl
    obtain ⟨y4, _⟩ := HM.out.y 4 (.slice none 0 0) rfl
    obtain ⟨u4, t4⟩ := HF.out.y 4 _ rfl
    obtain ⟨r2, d2, _, _⟩ := r2_n HM.out.rd
    refine wp_loop_rounds 1 ?_
    rw [rounds_succ]
    go_wp2
    clear y0 y1 y2 y3 y4 u0 u1 u2 u3 u4 t0 t1 t2 t3 t4 r2 d2
    replace HF := Lib.hid (HF.out.set HW.out 0 (.slice a0 u f0) rfl)
    generalize W37.setCell ⟨w.heap.size, 0, none⟩ (.slice a0 u f0) = fw0 at HF ⊢
    replace HF := Lib.hid (HF.out.set HW.out 1 (.int .i64 (rt : Nat)) rfl)
    generalize fw0.setCell ⟨w.heap.size, 1, none⟩ (.int .i64 (rt : Nat)) = fw1 at HF ⊢
    replace HF := Lib.hid (HF.out.set HW.out 2 (.slice a1 l f1) rfl)
    generalize fw1.setCell ⟨w.heap.size, 2, none⟩ (.slice a1 l f1) = fw2 at HF ⊢
    replace HF := Lib.hid (HF.out.set HW.out 3 (.int .i64 (sk : Nat)) rfl)
    generalize fw2.setCell ⟨w.heap.size, 3, none⟩ (.int .i64 (sk : Nat)) = fw3 at HF ⊢
    replace HF := Lib.hid (HF.out.set HW.out 4 (.slice none 0 0) rfl)
    generalize fw3.setCell ⟨w.heap.size, 4, none⟩ (.slice none 0 0) = fw4 at HF ⊢
    have fa0 : fw4.cell? ⟨w.heap.size, 0, none⟩ = some (.slice a0 u f0) := (HF.out.y 0 _ rfl).1
    have fa1 : fw4.cell? ⟨w.heap.size, 1, none⟩ = some (.int .i64 (rt : Nat)) := (HF.out.y 1 _ rfl).1
    have fa2 : fw4.cell? ⟨w.heap.size, 2, none⟩ = some (.slice a1 l f1) := (HF.out.y 2 _ rfl).1
    have fa3 : fw4.cell? ⟨w.heap.size, 3, none⟩ = some (.int .i64 (sk : Nat)) := (HF.out.y 3 _ rfl).1
    have fa4 : fw4.cell? ⟨w.heap.size, 4, none⟩ = some (.slice none 0 0) := (HF.out.y 4 _ rfl).1
    have HEnd : Hid (MthR S k w (.returned (.agg #[.slice a0 u f0, .int .i64 (rt : Nat), .slice a1 l f1, .int .i64 (sk : Nat), .slice none 0 0])) fw4) := Lib.hid (Or.inr ⟨pz, er, HT.out, _, _, _, _, _, _, _, _, _, _, _, rfl, HF.out.rd, HF.out.gr⟩)
    exact bodyPost_ret (v := .agg #[.slice a0 u f0, .int .i64 (rt : Nat), .slice a1 l f1, .int .i64 (sk : Nat), .slice none 0 0]) (by simp [results, Try.results49, go_sem, fa0, fa1, fa2, fa3, fa4]) rfl HEnd.out
  rw [HXA.out] at hd4 ⊢
  replace HN := Lib.hid (HN.out.call2 HM.out.rd hg)
  replace HM := Lib.hid (HM.out.call hr hg)
  clear hr hg h
  go_wp2_with fail
  refine (onex_c S HO none (p + 1) _ (Lib.hid HM.out.rd)).mono ?_
  intro e V8 h
  rcases one_ok h with ⟨h8, hd5, rfl, hr, hg⟩ | ⟨pz, er, hx, rfl, hr, hg⟩
  rotate_left
  · replace HM := Lib.hid (HM.out.call hr hg)
    clear hr hg h
    cases hb : decide (0 < xa)
    all_goals
      have hb2 : decide ((0 : Int) < (xa : Int)) = decide (0 < xa) := by simp
      rw [hb] at hb2
      have HT : Hid (methE S.n S.d k = some (pz, er)) := Lib.hid (by rw [HE.out, or_none h1.out, or_none h2.out, or_none h3.out, or_none h4.out, or_none h5.out, or_none h6.out, or_none h7.out, or_some hx.out])
      clear HN
      obtain ⟨r2, d2, _, _⟩ := r2_n HM.out.rd
      go_wp2_with fail
      clear d2 r2
      have HF : Hid (MF2 S w (some (pz, er)) 0 z5 V8) := Lib.hid ⟨HM.out.rd, HM.out.res, HM.out.gr⟩
      obtain ⟨y0, _⟩ := HM.out.y 0 (.slice a0 u f0) rfl
      obtain ⟨u0, t0⟩ := HF.out.y 0 _ rfl
      obtain ⟨y1, _⟩ := HM.out.y 1 (.int .i64 (rt : Nat)) rfl
      obtain ⟨u1, t1⟩ := HF.out.y 1 _ rfl
      obtain ⟨y2, _⟩ := HM.out.y 2 (.slice a1 l f1) rfl
      obtain ⟨u2, t2⟩ := HF.out.y 2 _ rfl
      obtain ⟨y3, _⟩ := HM.out.y 3 (.int .i64 (sk : Nat)) rfl
      obtain ⟨u3, t3⟩ := HF.out.y 3 _ rfl
      obtain ⟨y4, _⟩ := HM.out.y 4 (.slice none 0 0) rfl
      obtain ⟨u4, t4⟩ := HF.out.y 4 _ rfl
      obtain ⟨r2, d2, _, _⟩ := r2_n HM.out.rd
      refine wp_loop_rounds 1 ?_
      rw [rounds_succ]
      go_wp2
      clear y0 y1 y2 y3 y4 u0 u1 u2 u3 u4 t0 t1 t2 t3 t4 r2 d2
      replace HF := Lib.hid (HF.out.set HW.out 0 (.slice a0 u f0) rfl)
      generalize V8.setCell ⟨w.heap.size, 0, none⟩ (.slice a0 u f0) = fw0 at HF ⊢
      replace HF := Lib.hid (HF.out.set HW.out 1 (.int .i64 (rt : Nat)) rfl)
      generalize fw0.setCell ⟨w.heap.size, 1, none⟩ (.int .i64 (rt : Nat)) = fw1 at HF ⊢
      replace HF := Lib.hid (HF.out.set HW.out 2 (.slice a1 l f1) rfl)
      generalize fw1.setCell ⟨w.heap.size, 2, none⟩ (.slice a1 l f1) = fw2 at HF ⊢
      replace HF := Lib.hid (HF.out.set HW.out 3 (.int .i64 (sk : Nat)) rfl)
      generalize fw2.setCell ⟨w.heap.size, 3, none⟩ (.int .i64 (sk : Nat)) = fw3 at HF ⊢
      replace HF := Lib.hid (HF.out.set HW.out 4 (.slice none 0 0) rfl)
      generalize fw3.setCell ⟨w.heap.size, 4, none⟩ (.slice none 0 0) = fw4 at HF ⊢
      have fa0 : fw4.cell? ⟨w.heap.size, 0, none⟩ = some (.slice a0 u f0) := (HF.out.y 0 _ rfl).1
      have fa1 : fw4.cell? ⟨w.heap.size, 1, none⟩ = some (.int .i64 (rt : Nat)) := (HF.out.y 1 _ rfl).1
      have fa2 : fw4.cell? ⟨w.heap.size, 2, none⟩ = some (.slice a1 l f1) := (HF.out.y 2 _ rfl).1
      have fa3 : fw4.cell? ⟨w.heap.size, 3, none⟩ = some (.int .i64 (sk : Nat)) := (HF.out.y 3 _ rfl).1
      have fa4 : fw4.cell? ⟨w.heap.size, 4, none⟩ = some (.slice none 0 0) := (HF.out.y 4 _ rfl).1
      have HEnd : Hid (MthR S k w (.returned (.agg #[.slice a0 u f0, .int .i64 (rt : Nat), .slice a1 l f1, .int .i64 (sk : Nat), .slice none 0 0])) fw4) := Lib.hid (Or.inr ⟨pz, er, HT.out, _, _, _, _, _, _, _, _, _, _, _, rfl, HF.out.rd, HF.out.gr⟩)
      exact bodyPost_ret (v := .agg #[.slice a0 u f0, .int .i64 (rt : Nat), .slice a1 l f1, .int .i64 (sk : Nat), .slice none 0 0]) (by simp [results, Try.results49, go_sem, fa0, fa1, fa2, fa3, fa4]) rfl HEnd.out
  rw [HXB.out] at hd5 ⊢
  replace HN := Lib.hid (HN.out.call2 HM.out.rd hg)
  replace HM := Lib.hid (HM.out.call hr hg)
  clear hr hg h
  have hsm : (xa : Int) + 256 * (xb : Int) = (sz : Int) := by have := HSZ.out; omega
  have hszb : sz ≤ 65535 := by omega
  obtain ⟨_, r1, r2, _, _, _, _⟩ := r2_y HM.out.rd
  clear r1
  by_cases hbig : 4096 < sz
  · have d2 : decide ((4096 : Int) < (sz : Int)) = true := decide_eq_true (by omega)
    have d3 : decide ((0 : Int) < (sz : Int)) = true := decide_eq_true (by omega)
    have d4 : decide (0 < sz) = true := decide_eq_true (by omega)
    go_wp2_with fail
    clear d2 r2
    refine (failx_c S (p + 1 + 1) p 2 (by decide) _ (Lib.hid HM.out.rd) 0).mono ?_
    rintro e V8t ⟨rfl, hr, hg⟩
    replace HM := Lib.hid (HM.out.call hr hg)
    clear hr hg
    obtain ⟨pz, hpz⟩ : ∃ x, p = x := ⟨_, rfl⟩
    obtain ⟨er, her⟩ : ∃ x : Int, 2 = x := ⟨_, rfl⟩
    rw [her] at HM
    have HT0 : Hid (methE S.n S.d k = some (p, er)) := Lib.hid (by rw [HE.out, or_none h1.out, or_none h2.out, or_none h3.out, or_none h4.out, or_none h5.out, or_none h6.out, or_none h7.out, or_none h8.out, ← her]; exact or_some (if_pos hbig))
    subst hpz
    have HT : Hid (methE S.n S.d k = some (p, er)) := Lib.hid (by exact HT0.out)
    clear HN
    obtain ⟨r2, d2, _, _⟩ := r2_n HM.out.rd
    go_wp2_with fail
    clear d2 r2
    have HF : Hid (MF2 S w (some (p, er)) 0 z5 V8t) := Lib.hid ⟨HM.out.rd, HM.out.res, HM.out.gr⟩
    obtain ⟨y0, _⟩ := HM.out.y 0 (.slice a0 u f0) rfl
    obtain ⟨u0, t0⟩ := HF.out.y 0 _ rfl
    obtain ⟨y1, _⟩ := HM.out.y 1 (.int .i64 (rt : Nat)) rfl
    obtain ⟨u1, t1⟩ := HF.out.y 1 _ rfl
    obtain ⟨y2, _⟩ := HM.out.y 2 (.slice a1 l f1) rfl
    obtain ⟨u2, t2⟩ := HF.out.y 2 _ rfl
    obtain ⟨y3, _⟩ := HM.out.y 3 (.int .i64 (sk : Nat)) rfl
    obtain ⟨u3, t3⟩ := HF.out.y 3 _ rfl
    obtain ⟨y4, _⟩ := HM.out.y 4 (.slice none 0 0) rfl
    obtain ⟨u4, t4⟩ := HF.out.y 4 _ rfl
    obtain ⟨r2, d2, _, _⟩ := r2_n HM.out.rd
    refine wp_loop_rounds 1 ?_
    rw [rounds_succ]
    go_wp2
    clear y0 y1 y2 y3 y4 u0 u1 u2 u3 u4 t0 t1 t2 t3 t4 r2 d2
    replace HF := Lib.hid (HF.out.set HW.out 0 (.slice a0 u f0) rfl)
    generalize V8t.setCell ⟨w.heap.size, 0, none⟩ (.slice a0 u f0) = fw0 at HF ⊢
    replace HF := Lib.hid (HF.out.set HW.out 1 (.int .i64 (rt : Nat)) rfl)
    generalize fw0.setCell ⟨w.heap.size, 1, none⟩ (.int .i64 (rt : Nat)) = fw1 at HF ⊢
    replace HF := Lib.hid (HF.out.set HW.out 2 (.slice a1 l f1) rfl)
    generalize fw1.setCell ⟨w.heap.size, 2, none⟩ (.slice a1 l f1) = fw2 at HF ⊢
    replace HF := Lib.hid (HF.out.set HW.out 3 (.int .i64 (sk : Nat)) rfl)
    generalize fw2.setCell ⟨w.heap.size, 3, none⟩ (.int .i64 (sk : Nat)) = fw3 at HF ⊢
    replace HF := Lib.hid (HF.out.set HW.out 4 (.slice none 0 0) rfl)
    generalize fw3.setCell ⟨w.heap.size, 4, none⟩ (.slice none 0 0) = fw4 at HF ⊢
    have fa0 : fw4.cell? ⟨w.heap.size, 0, none⟩ = some (.slice a0 u f0) := (HF.out.y 0 _ rfl).1
    have fa1 : fw4.cell? ⟨w.heap.size, 1, none⟩ = some (.int .i64 (rt : Nat)) := (HF.out.y 1 _ rfl).1
    have fa2 : fw4.cell? ⟨w.heap.size, 2, none⟩ = some (.slice a1 l f1) := (HF.out.y 2 _ rfl).1
    have fa3 : fw4.cell? ⟨w.heap.size, 3, none⟩ = some (.int .i64 (sk : Nat)) := (HF.out.y 3 _ rfl).1
    have fa4 : fw4.cell? ⟨w.heap.size, 4, none⟩ = some (.slice none 0 0) := (HF.out.y 4 _ rfl).1
    have HEnd : Hid (MthR S k w (.returned (.agg #[.slice a0 u f0, .int .i64 (rt : Nat), .slice a1 l f1, .int .i64 (sk : Nat), .slice none 0 0])) fw4) := Lib.hid (Or.inr ⟨p, er, HT.out, _, _, _, _, _, _, _, _, _, _, _, rfl, HF.out.rd, HF.out.gr⟩)
    exact bodyPost_ret (v := .agg #[.slice a0 u f0, .int .i64 (rt : Nat), .slice a1 l f1, .int .i64 (sk : Nat), .slice none 0 0]) (by simp [results, Try.results49, go_sem, fa0, fa1, fa2, fa3, fa4]) rfl HEnd.out
  have d2 : decide ((4096 : Int) < (sz : Int)) = false := decide_eq_false (by omega)
  by_cases hz : sz = 0
  · have d3 : ((sz : Int) == 0) = true := by rw [hz]; rfl
    have d4 : decide (0 < sz) = false := decide_eq_false (by omega)
    have d5 : decide ((0 : Int) < (sz : Int)) = false := decide_eq_false (by omega)
    go_wp2_with fail
    clear d2 r2
    refine (failx_c S (p + 1 + 1) p 26 (by decide) _ (Lib.hid HM.out.rd) 0).mono ?_
    rintro e V8t ⟨rfl, hr, hg⟩
    replace HM := Lib.hid (HM.out.call hr hg)
    clear hr hg
    obtain ⟨er, her⟩ : ∃ x : Int, 26 = x := ⟨_, rfl⟩
    rw [her] at HM
    have HT0 : Hid (methE S.n S.d k = some (p, er)) := Lib.hid (by rw [HE.out, or_none h1.out, or_none h2.out, or_none h3.out, or_none h4.out, or_none h5.out, or_none h6.out, or_none h7.out, or_none h8.out, ← her]; exact or_some ((if_neg hbig).trans (if_pos hz)))
    have HT : Hid (methE S.n S.d k = some (p, er)) := Lib.hid (by exact HT0.out)
    clear HN
    obtain ⟨r2, d2, _, _⟩ := r2_n HM.out.rd
    go_wp2_with fail
    clear d2 r2
    have HF : Hid (MF2 S w (some (p, er)) 0 z5 V8t) := Lib.hid ⟨HM.out.rd, HM.out.res, HM.out.gr⟩
    obtain ⟨y0, _⟩ := HM.out.y 0 (.slice a0 u f0) rfl
    obtain ⟨u0, t0⟩ := HF.out.y 0 _ rfl
    obtain ⟨y1, _⟩ := HM.out.y 1 (.int .i64 (rt : Nat)) rfl
    obtain ⟨u1, t1⟩ := HF.out.y 1 _ rfl
    obtain ⟨y2, _⟩ := HM.out.y 2 (.slice a1 l f1) rfl
    obtain ⟨u2, t2⟩ := HF.out.y 2 _ rfl
    obtain ⟨y3, _⟩ := HM.out.y 3 (.int .i64 (sk : Nat)) rfl
    obtain ⟨u3, t3⟩ := HF.out.y 3 _ rfl
    obtain ⟨y4, _⟩ := HM.out.y 4 (.slice none 0 0) rfl
    obtain ⟨u4, t4⟩ := HF.out.y 4 _ rfl
    obtain ⟨r2, d2, _, _⟩ := r2_n HM.out.rd
    refine wp_loop_rounds 1 ?_
    rw [rounds_succ]
    go_wp2
    clear y0 y1 y2 y3 y4 u0 u1 u2 u3 u4 t0 t1 t2 t3 t4 r2 d2
    replace HF := Lib.hid (HF.out.set HW.out 0 (.slice a0 u f0) rfl)
    generalize V8t.setCell ⟨w.heap.size, 0, none⟩ (.slice a0 u f0) = fw0 at HF ⊢
    replace HF := Lib.hid (HF.out.set HW.out 1 (.int .i64 (rt : Nat)) rfl)
    generalize fw0.setCell ⟨w.heap.size, 1, none⟩ (.int .i64 (rt : Nat)) = fw1 at HF ⊢
    replace HF := Lib.hid (HF.out.set HW.out 2 (.slice a1 l f1) rfl)
    generalize fw1.setCell ⟨w.heap.size, 2, none⟩ (.slice a1 l f1) = fw2 at HF ⊢
    replace HF := Lib.hid (HF.out.set HW.out 3 (.int .i64 (sk : Nat)) rfl)
    generalize fw2.setCell ⟨w.heap.size, 3, none⟩ (.int .i64 (sk : Nat)) = fw3 at HF ⊢
    replace HF := Lib.hid (HF.out.set HW.out 4 (.slice none 0 0) rfl)
    generalize fw3.setCell ⟨w.heap.size, 4, none⟩ (.slice none 0 0) = fw4 at HF ⊢
    have fa0 : fw4.cell? ⟨w.heap.size, 0, none⟩ = some (.slice a0 u f0) := (HF.out.y 0 _ rfl).1
    have fa1 : fw4.cell? ⟨w.heap.size, 1, none⟩ = some (.int .i64 (rt : Nat)) := (HF.out.y 1 _ rfl).1
    have fa2 : fw4.cell? ⟨w.heap.size, 2, none⟩ = some (.slice a1 l f1) := (HF.out.y 2 _ rfl).1
    have fa3 : fw4.cell? ⟨w.heap.size, 3, none⟩ = some (.int .i64 (sk : Nat)) := (HF.out.y 3 _ rfl).1
    have fa4 : fw4.cell? ⟨w.heap.size, 4, none⟩ = some (.slice none 0 0) := (HF.out.y 4 _ rfl).1
    have HEnd : Hid (MthR S k w (.returned (.agg #[.slice a0 u f0, .int .i64 (rt : Nat), .slice a1 l f1, .int .i64 (sk : Nat), .slice none 0 0])) fw4) := Lib.hid (Or.inr ⟨p, er, HT.out, _, _, _, _, _, _, _, _, _, _, _, rfl, HF.out.rd, HF.out.gr⟩)
    exact bodyPost_ret (v := .agg #[.slice a0 u f0, .int .i64 (rt : Nat), .slice a1 l f1, .int .i64 (sk : Nat), .slice none 0 0]) (by simp [results, Try.results49, go_sem, fa0, fa1, fa2, fa3, fa4]) rfl HEnd.out
  have d3 : ((sz : Int) == 0) = false := by simpa using hz
  have HE3 : Hid (methE S.n S.d k = firE (fun i => nxE S.n S.d 0 anyB (p + 2 + i)) sz) := Lib.hid (by rw [HE.out, or_none h1.out, or_none h2.out, or_none h3.out, or_none h4.out, or_none h5.out, or_none h6.out, or_none h7.out, or_none h8.out]; exact or_none ((if_neg hbig).trans (if_neg hz)))
  go_wp2_with fail
  clear d2 d3 r2 hsm
  go_loopw [7] (fun ix wr => ∃ (j : Nat) (V : Value), j ≤ sz ∧ ix = .int .i64 j ∧ Hid ((firE (fun i => nxE S.n S.d 0 anyB (p + 2 + i)) j = none ∧ MB2 S w none (p + 2 + j) #[.slice a0 u f0, .int .i64 (rt : Nat), .slice a1 l f1, .int .i64 (sk : Nat), V] wr ∧ MO w (.slice a0 u f0) u (els1 u fun i => .int .i64 (S.d (k + 1 + i) : Nat)) (.slice a1 l f1) l (els1 l fun i => .int .i64 (S.d (q + 2 + i) : Nat)) V j (els1 j fun i => .int .u8 (S.d (p + 2 + i) : Nat)) wr) ∨ (∃ pz er, methE S.n S.d k = some (pz, er) ∧ MB2 S w (some (pz, er)) 0 #[.slice a0 u f0, .int .i64 (rt : Nat), .slice a1 l f1, .int .i64 (sk : Nat), V] wr ∧ AnyS V))) (fun ix _ => sz - (intOf ix).toNat)
  case atStart => exact ⟨0, nilV, by omega, rfl, Lib.hid (Or.inl ⟨rfl, HM.out, HN.out⟩)⟩
  case round =>
    clear HM HN
    obtain ⟨j, V, hj, rfl, HQ⟩ := hrel
    rcases HQ.out with ⟨g1, g2, g3⟩ | ⟨pz, er, g1, g2, ga, gn, gc, rfl⟩
    rotate_left
    · have HM := Lib.hid g2
      have HT := Lib.hid g1
      clear g1 g2 HQ
      cases hb : decide (j < sz)
      all_goals
        have hb2 : decide ((j : Int) < (sz : Int)) = decide (j < sz) := by simp
        rw [hb] at hb2
        have HF : Hid (MF2 S w (some (pz, er)) 0 z5 wr) := Lib.hid ⟨HM.out.rd, HM.out.res, HM.out.gr⟩
        obtain ⟨y0, _⟩ := HM.out.y 0 (.slice a0 u f0) rfl
        obtain ⟨u0, t0⟩ := HF.out.y 0 _ rfl
        obtain ⟨y1, _⟩ := HM.out.y 1 (.int .i64 (rt : Nat)) rfl
        obtain ⟨u1, t1⟩ := HF.out.y 1 _ rfl
        obtain ⟨y2, _⟩ := HM.out.y 2 (.slice a1 l f1) rfl
        obtain ⟨u2, t2⟩ := HF.out.y 2 _ rfl
        obtain ⟨y3, _⟩ := HM.out.y 3 (.int .i64 (sk : Nat)) rfl
        obtain ⟨u3, t3⟩ := HF.out.y 3 _ rfl
        obtain ⟨y4, _⟩ := HM.out.y 4 (.slice ga gn gc) rfl
        obtain ⟨u4, t4⟩ := HF.out.y 4 _ rfl
        obtain ⟨r2, d2, _, _⟩ := r2_n HM.out.rd
        go_wp2
        clear y0 y1 y2 y3 y4 u0 u1 u2 u3 u4 t0 t1 t2 t3 t4 r2 d2
        replace HF := Lib.hid (HF.out.set HW.out 0 (.slice a0 u f0) rfl)
        generalize wr.setCell ⟨w.heap.size, 0, none⟩ (.slice a0 u f0) = fw0 at HF ⊢
        replace HF := Lib.hid (HF.out.set HW.out 1 (.int .i64 (rt : Nat)) rfl)
        generalize fw0.setCell ⟨w.heap.size, 1, none⟩ (.int .i64 (rt : Nat)) = fw1 at HF ⊢
        replace HF := Lib.hid (HF.out.set HW.out 2 (.slice a1 l f1) rfl)
        generalize fw1.setCell ⟨w.heap.size, 2, none⟩ (.slice a1 l f1) = fw2 at HF ⊢
        replace HF := Lib.hid (HF.out.set HW.out 3 (.int .i64 (sk : Nat)) rfl)
        generalize fw2.setCell ⟨w.heap.size, 3, none⟩ (.int .i64 (sk : Nat)) = fw3 at HF ⊢
        replace HF := Lib.hid (HF.out.set HW.out 4 (.slice ga gn gc) rfl)
        generalize fw3.setCell ⟨w.heap.size, 4, none⟩ (.slice ga gn gc) = fw4 at HF ⊢
        have fa0 : fw4.cell? ⟨w.heap.size, 0, none⟩ = some (.slice a0 u f0) := (HF.out.y 0 _ rfl).1
        have fa1 : fw4.cell? ⟨w.heap.size, 1, none⟩ = some (.int .i64 (rt : Nat)) := (HF.out.y 1 _ rfl).1
        have fa2 : fw4.cell? ⟨w.heap.size, 2, none⟩ = some (.slice a1 l f1) := (HF.out.y 2 _ rfl).1
        have fa3 : fw4.cell? ⟨w.heap.size, 3, none⟩ = some (.int .i64 (sk : Nat)) := (HF.out.y 3 _ rfl).1
        have fa4 : fw4.cell? ⟨w.heap.size, 4, none⟩ = some (.slice ga gn gc) := (HF.out.y 4 _ rfl).1
        have HEnd : Hid (MthR S k w (.returned (.agg #[.slice a0 u f0, .int .i64 (rt : Nat), .slice a1 l f1, .int .i64 (sk : Nat), .slice ga gn gc])) fw4) := Lib.hid (Or.inr ⟨pz, er, HT.out, _, _, _, _, _, _, _, _, _, _, _, rfl, HF.out.rd, HF.out.gr⟩)
        exact bodyPost_ret (v := .agg #[.slice a0 u f0, .int .i64 (rt : Nat), .slice a1 l f1, .int .i64 (sk : Nat), .slice ga gn gc]) (by simp [results, Try.results49, go_sem, fa0, fa1, fa2, fa3, fa4]) rfl HEnd.out
    have HG1 := Lib.hid g1
    have HM := Lib.hid g2
    have HN := Lib.hid g3
    clear g1 g2 g3 HQ
    obtain ⟨_, _, r2, _, _, _, _⟩ := r2_y HM.out.rd
    by_cases hjm : j < sz
    · have gj : (j : Int) < sz := by omega
      have dj : decide (j < sz) = true := decide_eq_true hjm
      go_wp2
      clear dj r2
      have HMd := Lib.hid HM.out.drew
      have HNd : Hid (MO w (.slice a0 u f0) u (els1 u fun i => .int .i64 (S.d (k + 1 + i) : Nat)) (.slice a1 l f1) l (els1 l fun i => .int .i64 (S.d (q + 2 + i) : Nat)) V j (els1 j fun i => .int .u8 (S.d (p + 2 + i) : Nat)) wr.drew) := Lib.hid (HN.out.keep (.drew _) (.drew _))
      have HC := Lib.hid (onex_c S HO none (p + 2 + j) wr.drew (Lib.hid HMd.out.rd))
      obtain ⟨x, hx0⟩ : ∃ x, S.d (p + 2 + j) = x := ⟨_, rfl⟩
      have HX := Lib.hid hx0
      clear hx0
      obtain ⟨q0, _⟩ := HMd.out.y 4 V rfl
      obtain ⟨i0, ii, iz0, iz1, iz2⟩ := info_parts info5
      by_cases hkn : p + 2 + j < S.n
      · have HC2 : Hid (Calls Try.prog 46 #[.pointer (some ⟨S.R, 0, none⟩)] wr.drew fun e w' => e = .returned (.int .i64 (x : Nat)) ∧ x < 256 ∧ R2 S none (p + 2 + j + 1) w' ∧ wr.drew.grownBy w' (some S.R)) := Lib.hid (HC.out.mono fun e w' h => by
          rcases one_ok h with ⟨h1, h2, h3, h4, h5⟩ | ⟨_, _, h1, _⟩
          · rw [HX.out] at h2 h3; exact ⟨h3, h2, h4, h5⟩
          · rw [nxE_ok hkn rfl] at h1; exact absurd h1.out (by simp))
        have hx2 : nxE S.n S.d 0 anyB (p + 2 + j) = none := nxE_ok hkn rfl
        have HX2 := Lib.hid hx2
        clear hx2 HC
        go_region_law (first | (go_simp; go_at_call 46; refine HC2.out.mono ?_; rintro e w4 ⟨rfl, hd, hr, hg⟩; have hwr : IntKind.u8.wrap (x : Int) = x := (by rw [IntKind.wrap_u8]; omega); have HM4 := Lib.hid (HMd.out.call hr hg); have HN4 := Lib.hid (HNd.out.call2 HMd.out.rd hg); obtain ⟨q4, _⟩ := HM4.out.y 4 V rfl; obtain ⟨q4a, _⟩ := (HM4.out.alloc (.cells #[.int .u8 (x : Nat)] 5)).y 4 V rfl; clear hr hg) | (refine step_append_lies _ (by rfl) (.tmp 110) (.tmp 114) 29 (by rfl) (w.heap.size + 2) 5 i0 _ 1 1 Try.underlying29 ii iz0 iz1 iz2 rfl (by decide) V j (els1 j fun i => .int .u8 (S.d (p + 2 + i) : Nat)) (by rfl) (HN4.out.alloc _).c ⟨w4.heap.size, 0, none⟩ 1 1 [.int .u8 (x : Nat)] (by rfl) (by rfl) (World.news_of_block (cs := #[.int .u8 (x : Nat)]) (t := 5) (fr := (0, 0)) (heap_alloc_new w4 _)) (by simp [Value.oneCell']) (by omega) (by unfold maxLen; omega) (by omega) (by have := HM4.out.sz; simp; omega) (w4.heap.size + 1) (by simp) ?_; intro gg cap5 w5 hown5 hgrow _ _; have HM5 := Lib.hid (HM4.out.app HW.out HN4.out.c hgrow); have HN5 := Lib.hid (HN4.out.app hgrow hown5); obtain ⟨q5, z5'⟩ := HM5.out.y 4 V rfl; clear hown5 hgrow))
        all_goals
          clear q0 q4 q4a hwr
          go_wp2_with fail
          exact ⟨⟨j + 1, _, by omega, by go_num, Lib.hid (Or.inl ⟨firE_succ HG1.out HX2.out, HM5.out.set HW.out 4 _ rfl, by rw [← els1_snoc j _ (.int .u8 (x : Nat)) (by rw [HX.out])]; exact HN5.out.set2 HM5.out 4 _⟩)⟩, by simp [intOf]; omega⟩
      · have HC2 : Hid (Calls Try.prog 46 #[.pointer (some ⟨S.R, 0, none⟩)] wr.drew fun e w' => e = .returned (.int .i64 0) ∧ R2 S (some (S.n, 6)) 0 w' ∧ wr.drew.grownBy w' (some S.R)) := Lib.hid (HC.out.mono fun e w' h => by
          rcases one_ok h with ⟨h1, _⟩ | ⟨p', er, h1, h2, h3, h4⟩
          · rw [nxE_short (by omega)] at h1; exact absurd h1.out (by simp)
          · have h9 := h1.out
            rw [nxE_short (by omega)] at h9
            injection h9 with h9
            injection h9 with h8 h9
            subst h8 h9
            exact ⟨h2, h3, h4⟩)
        have hx2 : nxE S.n S.d 0 anyB (p + 2 + j) = some (S.n, 6) := nxE_short (by omega)
        have HT2 : Hid (methE S.n S.d k = some (S.n, 6)) := Lib.hid (HE3.out.trans (firE_at HG1.out hx2 hjm))
        clear hx2 HC
        have hwr : IntKind.u8.wrap 0 = 0 := by kernel_rfl
        go_region_law (first | (go_simp; go_at_call 46; refine HC2.out.mono ?_; rintro e w4 ⟨rfl, hr, hg⟩; have HM4 := Lib.hid (HMd.out.call hr hg); have HN4 := Lib.hid (HNd.out.call2 HMd.out.rd hg); obtain ⟨q4, _⟩ := HM4.out.y 4 V rfl; obtain ⟨q4a, _⟩ := (HM4.out.alloc (.cells #[.int .u8 0] 5)).y 4 V rfl; clear hr hg) | (refine step_append_lies _ (by rfl) (.tmp 110) (.tmp 114) 29 (by rfl) (w.heap.size + 2) 5 i0 _ 1 1 Try.underlying29 ii iz0 iz1 iz2 rfl (by decide) V j (els1 j fun i => .int .u8 (S.d (p + 2 + i) : Nat)) (by rfl) (HN4.out.alloc _).c ⟨w4.heap.size, 0, none⟩ 1 1 [.int .u8 0] (by rfl) (by rfl) (World.news_of_block (cs := #[.int .u8 0]) (t := 5) (fr := (0, 0)) (heap_alloc_new w4 _)) (by simp [Value.oneCell']) (by omega) (by unfold maxLen; omega) (by omega) (by have := HM4.out.sz; simp; omega) (w4.heap.size + 1) (by simp) ?_; intro gg cap5 w5 hown5 hgrow _ _; have HM5 := Lib.hid (HM4.out.app HW.out HN4.out.c hgrow); obtain ⟨q5, z5'⟩ := HM5.out.y 4 V rfl; clear hown5 hgrow))
        all_goals
          clear q0 q4 q4a hwr
          go_wp2_with fail
          exact ⟨⟨j + 1, _, by omega, by go_num, Lib.hid (Or.inr ⟨_, _, HT2.out, HM5.out.set HW.out 4 _ rfl, ⟨_, _, _, rfl⟩⟩)⟩, by simp [intOf]; omega⟩
    · obtain rfl : sz = j := by omega
      have dj : decide (sz < sz) = false := by simp
      obtain ⟨a2, f2, rfl⟩ := own_slice HN.out.c
      have HF : Hid (MF2 S w none (p + 2 + sz) z5 wr) := Lib.hid ⟨HM.out.rd, HM.out.res, HM.out.gr⟩
      have HN9 := HN
      have HEnd := Lib.hid (HE3.out.trans HG1.out)
      obtain ⟨y0, _⟩ := HM.out.y 0 (.slice a0 u f0) rfl
      obtain ⟨u0, t0⟩ := HF.out.y 0 _ rfl
      obtain ⟨y1, _⟩ := HM.out.y 1 (.int .i64 (rt : Nat)) rfl
      obtain ⟨u1, t1⟩ := HF.out.y 1 _ rfl
      obtain ⟨y2, _⟩ := HM.out.y 2 (.slice a1 l f1) rfl
      obtain ⟨u2, t2⟩ := HF.out.y 2 _ rfl
      obtain ⟨y3, _⟩ := HM.out.y 3 (.int .i64 (sk : Nat)) rfl
      obtain ⟨u3, t3⟩ := HF.out.y 3 _ rfl
      obtain ⟨y4, _⟩ := HM.out.y 4 (.slice a2 sz f2) rfl
      obtain ⟨u4, t4⟩ := HF.out.y 4 _ rfl
      clear HM HN
      go_wp2
      clear y0 y1 y2 y3 y4 u0 u1 u2 u3 u4 t0 t1 t2 t3 t4 dj r2
      replace HN9 := Lib.hid (HN9.out.fset2 HF.out 0 (.slice a0 u f0))
      replace HF := Lib.hid (HF.out.set HW.out 0 (.slice a0 u f0) rfl)
      generalize wr.setCell ⟨w.heap.size, 0, none⟩ (.slice a0 u f0) = fw0 at HF HN9 ⊢
      replace HN9 := Lib.hid (HN9.out.fset2 HF.out 1 (.int .i64 (rt : Nat)))
      replace HF := Lib.hid (HF.out.set HW.out 1 (.int .i64 (rt : Nat)) rfl)
      generalize fw0.setCell ⟨w.heap.size, 1, none⟩ (.int .i64 (rt : Nat)) = fw1 at HF HN9 ⊢
      replace HN9 := Lib.hid (HN9.out.fset2 HF.out 2 (.slice a1 l f1))
      replace HF := Lib.hid (HF.out.set HW.out 2 (.slice a1 l f1) rfl)
      generalize fw1.setCell ⟨w.heap.size, 2, none⟩ (.slice a1 l f1) = fw2 at HF HN9 ⊢
      replace HN9 := Lib.hid (HN9.out.fset2 HF.out 3 (.int .i64 (sk : Nat)))
      replace HF := Lib.hid (HF.out.set HW.out 3 (.int .i64 (sk : Nat)) rfl)
      generalize fw2.setCell ⟨w.heap.size, 3, none⟩ (.int .i64 (sk : Nat)) = fw3 at HF HN9 ⊢
      replace HN9 := Lib.hid (HN9.out.fset2 HF.out 4 (.slice a2 sz f2))
      replace HF := Lib.hid (HF.out.set HW.out 4 (.slice a2 sz f2) rfl)
      generalize fw3.setCell ⟨w.heap.size, 4, none⟩ (.slice a2 sz f2) = fw4 at HF HN9 ⊢
      have fa0 : fw4.cell? ⟨w.heap.size, 0, none⟩ = some (.slice a0 u f0) := (HF.out.y 0 _ rfl).1
      have fa1 : fw4.cell? ⟨w.heap.size, 1, none⟩ = some (.int .i64 (rt : Nat)) := (HF.out.y 1 _ rfl).1
      have fa2 : fw4.cell? ⟨w.heap.size, 2, none⟩ = some (.slice a1 l f1) := (HF.out.y 2 _ rfl).1
      have fa3 : fw4.cell? ⟨w.heap.size, 3, none⟩ = some (.int .i64 (sk : Nat)) := (HF.out.y 3 _ rfl).1
      have fa4 : fw4.cell? ⟨w.heap.size, 4, none⟩ = some (.slice a2 sz f2) := (HF.out.y 4 _ rfl).1
      have HFin : Hid (MthR S k w (.returned (.agg #[.slice a0 u f0, .int .i64 (rt : Nat), .slice a1 l f1, .int .i64 (sk : Nat), .slice a2 sz f2])) fw4) := Lib.hid (Or.inl ⟨HEnd.out, _, rfl, (by
        have e1 : k + 1 + S.d k = q := by rw [HU.out]; exact HQ0.out
        have e2 : k + 2 + S.d k = q + 1 := by omega
        have e3 : k + 3 + S.d k = q + 2 := by omega
        have e6 : k + 6 + S.d k + S.d (k + 2 + S.d k) = p + 2 := by rw [e2, HLL.out]; have := HP0.out; omega
        have em : mSz S.d k = sz := by
          unfold mSz
          rw [show k + 4 + S.d k + S.d (k + 2 + S.d k) = p by omega, show k + 5 + S.d k + S.d (k + 2 + S.d k) = p + 1 by omega, HXA.out, HXB.out]
          exact HSZ.out
        unfold MethV
        rw [em, e6, e2, HLL.out, e3, e1, HU.out, HRT.out, HSK.out]
        exact ⟨a0, f0, a1, f1, a2, f2, rfl, own_mono HN9.out.a (by omega), own_mono HN9.out.b (by omega), own_mono HN9.out.c (by omega)⟩), (HF.out.rd.at (by
        have e1 : k + 1 + S.d k = q := by rw [HU.out]; exact HQ0.out
        have e2 : k + 2 + S.d k = q + 1 := by omega
        have e6 : k + 6 + S.d k + S.d (k + 2 + S.d k) = p + 2 := by rw [e2, HLL.out]; have := HP0.out; omega
        have em : mSz S.d k = sz := by
          unfold mSz
          rw [show k + 4 + S.d k + S.d (k + 2 + S.d k) = p by omega, show k + 5 + S.d k + S.d (k + 2 + S.d k) = p + 1 by omega, HXA.out, HXB.out]
          exact HSZ.out
        rw [em, e6])), HF.out.gr⟩)
      exact bodyPost_ret (v := .agg #[.slice a0 u f0, .int .i64 (rt : Nat), .slice a1 l f1, .int .i64 (sk : Nat), .slice a2 sz f2]) (by simp [results, Try.results49, go_sem, fa0, fa1, fa2, fa3, fa4]) rfl HFin.out
end Go.Proofs.Ytpiafgmncfibmaa
