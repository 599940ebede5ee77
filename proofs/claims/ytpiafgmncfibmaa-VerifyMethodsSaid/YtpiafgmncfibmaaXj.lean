import Derived.StillTailTactics
import Derived.Laws.BitsLemmas
import Derived.IntWalk
import Derived.Laws.BitsAllLaws
import Derived.Deep.DrawnRows
import Derived.Test.YtpiafgmncfibmaaXi
import Derived.Test.YtpiafgmncfibmaaVl
import Derived.Test.YtpiafgmncfibmaaRows
import Derived.WalkKit
import Derived.ProofKit
import Derived.OpenShut
import Derived.Deep.QuietTactic
import Derived.BigQuiet
import Derived.Outline
import Derived.WalkSmall
import Derived.WalkLawsBesides
import Derived.WalkSpells
import Derived.BigGuardPart
import Derived.RegionTactic
import Derived.Deep.RegionHeld3
import Derived.Lib.Hide
import Derived.Deep.MidRow
import Derived.Below
import Derived.Deep.RegionWith
import Derived.Deep.OwnRows
import Derived.Deep.AppendLies
import Derived.Deep.RegionLaw
import Derived.Deep.CutBlock
import Derived.Deep.DeepCutAuto
namespace Go.Proofs.Ytpiafgmncfibmaa.Vf
open Go.ChangeShapes Go.WideShapes Go.ChangeAt Go.RowKit
set_option linter.unusedVariables false

/-- The document's state in memory. -/
structure StC (K : Fk) (w : World) (F : Fl) (X : Fx) : Prop where
  f : Bx w K.f #[.slice (some ⟨K.rs, 0, none⟩) K.n K.n, .slice (some ⟨K.rh, 0, none⟩) K.n K.n, .slice (some ⟨K.rg, 0, none⟩) K.n K.n] 122
  s : RowS w K.rs 72 K.n 2 (shF F X)
  h : RowF w K.rh 4 K.n (fun i => .bool (F.H i))
  g : RowF w K.rg 4 K.n (fun i => .bool (F.G i))
  ti : ∀ k, k < K.n → Ints w (X.a k) (F.S k).l
  tc : ∀ k, k < K.n → (F.S k).l.length ≤ X.c k
  tf : ∀ k, k < K.n → ∀ p, X.a k = some p → K.hi ≤ p.block
  tl : ∀ k, k < K.n → (F.S k).l.length ≤ 40
  t0 : ∀ k, k < K.n → 0 ≤ (F.S k).h
  t1 : ∀ k, k < K.n → (F.S k).h ≤ 10
  b : Below K.w0.heap.size K.w0 w
  hi : K.hi ≤ w.heap.size
theorem StC.below {K : Fk} {w w' : World} {F : Fl} {X : Fx} (h : StC K w F X) (k : Below w.heap.size w w') : StC K w' F X :=
  ⟨h.f.below k, h.s.below k, h.h.below k, h.g.below k, fun i hi => (h.ti i hi).kept (Kept.of k), h.tc, h.tf, h.tl, h.t0, h.t1, h.b.trans (k.mono h.b.size), Nat.le_trans h.hi k.size⟩
theorem StC.nfo {K : Fk} {w : World} {F : Fl} {X : Fx} (h : StC K w F X) : K.f ≠ K.rs ∧ K.f ≠ K.rh ∧ K.f ≠ K.rg ∧ K.rs ≠ K.rh ∧ K.rs ≠ K.rg := by
  have hf := h.f
  obtain ⟨Cs, hs, _⟩ := h.s
  obtain ⟨Ch, hh, _⟩ := h.h
  obtain ⟨Cg, hg, _⟩ := h.g
  exact ⟨hf.ne (show Bx w K.rs Cs 72 from hs) (by decide), hf.ne (show Bx w K.rh Ch 4 from hh) (by decide), hf.ne (show Bx w K.rg Cg 4 from hg) (by decide),
    Bx.ne (show Bx w K.rs Cs 72 from hs) (show Bx w K.rh Ch 4 from hh) (by decide), Bx.ne (show Bx w K.rs Cs 72 from hs) (show Bx w K.rg Cg 4 from hg) (by decide)⟩
theorem StC.setH {K : Fk} {w : World} {F : Fl} {X : Fx} (h : StC K w F X) (hK : FkOk K) (k : Nat) (v : Bool) : StC K (w.setCell ⟨K.rh, k, none⟩ (.bool v)) ⟨F.S, set1 F.H k v, F.G⟩ X := by
  obtain ⟨e2, e3, e4, e8, e9⟩ := h.nfo
  have hfr : Fr K w (w.setCell ⟨K.rh, k, none⟩ (.bool v)) := Fr.set (.inr (.inr (.inr (.inl rfl)))) k _
  exact ⟨h.f.far e3 _ _, h.s.far e8 _ _, (h.h.set k (.bool v)).ext (fun i _ => by by_cases hik : i = k <;> simp [set1, hik]), h.g.far (Ne.symm hK.ne) _ _, fun i hi => hfr.ints (h.ti i hi) (h.tf i hi) hK, h.tc, h.tf, h.tl, h.t0, h.t1, h.b.setCell (p := ⟨K.rh, k, none⟩) hK.h0 _, Nat.le_trans h.hi hfr.size⟩
theorem StC.setG {K : Fk} {w : World} {F : Fl} {X : Fx} (h : StC K w F X) (hK : FkOk K) (k : Nat) : StC K (w.setCell ⟨K.rg, k, none⟩ (.bool true)) (F.gone k) X := by
  obtain ⟨e2, e3, e4, e8, e9⟩ := h.nfo
  have hfr : Fr K w (w.setCell ⟨K.rg, k, none⟩ (.bool true)) := Fr.set (.inr (.inr (.inr (.inr rfl)))) k _
  exact ⟨h.f.far e4 _ _, h.s.far e9 _ _, h.h.far hK.ne _ _, (h.g.set k (.bool true)).ext (fun i _ => by by_cases hik : i = k <;> simp [set1, Fl.gone, hik]), fun i hi => hfr.ints (h.ti i hi) (h.tf i hi) hK, h.tc, h.tf, h.tl, h.t0, h.t1, h.b.setCell (p := ⟨K.rg, k, none⟩) hK.g0 _, Nat.le_trans h.hi hfr.size⟩
theorem StC.setS {K : Fk} {w : World} {F : Fl} {X : Fx} {k : Nat} (h : StC K w F X) (hK : FkOk K) (hk : k < K.n) (s : Sh) (a : Option Addr) (c : Nat) (hI : Ints w a s.l) (hc : s.l.length ≤ c) (hf : ∀ p, a = some p → K.hi ≤ p.block) (hl : s.l.length ≤ 40) (h0 : 0 ≤ s.h) (h1 : s.h ≤ 10) :
    StC K ((w.setCell ⟨K.rs, k * 2, none⟩ (.slice a s.l.length c)).setCell ⟨K.rs, k * 2 + 1, none⟩ (.int .i64 s.h)) ⟨set1 F.S k s, F.H, F.G⟩ ⟨set1 X.a k a, set1 X.c k c⟩ := by
  obtain ⟨e2, e3, e4, e8, e9⟩ := h.nfo
  have hfr : Fr K w ((w.setCell ⟨K.rs, k * 2, none⟩ (.slice a s.l.length c)).setCell ⟨K.rs, k * 2 + 1, none⟩ (.int .i64 s.h)) := (Fr.set (.inr (.inr (.inl rfl))) _ _).trans (Fr.set (.inr (.inr (.inl rfl))) _ _)
  refine ⟨(h.f.far e2 _ _).far e2 _ _, ?_, (h.h.far (Ne.symm e8) _ _).far (Ne.symm e8) _ _, (h.g.far (Ne.symm e9) _ _).far (Ne.symm e9) _ _, fun i hi => ?_, fun i hi => ?_, fun i hi => ?_, fun i hi => ?_, fun i hi => ?_, fun i hi => ?_, (h.b.setCell (p := ⟨K.rs, k * 2, none⟩) hK.q0 _).setCell (p := ⟨K.rs, k * 2 + 1, none⟩) hK.q0 _, Nat.le_trans h.hi hfr.size⟩
  · refine RowS.ext (RowS.set (RowS.set (k := k) (j := 0) h.s hk (by omega) (.slice a s.l.length c)) (k := k) (j := 1) hk (by omega) (.int .i64 s.h)) (fun i j hi hj => ?_)
    unfold set2 shF set1
    by_cases hik : i = k
    · subst hik
      have : j = 0 ∨ j = 1 := by omega
      rcases this with rfl | rfl
      · simp
      · simp
    · simp [hik]
  all_goals
    by_cases hik : i = k
    · subst hik
      simp only [set1, if_true]
      first | exact hfr.ints hI hf hK | exact hc | exact hf | exact hl | exact h0 | exact h1
    · simp only [set1, if_neg hik]
      first | exact hfr.ints (h.ti i hi) (h.tf i hi) hK | exact h.tc i hi | exact h.tf i hi | exact h.tl i hi | exact h.t0 i hi | exact h.t1 i hi
def RchP (K : Fk) (w : World) (F : Fl) (k : Nat) (s : Sh) (e : Ending) (w' : World) : Prop := ∃ X', e = .returned (.int .i64 (if k = K.n then 26 else reachE F k s)) ∧ StC K w' (if k = K.n then F else reachF F k s) X' ∧ Fr K w w'
set_option maxRecDepth 100000 in
set_option maxHeartbeats 4000000 in
theorem reachx_c (K : Fk) (hK : FkOk K) (F : Fl) (X : Fx) (k : Nat) (s : Sh) (sa : Option Addr) (sc : Nat) (w : World) (h : StC K w F X) (hkn : k ≤ K.n) (hI : Ints w sa s.l) (hsc : s.l.length ≤ sc) (hsf : ∀ p, sa = some p → K.hi ≤ p.block) (hl : s.l.length ≤ 40) (h0 : 0 ≤ s.h) (h1 : s.h ≤ 10) :
    Calls Try.prog 115 #[.pointer (some ⟨K.f, 0, none⟩), .int .i64 k, .agg #[.slice sa s.l.length sc, .int .i64 s.h]] w (RchP K w F k s) := by
  have HF := Lib.hid h
  have HK := Lib.hid hK
  have n1 := hK.n1
  have HI : Hid (Ints w sa s.l ∧ s.l.length ≤ sc ∧ s.l.length ≤ 40 ∧ 0 ≤ s.h ∧ s.h ≤ 10 ∧ ∀ p, sa = some p → K.hi ≤ p.block) := Lib.hid ⟨hI, hsc, hl, h0, h1, hsf⟩
  obtain ⟨W0, hW0⟩ : ∃ W, W = w.alloc (.cells #[.slice sa s.l.length sc, .int .i64 s.h] 72) := ⟨_, rfl⟩
  have HW : Hid (Bx W0 w.heap.size #[.slice sa s.l.length sc, .int .i64 s.h] 72 ∧ Below w.heap.size w W0) := Lib.hid (by rw [hW0]; exact ⟨Bx.new w _ _, (Below.refl _ _).alloc (Nat.le_refl _) _⟩)
  have HE := Lib.hid hW0
  have HF0 : Hid (StC K W0 F X) := Lib.hid (h.below HW.out.2)
  have hfi := h.hi
  have nf := h.nfo
  clear h hW0 hK hI hsc hsf hl h0 h1
  have b0 : W0.cell? ⟨w.heap.size, 0, none⟩ = some (.slice sa s.l.length sc) := HW.out.1.cell 0
  have b1 : W0.cell? ⟨w.heap.size, 1, none⟩ = some (.int .i64 s.h) := HW.out.1.cell 1
  have f0 : W0.cell? ⟨K.f, 0, none⟩ = some (.slice (some ⟨K.rs, 0, none⟩) K.n K.n) := HF0.out.f.cell 0
  have f1 : W0.cell? ⟨K.f, 1, none⟩ = some (.slice (some ⟨K.rh, 0, none⟩) K.n K.n) := HF0.out.f.cell 1
  by_cases hkn' : k = K.n
  · have hP : ∀ V, Below W0.heap.size W0 V → RchP K w F k s (.returned (.int .i64 26)) V := fun V hb => ⟨X, by rw [if_pos hkn'], by rw [if_pos hkn']; exact HF0.out.below hb, (Fr.below HW.out.2).trans (Fr.below hb)⟩
    have HP := Lib.hid hP
    generalize RchP K w F k s = R at HP ⊢
    have d1 : ((k : Int) == (K.n : Int)) = true := by rw [hkn']; exact beq_self_eq_true _
    have d2 : (k == K.n) = true := by rw [hkn']; exact beq_self_eq_true _
    generalize K.n = nn at *
    clear hP hkn' nf
    go_enter Try.func115, Try.ntmps115
    go_upto_region 1 with fail
    rw [← HE.out]
    go_wp2
    exact HP.out _ (Below.refl _ _)
  have hk : k < K.n := by omega
  have hki : (k : Int) < K.n := by omega
  have hEnd : ∀ x w', reachE F k s = x → reachF F k s = F → Below W0.heap.size W0 w' → RchP K w F k s (.returned (.int .i64 x)) w' := fun x w' hx hf hb => ⟨X, by rw [hx, if_neg hkn'], by rw [if_neg hkn', hf]; exact HF0.out.below hb, (Fr.below HW.out.2).trans (Fr.below hb)⟩
  have hSet : ∀ X' w', reachE F k s = 0 → StC K w' (reachF F k s) X' → Fr K w w' → RchP K w F k s (.returned (.int .i64 0)) w' := fun X' w' hx hs hf => ⟨X', by rw [hx, if_neg hkn'], by rw [if_neg hkn']; exact hs, hf⟩
  have HEnd := Lib.hid hEnd
  have HSet := Lib.hid hSet
  generalize RchP K w F k s = R at HEnd HSet ⊢
  clear hEnd hSet
  have d1 : ((k : Int) == (K.n : Int)) = false := by simpa using (show ¬ (k : Int) = (K.n : Int) by omega)
  have d2 : (k == K.n) = false := by simpa using hkn'
  have dk : decide ((k : Int) < (K.n : Int)) = true := decide_eq_true hki
  clear hkn'
  by_cases hH : F.H k = true
  · have x0 : W0.cell? ⟨K.rh, k, none⟩ = some (.bool true) := (HF0.out.h.cell hk).trans (by rw [hH])
    have HRe : Hid (reachE F k s = if (F.S k).l.length ≠ s.l.length then 22 else if (F.S k).l ≠ s.l then 21 else if (F.S k).h ≠ s.h then 25 else 0) := Lib.hid (if_neg (by rw [hH]; decide))
    have HRf : Hid (reachF F k s = F) := Lib.hid (if_neg (by rw [hH]; decide))
    have z0 : W0.cell? ⟨K.rs, k * 2, none⟩ = some (.slice (X.a k) (F.S k).l.length (X.c k)) := HF0.out.s.cell (j := 0) hk (by omega)
    have z1 : W0.cell? ⟨K.rs, k * 2 + 1, none⟩ = some (.int .i64 (F.S k).h) := HF0.out.s.cell (j := 1) hk (by omega)
    have hbz : w.heap.size < W0.heap.size := HW.out.1.lt
    have hne1 : K.rs < W0.heap.size := HF0.out.s.lt
    have l1 := HI.out.2.2.1
    have l2 := HF0.out.tl k hk
    have HI1 : Hid (Ints W0 (X.a k) (F.S k).l) := Lib.hid (HF0.out.ti k hk)
    have HI2 : Hid (Ints W0 sa s.l) := Lib.hid (HI.out.1.kept (Kept.of HW.out.2))
    clear hH HSet
    generalize reachE F k s = RE at HRe HEnd
    obtain ⟨La, hLa⟩ : ∃ q, (F.S k).l = q := ⟨_, rfl⟩
    obtain ⟨Lb, hLb⟩ : ∃ q, s.l = q := ⟨_, rfl⟩
    rw [hLa] at HRe HI1 l2 z0
    rw [hLb] at HRe HI2 l1 b0 HW HE ⊢
    clear hLa hLb HI HF0 HF
    obtain ⟨na, hna⟩ : ∃ q, La.length = q := ⟨_, rfl⟩
    obtain ⟨nb, hnb⟩ : ∃ q, Lb.length = q := ⟨_, rfl⟩
    have HNa := Lib.hid hna
    have HNb := Lib.hid hnb
    rw [hna] at HRe l2 z0
    rw [hnb] at HRe l1 b0 HW HE ⊢
    clear hna hnb
    generalize (F.S k).h = h1' at *
    generalize s.h = h2' at *
    generalize X.a k = xa at *
    generalize X.c k = xc at *
    generalize K.n = nn at *
    go_enter Try.func115, Try.ntmps115
    go_upto_region 1 with fail
    rw [← HE.out]
    go_upto_region 8 with fail
    obtain ⟨W1, hW1⟩ : ∃ q, q = W0.alloc (.cells #[.slice xa na xc, .int .i64 h1'] 72) := ⟨_, rfl⟩
    have HX1 : Hid (∀ V, Below W1.heap.size W1 V → Bx V W0.heap.size #[.slice xa na xc, .int .i64 h1'] 72 ∧ Bx V w.heap.size #[.slice sa nb sc, .int .i64 h2'] 72 ∧ Below W0.heap.size W0 V) := Lib.hid fun V hb => by
      have hb1 : Below W0.heap.size W0 W1 := by rw [hW1]; exact (Below.refl _ _).alloc (Nat.le_refl _) _
      exact ⟨Bx.below (by rw [hW1]; exact Bx.new _ _ _) hb, (HW.out.1.below hb1).below hb, hb1.trans (hb.mono hb1.size)⟩
    rw [← hW1]
    clear hW1 z0 z1 x0 f0 f1 b0 b1
    have a0 : W1.cell? ⟨W0.heap.size, 0, none⟩ = some (.slice xa na xc) := (HX1.out _ (Below.refl _ _)).1.cell 0
    have b0 : W1.cell? ⟨w.heap.size, 0, none⟩ = some (.slice sa nb sc) := (HX1.out _ (Below.refl _ _)).2.1.cell 0
    by_cases hll : na = nb
    · have d3 : ((na : Int) != (nb : Int)) = false := neB_n hll
      subst hll
      go_wp2_with fail
      clear d3 a0 b0
      go_loopw [8] (fun i wr => ∃ z : Nat, z ≤ na ∧ i = .int .i64 z ∧ Hid (Below W1.heap.size W1 wr) ∧ Hid (∀ j : Nat, j < z → La.getD j 0 = Lb.getD j 0)) (fun i _ => na - (intOf i).toNat)
      case atStart => exact ⟨0, Nat.zero_le _, rfl, Lib.hid (Below.refl _ _), Lib.hid fun j h => absurd h (Nat.not_lt_zero _)⟩
      case round =>
        obtain ⟨z, hz, rfl, HV, HQ⟩ := hrel
        have a0 : wr.cell? ⟨W0.heap.size, 0, none⟩ = some (.slice xa na xc) := (HX1.out _ HV.out).1.cell 0
        have b0 : wr.cell? ⟨w.heap.size, 0, none⟩ = some (.slice sa na sc) := (HX1.out _ HV.out).2.1.cell 0
        have a1 : wr.cell? ⟨W0.heap.size, 1, none⟩ = some (.int .i64 h1') := (HX1.out _ HV.out).1.cell 1
        have b1 : wr.cell? ⟨w.heap.size, 1, none⟩ = some (.int .i64 h2') := (HX1.out _ HV.out).2.1.cell 1
        by_cases hzn : z < na
        · have hzi : (z : Int) < na := by omega
          have dz : decide ((z : Int) < (na : Int)) = true := decide_eq_true hzi
          have dz' : decide (z < na) = true := decide_eq_true hzn
          obtain ⟨ba, oa, rfl, hba, hca⟩ := HI1.out.at (by rw [HNa.out]; omega)
          obtain ⟨bb, ob, rfl, hbb, hcb⟩ := HI2.out.at (by rw [HNb.out]; omega)
          have t0 : wr.cell? ⟨ba, oa + z, none⟩ = some (.int .i64 (La.getD z 0)) := ((HX1.out _ HV.out).2.2.cell (p := ⟨ba, oa + z, none⟩) hba).trans (hca z (by rw [HNa.out]; omega))
          have t1 : wr.cell? ⟨bb, ob + z, none⟩ = some (.int .i64 (Lb.getD z 0)) := ((HX1.out _ HV.out).2.2.cell (p := ⟨bb, ob + z, none⟩) hbb).trans (hcb z (by rw [HNb.out]; omega))
          clear hca hcb
          obtain ⟨x, hx⟩ : ∃ x, La.getD z 0 = x := ⟨_, rfl⟩
          obtain ⟨y, hy⟩ : ∃ y, Lb.getD z 0 = y := ⟨_, rfl⟩
          rw [hx] at t0
          rw [hy] at t1
          have HXx := Lib.hid hx
          have HYy := Lib.hid hy
          clear hx hy
          by_cases hxy : x = y
          · have d4 : (x != y) = false := by simpa using hxy
            have HXY := Lib.hid hxy
            clear hxy
            go_wp2_with fail
            go_quiet (fail)
            go_wp2
            exact ⟨⟨z + 1, by omega, by go_num, Lib.hid (below_drewN HV.out _), Lib.hid fun j h => by
              by_cases hjz : j = z
              · subst hjz
                exact HXx.out.trans (HXY.out.trans HYy.out.symm)
              · exact HQ.out j (by omega)⟩, by simp [intOf]; omega⟩
          · have d4 : (x != y) = true := by simpa using hxy
            have hne : La ≠ Lb := fun q => hxy (by rw [← HXx.out, ← HYy.out, q])
            obtain rfl : RE = 21 := HRe.out.trans ((if_neg (fun q => q rfl)).trans (if_pos hne))
            clear hne hxy
            go_wp2_with fail
            go_quiet (fail)
            go_wp2
            exact HEnd.out 21 _ (by first | exact rfl | trivial) HRf.out (HX1.out _ (below_drewN HV.out _)).2.2
        · obtain rfl : z = na := by omega
          have heq : La = Lb := list_getD_ext (HNa.out.trans HNb.out.symm) fun i hi => HQ.out i (by rw [← HNa.out]; exact hi)
          have dz : decide ((z : Int) < (z : Int)) = false := decide_eq_false (by omega)
          by_cases hhe : h1' = h2'
          · obtain rfl : RE = 0 := HRe.out.trans ((if_neg (fun q => q rfl)).trans ((if_neg (fun q => q heq)).trans (if_neg (fun q => q hhe))))
            have d5 : (h1' != h2') = false := by simpa using hhe
            clear hhe heq
            go_wp2
            exact HEnd.out 0 _ (by first | exact rfl | trivial) HRf.out (HX1.out _ HV.out).2.2
          · obtain rfl : RE = 25 := HRe.out.trans ((if_neg (fun q => q rfl)).trans ((if_neg (fun q => q heq)).trans (if_pos hhe)))
            have d5 : (h1' != h2') = true := by simpa using hhe
            clear hhe heq
            go_wp2
            exact HEnd.out 25 _ (by first | exact rfl | trivial) HRf.out (HX1.out _ HV.out).2.2
    · obtain rfl : RE = 22 := HRe.out.trans (if_pos hll)
      have d3 : ((na : Int) != (nb : Int)) = true := neB_y hll
      clear hll
      go_wp2
      exact HEnd.out 22 _ (by first | exact rfl | trivial) HRf.out (HX1.out _ (Below.refl _ _)).2.2
  · have hHf : F.H k = false := by simpa using hH
    have x0 : W0.cell? ⟨K.rh, k, none⟩ = some (.bool false) := (HF0.out.h.cell hk).trans (by rw [hHf])
    have y0 : W0.frozen? ⟨K.rh, k, none⟩ = false := HF0.out.h.frz k
    have HR0 : Hid (reachE F k s = 0 ∧ reachF F k s = ⟨set1 F.S k s, set1 F.H k true, F.G⟩) := Lib.hid ⟨if_pos hHf, if_pos hHf⟩
    clear hH hHf
    obtain ⟨ln, hln⟩ : ∃ ln, s.l.length = ln := ⟨_, rfl⟩
    rw [hln] at HW HE b0 ⊢
    have HLn := Lib.hid hln
    clear hln
    go_enter Try.func115, Try.ntmps115
    go_upto_region 1 with fail
    rw [← HE.out]
    go_upto_region 5 with fail
    obtain ⟨W1, hW1⟩ : ∃ V, V = W0.setCell ⟨K.rh, k, none⟩ (.bool true) := ⟨_, rfl⟩
    have HF1 : Hid (StC K W1 ⟨F.S, set1 F.H k true, F.G⟩ X) := Lib.hid (hW1 ▸ HF0.out.setH HK.out k true)
    have HX1 : Hid (Bx W1 w.heap.size #[.slice sa ln sc, .int .i64 s.h] 72 ∧ Fr K w W1) := Lib.hid ⟨by rw [hW1]; exact HW.out.1.far (by have := HK.out.h1; omega) _ _, by rw [hW1]; exact (Fr.below HW.out.2).trans (Fr.set (.inr (.inr (.inr (.inl rfl)))) _ _)⟩
    rw [← hW1]
    clear x0 y0 f0 f1 hW1 b0 b1
    have HH : Hid (∀ V, Below W1.heap.size W1 V → V.cell? ⟨w.heap.size, 0, none⟩ = some (.slice sa ln sc) ∧ V.cell? ⟨w.heap.size, 1, none⟩ = some (.int .i64 s.h) ∧ V.cell? ⟨K.f, 0, none⟩ = some (.slice (some ⟨K.rs, 0, none⟩) K.n K.n)) := Lib.hid fun V hb => ⟨(HX1.out.1.below hb).cell 0, (HX1.out.1.below hb).cell 1, (HF1.out.f.below hb).cell 0⟩
    refine region_e 7 (fun w' => w'.cell? ⟨w.heap.size, 0, none⟩ = some (.slice sa ln sc) ∧ w'.cell? ⟨w.heap.size, 1, none⟩ = some (.int .i64 s.h) ∧ w'.cell? ⟨K.f, 0, none⟩ = some (.slice (some ⟨K.rs, 0, none⟩) K.n K.n)) (by kernel_rfl) (HH.out _ (Below.refl _ _).drew) (fun hHeld => ?_)
    refine AnyE.take2 (i := 0) [] (oi := { dst := some 30, op := Go.Op.move (Go.Operand.tmp 0), type := 115, pos := "ref.go:191", after := #[], guard := none }) (v := ?_) rfl (by kernel_rfl) (by kernel_rfl) (by kernel_rfl) (by kernel_rfl) (fun _ _ _ h => h) (Or.inl ⟨by rfl, ?_⟩) (by assumption) ?_
    rotate_left
    · (intro w0 hSw; (try dsimp only at hSw); go_split_ands; go_simp; with_reducible rfl)
    try simp only [Act.put, List.setIfInBounds_toArray, List.set_cons_zero, List.set_cons_succ]
    refine AnyE.take2 (i := 1) [] (oi := { dst := some 31, op := Go.Op.nilCheck (Go.Operand.tmp 30), type := 0, pos := "ref.go:191", after := #[{ on := 0, ground := Go.Ground.data }], guard := none }) (v := ?_) rfl (by kernel_rfl) (by kernel_rfl) (by kernel_rfl) (by kernel_rfl) (fun _ _ _ h => h) (Or.inl ⟨by rfl, ?_⟩) (by assumption) ?_
    rotate_left
    · (intro w0 hSw; (try dsimp only at hSw); go_split_ands; go_simp; with_reducible rfl)
    try simp only [Act.put, List.setIfInBounds_toArray, List.set_cons_zero, List.set_cons_succ]
    refine AnyE.take2 (i := 2) [] (oi := { dst := some 32, op := Go.Op.fieldAddr 122 (Go.Operand.tmp 31) 0, type := 0, pos := "ref.go:191", after := #[{ on := 1, ground := Go.Ground.data }], guard := none }) (v := ?_) rfl (by kernel_rfl) (by kernel_rfl) (by kernel_rfl) (by kernel_rfl) (fun _ _ _ h => h) (Or.inl ⟨by rfl, ?_⟩) (by assumption) ?_
    rotate_left
    · (intro w0 hSw; (try dsimp only at hSw); go_split_ands; go_simp; with_reducible rfl)
    try simp only [Act.put, List.setIfInBounds_toArray, List.set_cons_zero, List.set_cons_succ]
    refine AnyE.take2 (i := 3) [] (oi := { dst := some 33, op := Go.Op.load 66 (Go.Operand.tmp 32), type := 66, pos := "ref.go:191", after := #[{ on := 2, ground := Go.Ground.data }], guard := none }) (v := ?_) rfl (by kernel_rfl) (by kernel_rfl) (by kernel_rfl) (by kernel_rfl) (fun _ _ _ h => h) (Or.inl ⟨by rfl, ?_⟩) (by assumption) ?_
    rotate_left
    · (intro w0 hSw; (try dsimp only at hSw); go_split_ands; go_simp; with_reducible rfl)
    try simp only [Act.put, List.setIfInBounds_toArray, List.set_cons_zero, List.set_cons_succ]
    refine AnyE.take2 (i := 4) [] (oi := { dst := some 34, op := Go.Op.move (Go.Operand.tmp 1), type := 3, pos := "ref.go:191", after := #[], guard := none }) (v := ?_) rfl (by kernel_rfl) (by kernel_rfl) (by kernel_rfl) (by kernel_rfl) (fun _ _ _ h => h) (Or.inl ⟨by rfl, ?_⟩) (by assumption) ?_
    rotate_left
    · (intro w0 hSw; (try dsimp only at hSw); go_split_ands; go_simp; with_reducible rfl)
    try simp only [Act.put, List.setIfInBounds_toArray, List.set_cons_zero, List.set_cons_succ]
    refine AnyE.take2 (i := 5) [] (oi := { dst := some 35, op := Go.Op.load 72 (Go.Operand.tmp 5), type := 72, pos := "ref.go:191", after := #[], guard := none }) (v := ?_) rfl (by kernel_rfl) (by kernel_rfl) (by kernel_rfl) (by kernel_rfl) (fun _ _ _ h => h) (Or.inl ⟨by rfl, ?_⟩) (by assumption) ?_
    rotate_left
    · (intro w0 hSw; (try dsimp only at hSw); go_split_ands; go_simp; with_reducible rfl)
    try simp only [Act.put, List.setIfInBounds_toArray, List.set_cons_zero, List.set_cons_succ]
    refine AnyE.take2 (i := 6) [] (oi := { dst := some 36, op := Go.Op.indexAddr 66 (Go.Operand.tmp 33) (Go.Operand.tmp 34), type := 0, pos := "ref.go:191", after := #[{ on := 3, ground := Go.Ground.data }, { on := 4, ground := Go.Ground.data }, { on := 0, ground := Go.Ground.phase }, { on := 1, ground := Go.Ground.phase }, { on := 2, ground := Go.Ground.phase }, { on := 3, ground := Go.Ground.phase }, { on := 4, ground := Go.Ground.phase }, { on := 5, ground := Go.Ground.phase }], guard := none }) (v := ?_) rfl (by kernel_rfl) (by kernel_rfl) (by kernel_rfl) (by kernel_rfl) (fun _ _ _ h => h) (Or.inl ⟨by rfl, ?_⟩) (by assumption) ?_
    rotate_left
    · (intro w0 hSw; (try dsimp only at hSw); go_split_ands; go_simp; with_reducible rfl)
    try simp only [Act.put, List.setIfInBounds_toArray, List.set_cons_zero, List.set_cons_succ]
    refine AnyE.ready (rs := [7]) (by kernel_rfl) (by simp) ?_
    refine AllE.last (o := { dst := none, op := Go.Op.store 72 (Go.Operand.tmp 36) (Go.Operand.tmp 35), type := 0, pos := "ref.go:191", after := #[{ on := 6, ground := Go.Ground.data }, { on := 5, ground := Go.Ground.data }, { on := 0, ground := Go.Ground.phase }, { on := 1, ground := Go.Ground.phase }, { on := 2, ground := Go.Ground.phase }, { on := 3, ground := Go.Ground.phase }, { on := 4, ground := Go.Ground.phase }, { on := 5, ground := Go.Ground.phase }], guard := none }) rfl (by kernel_rfl) (fun KK hKK => ?_)
    have HF3 : Hid (StC K W1.drew ⟨F.S, set1 F.H k true, F.G⟩ X) := Lib.hid (HF1.out.below (Below.refl _ _).drew)
    have z0 : W1.cell? ⟨K.rs, k * 2, none⟩ = _ := HF1.out.s.cell (j := 0) hk (by omega)
    have z1 : W1.cell? ⟨K.rs, k * 2 + 1, none⟩ = _ := HF1.out.s.cell (j := 1) hk (by omega)
    have y0 : W1.frozen? ⟨K.rs, k * 2, none⟩ = false := HF1.out.s.frz _
    have y1 : W1.frozen? ⟨K.rs, k * 2 + 1, none⟩ = false := HF1.out.s.frz _
    unfold shF at z0 z1
    simp only [if_true] at z0
    clear hHeld
    go_simp
    refine hKK.out _ _ ?_
    clear hKK KK
    try simp only [Act.put, List.setIfInBounds_toArray, List.set_cons_zero, List.set_cons_succ]
    clear z0 z1 y0 y1
    obtain ⟨W4, hW4⟩ : ∃ V, V = ((W1.setCell ⟨K.rs, k * 2, none⟩ (.slice sa ln sc)).setCell ⟨K.rs, k * 2 + 1, none⟩ (.int .i64 s.h)).drew := ⟨_, rfl⟩
    have HF4 : Hid (StC K W4 ⟨set1 F.S k s, set1 F.H k true, F.G⟩ ⟨set1 X.a k sa, set1 X.c k sc⟩ ∧ Fr K w W4) := Lib.hid (by
      have hfr : Fr K w W1 := HX1.out.2
      have h4 := HF1.out.setS HK.out hk s sa sc (hfr.ints HI.out.1 HI.out.2.2.2.2.2 HK.out) HI.out.2.1 HI.out.2.2.2.2.2 HI.out.2.2.1 HI.out.2.2.2.1 HI.out.2.2.2.2.1
      rw [HLn.out] at h4
      rw [hW4]
      exact ⟨h4.below (Below.refl _ _).drew, (hfr.trans ((Fr.set (.inr (.inr (.inl rfl))) _ _).trans (Fr.set (.inr (.inr (.inl rfl))) _ _))).trans (Fr.below (Below.refl _ _).drew)⟩)
    rw [← hW4]
    clear hW4
    go_wp2
    exact HSet.out _ _ HR0.out.1 (by rw [HR0.out.2]; exact HF4.out.1) HF4.out.2
end Go.Proofs.Ytpiafgmncfibmaa.Vf
