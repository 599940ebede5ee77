import Derived.StillTailTactics
import Derived.Laws.BitsLemmas
import Derived.IntWalk
import Derived.Laws.BitsAllLaws
import Derived.Deep.DrawnRows
import Derived.Test.YtpiafgmncfibmaaVi
import Derived.Test.YtpiafgmncfibmaaVw
import Derived.Test.YtpiafgmncfibmaaRows
import Derived.WalkKit
import Derived.ProofKit
import Derived.OpenShut
import Derived.Deep.QuietTactic
import Derived.BigQuiet
import Derived.Outline
import Derived.WalkSmall
import Derived.WalkLawsBesides
import Derived.WalkSpells
import Derived.BigGuardPart
import Derived.RegionTactic
import Derived.Deep.RegionHeld3
import Derived.Lib.Hide
import Derived.Deep.MidRow
import Derived.Below
import Derived.Deep.RegionWith
import Derived.Deep.OwnRows
import Derived.Deep.AppendLies
import Derived.Deep.RegionLaw
import Derived.Deep.CutBlock
import Derived.Deep.DeepCutAuto
namespace Go.Proofs.Ytpiafgmncfibmaa.Vf
open Go.ChangeShapes Go.WideShapes Go.ChangeAt Go.RowKit
set_option linter.unusedVariables false

theorem neB_n {a b : Nat} (h : a = b) : ((a : Int) != (b : Int)) = false := by subst h; simp
theorem neB_y {a b : Nat} (h : a ≠ b) : ((a : Int) != (b : Int)) = true := by simpa using (show ¬ (a : Int) = (b : Int) by omega)
structure Fr (K : Fk) (w w' : World) : Prop where
  size : w.heap.size ≤ w'.heap.size
  same : ∀ b, b < w.heap.size → b ≠ K.f → b ≠ K.ro → b ≠ K.rs → b ≠ K.rh → b ≠ K.rg → w'.heap[b]? = w.heap[b]?
theorem Fr.refl (K : Fk) (w : World) : Fr K w w := ⟨Nat.le_refl _, fun _ _ _ _ _ _ _ => rfl⟩
theorem Fr.trans {K : Fk} {w w' w'' : World} (h : Fr K w w') (h' : Fr K w' w'') : Fr K w w'' := ⟨Nat.le_trans h.size h'.size, fun b hb a1 a2 a3 a4 a5 => (h'.same b (Nat.lt_of_lt_of_le hb h.size) a1 a2 a3 a4 a5).trans (h.same b hb a1 a2 a3 a4 a5)⟩
theorem Fr.below {K : Fk} {w w' : World} (h : Below w.heap.size w w') : Fr K w w' := ⟨h.size, fun b hb _ _ _ _ _ => h.block b hb⟩
theorem Fr.set {K : Fk} {w : World} {g : Nat} (hg : g = K.f ∨ g = K.ro ∨ g = K.rs ∨ g = K.rh ∨ g = K.rg) (k : Nat) (v : Value) : Fr K w (w.setCell ⟨g, k, none⟩ v) := ⟨by simp [World.setCell], fun b hb a1 a2 a3 a4 a5 => Below.heap_setCell _ _ _ _ (fun e => by
  have e : b = g := e
  rcases hg with h | h | h | h | h <;> simp_all)⟩
theorem Fr.bx {K : Fk} {w w' : World} {b e : Nat} {C : Array Value} (h : Fr K w w') (hb : Bx w b C e) (hh : K.hi ≤ b) (hK : FkOk K) : Bx w' b C e := by
  have := hK.f1; have := hK.o1; have := hK.q1; have := hK.h1; have := hK.g1
  exact (h.same b hb.lt (by omega) (by omega) (by omega) (by omega) (by omega)).trans hb
theorem Fr.ints {K : Fk} {w w' : World} {a : Option Addr} {l : List Int} (h : Fr K w w') (hi : Ints w a l) (hh : ∀ p, a = some p → K.hi ≤ p.block) (hK : FkOk K) : Ints w' a l := by
  rcases hi with h0 | ⟨b, o, rfl, hb, hc⟩
  · exact .inl h0
  · have hbb : K.hi ≤ b := hh _ rfl
    have := hK.f1; have := hK.o1; have := hK.q1; have := hK.h1; have := hK.g1
    exact .inr ⟨b, o, rfl, Nat.lt_of_lt_of_le hb h.size, fun i hi => (World.cell?_of_block (h.same b hb (by omega) (by omega) (by omega) (by omega) (by omega))).trans (hc i hi)⟩
set_option maxRecDepth 100000 in
theorem begins_c (K : Fk) (hK : FkOk K) (O : Nat → Bool) (F : Fl) (X : Fx) (lo : Nat) (w : World) (h : FlC K w O F X lo) (p : Int) : Calls Try.prog 118 #[.pointer (some ⟨K.f, 0, none⟩), .int .i64 p] w fun e w' => e = .returned (.bool (decide (0 ≤ p ∧ p < K.n ∧ O p.toNat = true))) ∧ w' = w := by
  have HF := Lib.hid h
  have n1 := hK.n1
  by_cases h0 : 0 ≤ p
  · have d0 : decide (0 ≤ p) = true := decide_eq_true h0
    by_cases h1 : p < K.n
    · have d1 : decide (p < (K.n : Int)) = true := decide_eq_true h1
      obtain ⟨k, rfl⟩ : ∃ k : Nat, p = k := ⟨p.toNat, by omega⟩
      have hk : k < K.n := by omega
      rw [Int.toNat_natCast]
      have x3 : w.cell? ⟨K.ro, k * 4 + 3, none⟩ = some (opF O K.D k 3) := h.o.cell hk (by omega)
      by_cases h2 : O k = true
      · rw [decide_eq_true ⟨h0, h1, h2⟩]
        replace x3 : w.cell? ⟨K.ro, k * 4 + 3, none⟩ = some (.int .i64 (szK (kindO (K.D k)) : Nat)) := x3.trans (by unfold opF; rw [if_pos h2]; rfl)
        have hs := szK_bd (kindO (K.D k))
        generalize szK (kindO (K.D k)) = sz at x3 hs
        have d3 : decide ((0 : Int) < sz) = true := decide_eq_true (by omega)
        have d4 : decide (0 < sz) = true := decide_eq_true (by omega)
        have d5 : decide (k < K.n) = true := decide_eq_true hk
        have f5 : w.cell? ⟨K.f, 5, none⟩ = some (.slice (some ⟨K.ro, 0, none⟩) K.n K.n) := HF.out.f.cell 5
        clear h h2 h0 h1
        generalize K.n = n at hk n1 d1 d5 f5 ⊢
        go_enter Try.func118, Try.ntmps118
        go_wp2
        go_ret
        exact ⟨rfl, rfl⟩
      · rw [decide_eq_false (fun q => h2 q.2.2)]
        replace x3 : w.cell? ⟨K.ro, k * 4 + 3, none⟩ = some (.int .i64 0) := x3.trans (by unfold opF; rw [if_neg h2])
        have d5 : decide (k < K.n) = true := decide_eq_true hk
        have f5 : w.cell? ⟨K.f, 5, none⟩ = some (.slice (some ⟨K.ro, 0, none⟩) K.n K.n) := HF.out.f.cell 5
        clear h h2 h0 h1
        generalize K.n = n at hk n1 d1 d5 f5 ⊢
        go_enter Try.func118, Try.ntmps118
        go_wp2
        go_ret
        exact ⟨rfl, rfl⟩
    · have d1 : decide (p < (K.n : Int)) = false := decide_eq_false h1
      rw [decide_eq_false (fun q => h1 q.2.1)]
      have f5 : w.cell? ⟨K.f, 5, none⟩ = some (.slice (some ⟨K.ro, 0, none⟩) K.n K.n) := HF.out.f.cell 5
      clear h h1
      generalize K.n = n at n1 d1 f5 ⊢
      go_enter Try.func118, Try.ntmps118
      go_wp2
      go_ret
      exact ⟨rfl, rfl⟩
  · have d0 : decide (0 ≤ p) = false := decide_eq_false h0
    rw [decide_eq_false (fun q => h0 q.1)]
    clear h h0
    go_enter Try.func118, Try.ntmps118
    go_wp2
    go_ret
    exact ⟨rfl, rfl⟩
theorem FlC.setH {K : Fk} {w : World} {O : Nat → Bool} {F : Fl} {X : Fx} {lo : Nat} (h : FlC K w O F X lo) (hK : FkOk K) (k : Nat) (v : Bool) : FlC K (w.setCell ⟨K.rh, k, none⟩ (.bool v)) O ⟨F.S, set1 F.H k v, F.G⟩ X lo := by
  obtain ⟨e1, e2, e3, e4, e5, e6, e7, e8, e9⟩ := h.nfo
  have hfr : Fr K w (w.setCell ⟨K.rh, k, none⟩ (.bool v)) := Fr.set (.inr (.inr (.inr (.inl rfl)))) k _
  exact ⟨h.f.far e3 _ _, h.o.far e6 _ _, h.s.far e8 _ _, (h.h.set k (.bool v)).ext (fun i _ => by by_cases hik : i = k <;> simp [set1, hik]), h.g.far (Ne.symm hK.ne) _ _, fun i hi => hfr.ints (h.ti i hi) (h.tf i hi) hK, h.tc, h.tf, h.tl, h.t0, h.t1, h.b.setCell (p := ⟨K.rh, k, none⟩) hK.h0 _, Nat.le_trans h.hi hfr.size, h.lo⟩
theorem FlC.setG {K : Fk} {w : World} {O : Nat → Bool} {F : Fl} {X : Fx} {lo : Nat} (h : FlC K w O F X lo) (hK : FkOk K) (k : Nat) : FlC K (w.setCell ⟨K.rg, k, none⟩ (.bool true)) O (F.gone k) X lo := by
  obtain ⟨e1, e2, e3, e4, e5, e6, e7, e8, e9⟩ := h.nfo
  have hfr : Fr K w (w.setCell ⟨K.rg, k, none⟩ (.bool true)) := Fr.set (.inr (.inr (.inr (.inr rfl)))) k _
  exact ⟨h.f.far e4 _ _, h.o.far e7 _ _, h.s.far e9 _ _, h.h.far hK.ne _ _, (h.g.set k (.bool true)).ext (fun i _ => by by_cases hik : i = k <;> simp [set1, Fl.gone, hik]), fun i hi => hfr.ints (h.ti i hi) (h.tf i hi) hK, h.tc, h.tf, h.tl, h.t0, h.t1, h.b.setCell (p := ⟨K.rg, k, none⟩) hK.g0 _, Nat.le_trans h.hi hfr.size, h.lo⟩
theorem FlC.setLo {K : Fk} {w : World} {O : Nat → Bool} {F : Fl} {X : Fx} {lo : Nat} (h : FlC K w O F X lo) (hK : FkOk K) (lo' : Nat) (hl : lo' ≤ K.n) : FlC K (w.setCell ⟨K.f, 9, none⟩ (.int .i64 lo')) O F X lo' := by
  obtain ⟨e1, e2, e3, e4, e5, e6, e7, e8, e9⟩ := h.nfo
  have hfr : Fr K w (w.setCell ⟨K.f, 9, none⟩ (.int .i64 lo')) := Fr.set (.inl rfl) 9 _
  exact ⟨h.f.set 9 (.int .i64 lo'), h.o.far (Ne.symm e1) _ _, h.s.far (Ne.symm e2) _ _, h.h.far (Ne.symm e3) _ _, h.g.far (Ne.symm e4) _ _, fun i hi => hfr.ints (h.ti i hi) (h.tf i hi) hK, h.tc, h.tf, h.tl, h.t0, h.t1, h.b.setCell (p := ⟨K.f, 9, none⟩) hK.f0 _, Nat.le_trans h.hi hfr.size, hl⟩
theorem FlC.setS {K : Fk} {w : World} {O : Nat → Bool} {F : Fl} {X : Fx} {lo k : Nat} (h : FlC K w O F X lo) (hK : FkOk K) (hk : k < K.n) (s : Sh) (a : Option Addr) (c : Nat) (hI : Ints w a s.l) (hc : s.l.length ≤ c) (hf : ∀ p, a = some p → K.hi ≤ p.block) (hl : s.l.length ≤ 40) (h0 : 0 ≤ s.h) (h1 : s.h ≤ 10) :
    FlC K ((w.setCell ⟨K.rs, k * 2, none⟩ (.slice a s.l.length c)).setCell ⟨K.rs, k * 2 + 1, none⟩ (.int .i64 s.h)) O ⟨set1 F.S k s, F.H, F.G⟩ ⟨set1 X.a k a, set1 X.c k c⟩ lo := by
  obtain ⟨e1, e2, e3, e4, e5, e6, e7, e8, e9⟩ := h.nfo
  have hfr : Fr K w ((w.setCell ⟨K.rs, k * 2, none⟩ (.slice a s.l.length c)).setCell ⟨K.rs, k * 2 + 1, none⟩ (.int .i64 s.h)) := (Fr.set (.inr (.inr (.inl rfl))) _ _).trans (Fr.set (.inr (.inr (.inl rfl))) _ _)
  refine ⟨(h.f.far e2 _ _).far e2 _ _, (h.o.far e5 _ _).far e5 _ _, ?_, (h.h.far (Ne.symm e8) _ _).far (Ne.symm e8) _ _, (h.g.far (Ne.symm e9) _ _).far (Ne.symm e9) _ _, fun i hi => ?_, fun i hi => ?_, fun i hi => ?_, fun i hi => ?_, fun i hi => ?_, fun i hi => ?_, (h.b.setCell (p := ⟨K.rs, k * 2, none⟩) hK.q0 _).setCell (p := ⟨K.rs, k * 2 + 1, none⟩) hK.q0 _, Nat.le_trans h.hi hfr.size, h.lo⟩
  · refine RowS.ext (RowS.set (RowS.set (k := k) (j := 0) h.s hk (by omega) (.slice a s.l.length c)) (k := k) (j := 1) hk (by omega) (.int .i64 s.h)) (fun i j hi hj => ?_)
    unfold set2 shF set1
    by_cases hik : i = k
    · subst hik
      have : j = 0 ∨ j = 1 := by omega
      rcases this with rfl | rfl
      · simp
      · simp
    · simp [hik]
  all_goals
    by_cases hik : i = k
    · subst hik
      simp only [set1, if_true]
      first | exact hfr.ints hI hf hK | exact hc | exact hf | exact hl | exact h0 | exact h1
    · simp only [set1, if_neg hik]
      first | exact hfr.ints (h.ti i hi) (h.tf i hi) hK | exact h.tc i hi | exact h.tf i hi | exact h.tl i hi | exact h.t0 i hi | exact h.t1 i hi
def ReachP (K : Fk) (w : World) (O : Nat → Bool) (F : Fl) (lo k : Nat) (s : Sh) (e : Ending) (w' : World) : Prop := ∃ X' lo', e = .returned (.int .i64 (reachE F k s)) ∧ FlC K w' O (reachF F k s) X' lo' ∧ Fr K w w' ∧ lo' = if F.H k = true then lo else min lo k
set_option maxRecDepth 100000 in
set_option maxHeartbeats 4000000 in
theorem reach_c (K : Fk) (hK : FkOk K) (O : Nat → Bool) (F : Fl) (X : Fx) (lo k : Nat) (s : Sh) (sa : Option Addr) (sc : Nat) (w : World) (h : FlC K w O F X lo) (hk : k < K.n) (hI : Ints w sa s.l) (hsc : s.l.length ≤ sc) (hsf : ∀ p, sa = some p → K.hi ≤ p.block) (hl : s.l.length ≤ 40) (h0 : 0 ≤ s.h) (h1 : s.h ≤ 10) :
    Calls Try.prog 130 #[.pointer (some ⟨K.f, 0, none⟩), .int .i64 k, .agg #[.slice sa s.l.length sc, .int .i64 s.h]] w (ReachP K w O F lo k s) := by
  have HF := Lib.hid h
  have HK := Lib.hid hK
  have n1 := hK.n1
  have hlo := h.lo
  have HSf := Lib.hid hsf
  have HI : Hid (Ints w sa s.l ∧ s.l.length ≤ sc ∧ s.l.length ≤ 40 ∧ 0 ≤ s.h ∧ s.h ≤ 10) := Lib.hid ⟨hI, hsc, hl, h0, h1⟩
  obtain ⟨W0, hW0⟩ : ∃ W, W = w.alloc (.cells #[.slice sa s.l.length sc, .int .i64 s.h] 71) := ⟨_, rfl⟩
  have HW : Hid (Bx W0 w.heap.size #[.slice sa s.l.length sc, .int .i64 s.h] 71 ∧ Below w.heap.size w W0) := Lib.hid (by rw [hW0]; exact ⟨Bx.new w _ _, (Below.refl _ _).alloc (Nat.le_refl _) _⟩)
  have HE := Lib.hid hW0
  have HF0 : Hid (FlC K W0 O F X lo) := Lib.hid (h.below HW.out.2)
  have hfi := h.hi
  have nf := h.nfo
  clear h hW0 hK hI hsc hsf hl h0 h1
  by_cases hH : F.H k = true
  · have x0 : W0.cell? ⟨K.rh, k, none⟩ = some (.bool true) := (HF0.out.h.cell hk).trans (by rw [hH])
    have HRe : Hid (reachE F k s = if (F.S k).l.length ≠ s.l.length then 22 else if (F.S k).l ≠ s.l then 21 else if (F.S k).h ≠ s.h then 25 else 0) := Lib.hid (if_neg (by rw [hH]; decide))
    have HRf : Hid (reachF F k s = F) := Lib.hid (if_neg (by rw [hH]; decide))
    have HH := Lib.hid hH
    have z0 : W0.cell? ⟨K.rs, k * 2, none⟩ = some (.slice (X.a k) (F.S k).l.length (X.c k)) := HF0.out.s.cell (j := 0) hk (by omega)
    have z1 : W0.cell? ⟨K.rs, k * 2 + 1, none⟩ = some (.int .i64 (F.S k).h) := HF0.out.s.cell (j := 1) hk (by omega)
    have b0 : W0.cell? ⟨w.heap.size, 0, none⟩ = some (.slice sa s.l.length sc) := HW.out.1.cell 0
    have b1 : W0.cell? ⟨w.heap.size, 1, none⟩ = some (.int .i64 s.h) := HW.out.1.cell 1
    have hbz : w.heap.size < W0.heap.size := HW.out.1.lt
    have f6 : W0.cell? ⟨K.f, 6, none⟩ = some (.slice (some ⟨K.rs, 0, none⟩) K.n K.n) := HF0.out.f.cell 6
    have f7 : W0.cell? ⟨K.f, 7, none⟩ = some (.slice (some ⟨K.rh, 0, none⟩) K.n K.n) := HF0.out.f.cell 7
    have hki : (k : Int) < K.n := by omega
    have l1 := HI.out.2.2.1
    have l2 := HF0.out.tl k hk
    have HC85 : Hid (∀ V, Below W0.heap.size W0 V → Calls Try.prog 85 #[.slice (X.a k) (F.S k).l.length (X.c k), .slice sa s.l.length sc] V fun e w' => e = .returned (.bool (decide ((F.S k).l = s.l))) ∧ Below V.heap.size V w') := Lib.hid fun V hb => eq_c (X.a k) sa (X.c k) sc (F.S k).l s.l V (by unfold Big; omega) (by unfold Big; omega) ((HF0.out.ti k hk).kept (Kept.of hb)) ((HI.out.1.kept (Kept.of HW.out.2)).kept (Kept.of hb))
    have HEnd : Hid (∀ x w', reachE F k s = x → Below W0.heap.size W0 w' → ReachP K w O F lo k s (.returned (.int .i64 x)) w') := Lib.hid fun x w' hx hb => ⟨X, lo, by rw [hx], by rw [HRf.out]; exact HF0.out.below hb, (Fr.below HW.out.2).trans (Fr.below hb), by rw [HH.out, if_pos rfl]⟩
    have hne1 : K.rs < W0.heap.size := HF0.out.s.lt
    clear hH
    generalize ReachP K w O F lo k s = R at HEnd ⊢
    generalize reachE F k s = RE at HRe HEnd
    by_cases hll : (F.S k).l.length = s.l.length
    · have d1 : (((F.S k).l.length : Int) != (s.l.length : Int)) = false := neB_n hll
      by_cases hle : (F.S k).l = s.l
      · have HC85' : Hid (∀ V, Below W0.heap.size W0 V → Calls Try.prog 85 #[.slice (X.a k) (F.S k).l.length (X.c k), .slice sa s.l.length sc] V fun e w' => e = .returned (.bool true) ∧ Below V.heap.size V w') := Lib.hid fun V hb => (decide_eq_true hle) ▸ HC85.out V hb
        by_cases hhe : (F.S k).h = s.h
        · obtain rfl : RE = 0 := HRe.out.trans ((if_neg (fun q => q hll)).trans ((if_neg (fun q => q hle)).trans (if_neg (fun q => q hhe))))
          have d2 : ((F.S k).h != s.h) = false := by simpa using hhe
          clear hll hle hhe HC85
          generalize (F.S k).l.length = n1' at *
          generalize s.l.length = n2' at *
          generalize (F.S k).h = h1' at *
          generalize s.h = h2' at *
          go_enter Try.func130, Try.ntmps130
          go_upto_region 1 with fail
          rw [← HE.out]
          go_wp2_with fail
          refine (HC85'.out _ ((Below.refl _ _).alloc (Nat.le_refl _) _)).mono ?_
          rintro e W2 ⟨rfl, hb2⟩
          have HB2 : Hid (Below W0.heap.size W0 W2) := Lib.hid (((Below.refl _ _).alloc (Nat.le_refl _) _).trans (hb2.mono (by simp)))
          have c1 : W2.cell? ⟨w.heap.size, 1, none⟩ = some (.int .i64 h2') := (HB2.out.cell (p := ⟨w.heap.size, 1, none⟩) hbz).trans b1
          have c2 : W2.cell? ⟨W0.heap.size, 1, none⟩ = some (.int .i64 h1') := ((Bx.new W0 #[.slice (X.a k) n1' (X.c k), .int .i64 h1'] 71).below hb2).cell 1
          clear hb2
          go_wp2
          exact HEnd.out 0 _ (by first | exact rfl | trivial) HB2.out
        · obtain rfl : RE = 25 := HRe.out.trans ((if_neg (fun q => q hll)).trans ((if_neg (fun q => q hle)).trans (if_pos hhe)))
          have d2 : ((F.S k).h != s.h) = true := by simpa using hhe
          clear hll hle hhe HC85
          generalize (F.S k).l.length = n1' at *
          generalize s.l.length = n2' at *
          generalize (F.S k).h = h1' at *
          generalize s.h = h2' at *
          go_enter Try.func130, Try.ntmps130
          go_upto_region 1 with fail
          rw [← HE.out]
          go_wp2_with fail
          refine (HC85'.out _ ((Below.refl _ _).alloc (Nat.le_refl _) _)).mono ?_
          rintro e W2 ⟨rfl, hb2⟩
          have HB2 : Hid (Below W0.heap.size W0 W2) := Lib.hid (((Below.refl _ _).alloc (Nat.le_refl _) _).trans (hb2.mono (by simp)))
          have c1 : W2.cell? ⟨w.heap.size, 1, none⟩ = some (.int .i64 h2') := (HB2.out.cell (p := ⟨w.heap.size, 1, none⟩) hbz).trans b1
          have c2 : W2.cell? ⟨W0.heap.size, 1, none⟩ = some (.int .i64 h1') := ((Bx.new W0 #[.slice (X.a k) n1' (X.c k), .int .i64 h1'] 71).below hb2).cell 1
          clear hb2
          go_wp2
          exact HEnd.out 25 _ (by first | exact rfl | trivial) HB2.out
      · have HC85' : Hid (∀ V, Below W0.heap.size W0 V → Calls Try.prog 85 #[.slice (X.a k) (F.S k).l.length (X.c k), .slice sa s.l.length sc] V fun e w' => e = .returned (.bool false) ∧ Below V.heap.size V w') := Lib.hid fun V hb => (decide_eq_false hle) ▸ HC85.out V hb
        obtain rfl : RE = 21 := HRe.out.trans ((if_neg (fun q => q hll)).trans (if_pos hle))
        clear hll hle HC85
        generalize (F.S k).l.length = n1' at *
        generalize s.l.length = n2' at *
        generalize (F.S k).h = h1' at *
        generalize s.h = h2' at *
        go_enter Try.func130, Try.ntmps130
        go_upto_region 1 with fail
        rw [← HE.out]
        go_wp2_with fail
        refine (HC85'.out _ ((Below.refl _ _).alloc (Nat.le_refl _) _)).mono ?_
        rintro e W2 ⟨rfl, hb2⟩
        have HB2 : Hid (Below W0.heap.size W0 W2) := Lib.hid (((Below.refl _ _).alloc (Nat.le_refl _) _).trans (hb2.mono (by simp)))
        have c1 : W2.cell? ⟨w.heap.size, 1, none⟩ = some (.int .i64 h2') := (HB2.out.cell (p := ⟨w.heap.size, 1, none⟩) hbz).trans b1
        have c2 : W2.cell? ⟨W0.heap.size, 1, none⟩ = some (.int .i64 h1') := ((Bx.new W0 #[.slice (X.a k) n1' (X.c k), .int .i64 h1'] 71).below hb2).cell 1
        clear hb2
        go_wp2
        exact HEnd.out 21 _ (by first | exact rfl | trivial) HB2.out
    · obtain rfl : RE = 22 := HRe.out.trans (if_pos hll)
      have d1 : (((F.S k).l.length : Int) != (s.l.length : Int)) = true := neB_y hll
      clear hll HC85
      generalize (F.S k).l.length = n1' at *
      generalize s.l.length = n2' at *
      generalize (F.S k).h = h1' at *
      generalize s.h = h2' at *
      go_enter Try.func130, Try.ntmps130
      go_upto_region 1 with fail
      rw [← HE.out]
      go_wp2
      exact HEnd.out 22 _ (by first | exact rfl | trivial) ((Below.refl _ _).alloc (Nat.le_refl _) _)
  · have hHf : F.H k = false := by simpa using hH
    have x0 : W0.cell? ⟨K.rh, k, none⟩ = some (.bool false) := (HF0.out.h.cell hk).trans (by rw [hHf])
    have y0 : W0.frozen? ⟨K.rh, k, none⟩ = false := HF0.out.h.frz k
    have HC53 : Hid (∀ V, Below w.heap.size w V → Calls Try.prog 53 #[.slice sa s.l.length sc] V (NewInts s.l V)) := Lib.hid fun V hb => clone_c sa sc s.l V (by have := HI.out.2.2.1; unfold Big; omega) (HI.out.1.kept (Kept.of hb))
    have HR0 : Hid (reachE F k s = 0 ∧ reachF F k s = ⟨set1 F.S k s, set1 F.H k true, F.G⟩) := Lib.hid ⟨if_pos hHf, if_pos hHf⟩
    have HHf := Lib.hid hHf
    clear hH hHf
    have f7 : W0.cell? ⟨K.f, 7, none⟩ = some (.slice (some ⟨K.rh, 0, none⟩) K.n K.n) := HF0.out.f.cell 7
    obtain ⟨ln, hln⟩ : ∃ ln, s.l.length = ln := ⟨_, rfl⟩
    rw [hln] at HW HC53 HE ⊢
    have HLn := Lib.hid hln
    clear hln
    have hki : (k : Int) < K.n := by omega
    go_enter Try.func130, Try.ntmps130
    go_upto_region 1 with fail
    rw [← HE.out]
    go_upto_region 3 with fail
    obtain ⟨W1, hW1⟩ : ∃ V, V = W0.setCell ⟨K.rh, k, none⟩ (.bool true) := ⟨_, rfl⟩
    have HF1 : Hid (FlC K W1 O ⟨F.S, set1 F.H k true, F.G⟩ X lo) := Lib.hid (hW1 ▸ HF0.out.setH HK.out k true)
    have HX1 : Hid (Bx W1 w.heap.size #[.slice sa ln sc, .int .i64 s.h] 71 ∧ Below w.heap.size w W0 ∧ Fr K W0 W1) := Lib.hid ⟨by rw [hW1]; exact HW.out.1.far (by have := HK.out.h1; omega) _ _, HW.out.2, by rw [hW1]; exact Fr.set (.inr (.inr (.inr (.inl rfl)))) _ _⟩
    have HC53' : Hid (∀ V, (∃ V0, Fr K w V0 ∧ Below V0.heap.size V0 V) → Calls Try.prog 53 #[.slice sa ln sc] V (NewInts s.l V)) := Lib.hid fun V ⟨V0, h1, h2⟩ => HLn.out ▸ clone_c sa sc s.l V (by have := HI.out.2.2.1; unfold Big; omega) ((h1.ints HI.out.1 HSf.out HK.out).kept (Kept.of h2))
    rw [← hW1]
    clear x0 y0 f7 hW1
    have x0 : W1.cell? ⟨w.heap.size, 0, none⟩ = some (.slice sa ln sc) := HX1.out.1.cell 0
    have x1 : W1.cell? ⟨w.heap.size, 1, none⟩ = some (.int .i64 s.h) := HX1.out.1.cell 1
    have f6 : W1.cell? ⟨K.f, 6, none⟩ = some (.slice (some ⟨K.rs, 0, none⟩) K.n K.n) := HF1.out.f.cell 6
    have hFr1 : Fr K w W1 := (Fr.below HX1.out.2.1).trans HX1.out.2.2
    have HFr1 := Lib.hid hFr1
    clear hFr1
    refine region_e 12 (fun w' => w'.cell? ⟨w.heap.size, 0, none⟩ = some (.slice sa ln sc) ∧ w'.cell? ⟨w.heap.size, 1, none⟩ = some (.int .i64 s.h) ∧ w'.cell? ⟨K.f, 6, none⟩ = some (.slice (some ⟨K.rs, 0, none⟩) K.n K.n) ∧ FlC K w' O ⟨F.S, set1 F.H k true, F.G⟩ X lo ∧ Fr K w w') (by kernel_rfl) ⟨x0, x1, f6, HF1.out.below (Below.refl _ _).drew, HFr1.out.trans (Fr.below (Below.refl _ _).drew)⟩ (fun hHeld => ?_)
    refine AnyE.take2 (i := 0) [] (oi := { dst := some 22, op := Go.Op.move (Go.Operand.tmp 0), type := 112, pos := "verify.go:157", after := #[], guard := none }) (v := ?_) rfl (by kernel_rfl) (by kernel_rfl) (by kernel_rfl) (by kernel_rfl) (fun _ _ _ h => h) (Or.inl ⟨by rfl, ?_⟩) (by assumption) ?_
    rotate_left
    · (intro w0 hSw; (try dsimp only at hSw); go_split_ands; go_simp; with_reducible rfl)
    try simp only [Act.put, List.setIfInBounds_toArray, List.set_cons_zero, List.set_cons_succ]
    refine AnyE.take2 (i := 1) [] (oi := { dst := some 23, op := Go.Op.nilCheck (Go.Operand.tmp 22), type := 0, pos := "verify.go:157", after := #[{ on := 0, ground := Go.Ground.data }], guard := none }) (v := ?_) rfl (by kernel_rfl) (by kernel_rfl) (by kernel_rfl) (by kernel_rfl) (fun _ _ _ h => h) (Or.inl ⟨by rfl, ?_⟩) (by assumption) ?_
    rotate_left
    · (intro w0 hSw; (try dsimp only at hSw); go_split_ands; go_simp; with_reducible rfl)
    try simp only [Act.put, List.setIfInBounds_toArray, List.set_cons_zero, List.set_cons_succ]
    refine AnyE.take2 (i := 2) [] (oi := { dst := some 24, op := Go.Op.fieldAddr 120 (Go.Operand.tmp 23) 4, type := 0, pos := "verify.go:157", after := #[{ on := 1, ground := Go.Ground.data }], guard := none }) (v := ?_) rfl (by kernel_rfl) (by kernel_rfl) (by kernel_rfl) (by kernel_rfl) (fun _ _ _ h => h) (Or.inl ⟨by rfl, ?_⟩) (by assumption) ?_
    rotate_left
    · (intro w0 hSw; (try dsimp only at hSw); go_split_ands; go_simp; with_reducible rfl)
    try simp only [Act.put, List.setIfInBounds_toArray, List.set_cons_zero, List.set_cons_succ]
    refine AnyE.take2 (i := 3) [] (oi := { dst := some 25, op := Go.Op.load 62 (Go.Operand.tmp 24), type := 62, pos := "verify.go:157", after := #[{ on := 2, ground := Go.Ground.data }], guard := none }) (v := ?_) rfl (by kernel_rfl) (by kernel_rfl) (by kernel_rfl) (by kernel_rfl) (fun _ _ _ h => h) (Or.inl ⟨by rfl, ?_⟩) (by assumption) ?_
    rotate_left
    · (intro w0 hSw; (try dsimp only at hSw); go_split_ands; go_simp; with_reducible rfl)
    try simp only [Act.put, List.setIfInBounds_toArray, List.set_cons_zero, List.set_cons_succ]
    refine AnyE.take2 (i := 4) [] (oi := { dst := some 26, op := Go.Op.move (Go.Operand.tmp 1), type := 3, pos := "verify.go:157", after := #[], guard := none }) (v := ?_) rfl (by kernel_rfl) (by kernel_rfl) (by kernel_rfl) (by kernel_rfl) (fun _ _ _ h => h) (Or.inl ⟨by rfl, ?_⟩) (by assumption) ?_
    rotate_left
    · (intro w0 hSw; (try dsimp only at hSw); go_split_ands; go_simp; with_reducible rfl)
    try simp only [Act.put, List.setIfInBounds_toArray, List.set_cons_zero, List.set_cons_succ]
    refine AnyE.take2 (i := 5) [] (oi := { dst := some 27, op := Go.Op.fieldAddr 71 (Go.Operand.tmp 5) 0, type := 0, pos := "verify.go:157", after := #[], guard := none }) (v := ?_) rfl (by kernel_rfl) (by kernel_rfl) (by kernel_rfl) (by kernel_rfl) (fun _ _ _ h => h) (Or.inl ⟨by rfl, ?_⟩) (by assumption) ?_
    rotate_left
    · (intro w0 hSw; (try dsimp only at hSw); go_split_ands; go_simp; with_reducible rfl)
    try simp only [Act.put, List.setIfInBounds_toArray, List.set_cons_zero, List.set_cons_succ]
    refine AnyE.take2 (i := 6) [] (oi := { dst := some 28, op := Go.Op.load 48 (Go.Operand.tmp 27), type := 48, pos := "verify.go:157", after := #[{ on := 5, ground := Go.Ground.data }], guard := none }) (v := ?_) rfl (by kernel_rfl) (by kernel_rfl) (by kernel_rfl) (by kernel_rfl) (fun _ _ _ h => h) (Or.inl ⟨by rfl, ?_⟩) (by assumption) ?_
    rotate_left
    · (intro w0 hSw; (try dsimp only at hSw); go_split_ands; go_simp; with_reducible rfl)
    try simp only [Act.put, List.setIfInBounds_toArray, List.set_cons_zero, List.set_cons_succ]
    refine AnyE.take2 (i := 8) [] (oi := { dst := some 30, op := Go.Op.fieldAddr 71 (Go.Operand.tmp 5) 1, type := 0, pos := "verify.go:157", after := #[], guard := none }) (v := ?_) rfl (by kernel_rfl) (by kernel_rfl) (by kernel_rfl) (by kernel_rfl) (fun _ _ _ h => h) (Or.inl ⟨by rfl, ?_⟩) (by assumption) ?_
    rotate_left
    · (intro w0 hSw; (try dsimp only at hSw); go_split_ands; go_simp; with_reducible rfl)
    try simp only [Act.put, List.setIfInBounds_toArray, List.set_cons_zero, List.set_cons_succ]
    refine AnyE.take2 (i := 9) [] (oi := { dst := some 31, op := Go.Op.load 3 (Go.Operand.tmp 30), type := 3, pos := "verify.go:157", after := #[{ on := 8, ground := Go.Ground.data }], guard := none }) (v := ?_) rfl (by kernel_rfl) (by kernel_rfl) (by kernel_rfl) (by kernel_rfl) (fun _ _ _ h => h) (Or.inl ⟨by rfl, ?_⟩) (by assumption) ?_
    rotate_left
    · (intro w0 hSw; (try dsimp only at hSw); go_split_ands; go_simp; with_reducible rfl)
    try simp only [Act.put, List.setIfInBounds_toArray, List.set_cons_zero, List.set_cons_succ]
    refine AnyE.ready (rs := [7]) (by kernel_rfl) (by simp) ?_
    refine AllE.cons (o := { dst := some 29, op := Go.Op.call { callee := Go.Callee.value (Go.Operand.func 53), args := #[Go.Operand.tmp 28], argTypes := #[48] }, type := 48, pos := "verify.go:157", after := #[{ on := 6, ground := Go.Ground.data }], guard := none }) rfl (fun KK hKK => ?_) AllE.nil
    go_simp
    obtain ⟨x0', x1', f6', hF2, hr2⟩ := hHeld
    go_at_call 53
    refine (HC53'.out _ ⟨_, hr2, Below.refl _ _⟩).mono ?_
    rintro e w2 ⟨a2, c2, rfl, hi2, hc2, hf2, hb2⟩
    rw [HLn.out]
    have HF3 := Lib.hid (hF2.below hb2)
    have HR3 := Lib.hid (hr2.trans (Fr.below hb2))
    have HI2 : Hid (Ints w2 a2 s.l ∧ s.l.length ≤ c2 ∧ ∀ p, a2 = some p → K.hi ≤ p.block) := Lib.hid ⟨hi2, hc2, fun p hp => Nat.le_trans hF2.hi (hf2 p hp)⟩
    have q0 := (hb2.cell (p := ⟨w.heap.size, 0, none⟩) (World.block_lt_of_cell? _ _ x0')).trans x0'
    have q1 := (hb2.cell (p := ⟨w.heap.size, 1, none⟩) (World.block_lt_of_cell? _ _ x1')).trans x1'
    have q2 := (hb2.cell (p := ⟨K.f, 6, none⟩) (World.block_lt_of_cell? _ _ f6')).trans f6'
    clear hi2 hc2 hf2 hb2 hF2 hr2
    refine hKK.out _ _ ⟨q0, q1, q2, HF3.out, HR3.out⟩ (fun hHeld => ?_)
    clear hKK KK
    try simp only [Act.put, List.setIfInBounds_toArray, List.set_cons_zero, List.set_cons_succ]
    clear q0 q1 q2
    refine AnyE.take2 (i := 10) [] (oi := { dst := some 32, op := Go.Op.build 71 #[(0, Go.Operand.tmp 29), (1, Go.Operand.tmp 31)], type := 71, pos := "verify.go:157", after := #[{ on := 7, ground := Go.Ground.data }, { on := 9, ground := Go.Ground.data }], guard := none }) (v := ?_) rfl (by kernel_rfl) (by kernel_rfl) (by kernel_rfl) (by kernel_rfl) (fun _ _ _ h => h) (Or.inl ⟨by rfl, ?_⟩) (by assumption) ?_
    rotate_left
    · (intro w0 hSw; (try dsimp only at hSw); go_split_ands; go_simp; with_reducible rfl)
    try simp only [Act.put, List.setIfInBounds_toArray, List.set_cons_zero, List.set_cons_succ]
    refine AnyE.take2 (i := 11) [] (oi := { dst := some 33, op := Go.Op.indexAddr 62 (Go.Operand.tmp 25) (Go.Operand.tmp 26), type := 0, pos := "verify.go:157", after := #[{ on := 3, ground := Go.Ground.data }, { on := 4, ground := Go.Ground.data }, { on := 0, ground := Go.Ground.phase }, { on := 1, ground := Go.Ground.phase }, { on := 2, ground := Go.Ground.phase }, { on := 3, ground := Go.Ground.phase }, { on := 4, ground := Go.Ground.phase }, { on := 5, ground := Go.Ground.phase }, { on := 6, ground := Go.Ground.phase }, { on := 7, ground := Go.Ground.phase }, { on := 8, ground := Go.Ground.phase }, { on := 9, ground := Go.Ground.phase }, { on := 10, ground := Go.Ground.phase }], guard := none }) (v := ?_) rfl (by kernel_rfl) (by kernel_rfl) (by kernel_rfl) (by kernel_rfl) (fun _ _ _ h => h) (Or.inl ⟨by rfl, ?_⟩) (by assumption) ?_
    rotate_left
    · (intro w0 hSw; (try dsimp only at hSw); go_split_ands; go_simp; with_reducible rfl)
    try simp only [Act.put, List.setIfInBounds_toArray, List.set_cons_zero, List.set_cons_succ]
    refine AnyE.ready (rs := [12]) (by kernel_rfl) (by simp) ?_
    refine AllE.last (o := { dst := none, op := Go.Op.store 71 (Go.Operand.tmp 33) (Go.Operand.tmp 32), type := 0, pos := "verify.go:157", after := #[{ on := 11, ground := Go.Ground.data }, { on := 10, ground := Go.Ground.data }, { on := 7, ground := Go.Ground.chain }, { on := 0, ground := Go.Ground.phase }, { on := 1, ground := Go.Ground.phase }, { on := 2, ground := Go.Ground.phase }, { on := 3, ground := Go.Ground.phase }, { on := 4, ground := Go.Ground.phase }, { on := 5, ground := Go.Ground.phase }, { on := 6, ground := Go.Ground.phase }, { on := 7, ground := Go.Ground.phase }, { on := 8, ground := Go.Ground.phase }, { on := 9, ground := Go.Ground.phase }, { on := 10, ground := Go.Ground.phase }], guard := none }) rfl (by kernel_rfl) (fun KK hKK => ?_)
    have z0 : w2.cell? ⟨K.rs, k * 2, none⟩ = _ := HF3.out.s.cell (j := 0) hk (by omega)
    have z1 : w2.cell? ⟨K.rs, k * 2 + 1, none⟩ = _ := HF3.out.s.cell (j := 1) hk (by omega)
    have y0 : w2.frozen? ⟨K.rs, k * 2, none⟩ = false := HF3.out.s.frz _
    have y1 : w2.frozen? ⟨K.rs, k * 2 + 1, none⟩ = false := HF3.out.s.frz _
    unfold shF at z0 z1
    simp only [if_true] at z0
    clear hHeld
    go_simp
    refine hKK.out _ _ ?_
    clear hKK KK
    try simp only [Act.put, List.setIfInBounds_toArray, List.set_cons_zero, List.set_cons_succ]
    clear z0 z1 y0 y1
    obtain ⟨W4, hW4⟩ : ∃ V, V = (w2.setCell ⟨K.rs, k * 2, none⟩ (.slice a2 ln c2)).setCell ⟨K.rs, k * 2 + 1, none⟩ (.int .i64 s.h) := ⟨_, rfl⟩
    have HF4 : Hid (FlC K W4 O ⟨set1 F.S k s, set1 F.H k true, F.G⟩ ⟨set1 X.a k a2, set1 X.c k c2⟩ lo ∧ Fr K w W4) := Lib.hid (by
      have h4 := HF3.out.setS HK.out hk s a2 c2 HI2.out.1 HI2.out.2.1 HI2.out.2.2 HI.out.2.2.1 HI.out.2.2.2.1 HI.out.2.2.2.2
      rw [HLn.out] at h4
      rw [hW4]
      exact ⟨h4, HR3.out.trans ((Fr.set (.inr (.inr (.inl rfl))) _ _).trans (Fr.set (.inr (.inr (.inl rfl))) _ _))⟩)
    rw [← hW4]
    clear hW4
    have f9 : W4.cell? ⟨K.f, 9, none⟩ = some (.int .i64 lo) := HF4.out.1.f.cell 9
    have y9 : W4.frozen? ⟨K.f, 9, none⟩ = false := HF4.out.1.f.frz 9
    by_cases hlk : lo ≤ k
    · have d0 : decide ((lo : Int) ≤ (k : Int)) = true := decide_eq_true (by omega)
      have d1 : decide (lo ≤ k) = true := decide_eq_true hlk
      go_wp2
      go_ret
      exact ⟨_, lo, by rw [HR0.out.1]; rfl, by rw [HR0.out.2]; exact HF4.out.1.setLo HK.out lo hlo, HF4.out.2.trans (Fr.set (.inl rfl) 9 _), by rw [HHf.out, if_neg (by decide), Nat.min_eq_left hlk]⟩
    · have d0 : decide ((lo : Int) ≤ (k : Int)) = false := decide_eq_false (by omega)
      have d1 : decide (lo ≤ k) = false := decide_eq_false hlk
      go_wp2
      go_ret
      exact ⟨_, k, by rw [HR0.out.1]; rfl, by rw [HR0.out.2]; exact HF4.out.1.setLo HK.out k (Nat.le_of_lt hk), HF4.out.2.trans (Fr.set (.inl rfl) 9 _), by rw [HHf.out, if_neg (by decide), Nat.min_eq_right (by omega)]⟩
end Go.Proofs.Ytpiafgmncfibmaa.Vf
