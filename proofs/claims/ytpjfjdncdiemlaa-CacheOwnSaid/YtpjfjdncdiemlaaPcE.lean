import Derived.Test.YtpjfjdncdiemlaaRows
import Derived.WalkKit
import Derived.ProofKit
import Derived.OpenShut
import Derived.Deep.QuietTactic
import Derived.BigQuiet
import Derived.Outline
import Derived.WalkSmall
import Derived.WalkLawsBesides
import Derived.WalkSpells
import Derived.BigGuardPart
import Derived.RegionTactic
import Derived.Deep.RegionHeld3
import Derived.Lib.Hide
import Derived.Deep.OwnRows
import Derived.Maps.AppendAt
import Derived.Deep.AppendLies
import Derived.Below
import Derived.Test.YtpjfjdncdiemlaaPcD
import Derived.Deep.RegionWith
namespace Go.Proofs.Ytpjfjdncdiemlaa
open Go.ChangeShapes Go.WideShapes Go.ChangeAt Go.RowKit
set_option linter.unusedVariables false
theorem YesAt.below {w w' : World} {yb : Nat} {say : Bool} {k a n : Int} (h : YesAt w yb say k a n) (hb : Below w.heap.size w w') : YesAt w' yb say k a n := by
  obtain ⟨h0, y0, y1, y2, y3, f1, f2, f3⟩ := h
  exact ⟨Nat.lt_of_lt_of_le h0 hb.size, (hb.cell (p := ⟨yb, _, none⟩) h0).trans y0, (hb.cell (p := ⟨yb, _, none⟩) h0).trans y1, (hb.cell (p := ⟨yb, _, none⟩) h0).trans y2, (hb.cell (p := ⟨yb, _, none⟩) h0).trans y3, (hb.frozen (p := ⟨yb, _, none⟩) h0).trans f1, (hb.frozen (p := ⟨yb, _, none⟩) h0).trans f2, (hb.frozen (p := ⟨yb, _, none⟩) h0).trans f3⟩
theorem PcAt.grown {w w' : World} {cb pb n cap at0 yb : Nat} {wd tk m a : Int} {wo : Option Addr} {wl wc : Nat} {st f r : Int} (h : PcAt w cb pb n cap at0 wd tk m a wo wl wc st f r) (hg : w.grownBy w' (some yb)) (n1 : cb ≠ yb) (n2 : pb ≠ yb) : PcAt w' cb pb n cap at0 wd tk m a wo wl wc st f r := by
  obtain ⟨h0, h1, h2, a0, a1, a2, a3, ⟨t0, t1, t2, t3, t4, t5⟩, f2, f3⟩ := h
  have c : ∀ b i, b < w.heap.size → b ≠ yb → w'.cell? ⟨b, i, none⟩ = w.cell? ⟨b, i, none⟩ := fun b i hi hne => hg.cell_far ⟨b, i, none⟩ hi (fun e => hne (by injection e))
  have hc : cb < w.heap.size := by omega
  exact ⟨h0, Nat.lt_of_lt_of_le h1 hg.size, h2, (c _ _ hc n1).trans a0, (c _ _ hc n1).trans a1, (c _ _ hc n1).trans a2, (c _ _ hc n1).trans a3, ⟨(c _ _ h1 n2).trans t0, (c _ _ h1 n2).trans t1, (c _ _ h1 n2).trans t2, (c _ _ h1 n2).trans t3, (c _ _ h1 n2).trans t4, (c _ _ h1 n2).trans t5⟩, (hg.frozen_far ⟨pb, _, none⟩ h1 (fun e => n2 (by injection e))).trans f2, (hg.frozen_far ⟨pb, _, none⟩ h1 (fun e => n2 (by injection e))).trans f3⟩
theorem st_step {w : World} {cb pb n cap at0 : Nat} {wd tk m a : Int} {wo : Option Addr} {wl wc : Nat} {st st' f r : Int} (h : PcAt w cb pb n cap at0 wd tk m a wo wl wc st f r) : PcAt (w.setCell ⟨pb, 3, none⟩ (.int .i64 st')) cb pb n cap at0 wd tk m a wo wl wc st' f r := by
  obtain ⟨h0, h1, h2, a0, a1, a2, a3, ⟨t0, t1, t2, t3, t4, t5⟩, f2, f3⟩ := h
  have ne : ∀ j, (⟨pb, 3, none⟩ : Addr) ≠ ⟨cb, j, none⟩ := fun j e => by injection e with e1 _; omega
  have nq : ∀ j, 3 ≠ j → (⟨pb, 3, none⟩ : Addr) ≠ ⟨pb, j, none⟩ := fun j hne e => by injection e with _ e1; exact hne e1
  refine ⟨h0, by simpa [World.setCell] using h1, h2, (sf _ _ _ _ (ne 0)).trans a0, (sf _ _ _ _ (ne 1)).trans a1, (sf _ _ _ _ (ne 2)).trans a2, (sf _ _ _ _ (ne 3)).trans a3, ⟨(sf _ _ _ _ (nq _ (by omega))).trans t0, (sf _ _ _ _ (nq _ (by omega))).trans t1, (sf _ _ _ _ (nq _ (by omega))).trans t2, World.cell?_setCell_same _ _ _ t3, (sf _ _ _ _ (nq _ (by omega))).trans t4, (sf _ _ _ _ (nq _ (by omega))).trans t5⟩, (World.frozen?_setCell _ _ _ _).trans f2, (World.frozen?_setCell _ _ _ _).trans f3⟩
def TellP (N cb pb n cap at0 gb len wcap yb : Nat) (wd tk m a f r k : Int) (F : Nat → Nat) (w : World) (e : Ending) (w' : World) : Prop := e = .returned (.int .i64 0) ∧ Below N w w' ∧ YesAt w' yb true (k + 1) a len ∧ WdAt w' gb len F ∧ PcAt w' cb pb n cap at0 wd tk m a (some ⟨gb, 0, none⟩) len wcap 2 f r
theorem yes_st {w : World} {yb pb : Nat} {say : Bool} {k a n : Int} {x : Value} (h : YesAt w yb say k a n) (hne : pb ≠ yb) : YesAt (w.setCell ⟨pb, 3, none⟩ x) yb say k a n := by
  obtain ⟨h0, y0, y1, y2, y3, f1, f2, f3⟩ := h
  have ne : ∀ j, (⟨pb, 3, none⟩ : Addr) ≠ ⟨yb, j, none⟩ := fun j e => by injection e with e1 _; exact hne e1
  exact ⟨by simpa [World.setCell] using h0, (sf _ _ _ _ (ne _)).trans y0, (sf _ _ _ _ (ne _)).trans y1, (sf _ _ _ _ (ne _)).trans y2, (sf _ _ _ _ (ne _)).trans y3, (World.frozen?_setCell _ _ _ _).trans f1, (World.frozen?_setCell _ _ _ _).trans f2, (World.frozen?_setCell _ _ _ _).trans f3⟩
set_option maxRecDepth 100000 in
set_option maxHeartbeats 4000000 in
theorem tell_c (N cb pb n cap at0 gb len wcap yb : Nat) (wd tk m a f r k a0 n0 : Int) (F : Nat → Nat) (w : World) (hn : n ≤ 1000) (l1 : 1 ≤ len) (l2 : len ≤ 70000) (hk : 0 ≤ k) (hk2 : k ≤ 100) (hg : gb < w.heap.size) (HW : Hid (WdAt w gb len F)) (HC : Hid (PcAt w cb pb n cap at0 wd tk m a (some ⟨gb, 0, none⟩) len wcap 1 f r)) (HY : Hid (YesAt w yb true k a0 n0)) (c1 : cb ≠ yb) (c2 : pb ≠ yb) (c3 : gb ≠ yb) (c4 : gb ≠ pb) (hN1 : N ≤ cb) (hN2 : N ≤ yb) :
    Calls Try.prog 29 #[.pointer (some ⟨cb, 0, none⟩), .int .i64 m, .iface 63 (.pointer (some ⟨yb, 0, none⟩))] w (TellP N cb pb n cap at0 gb len wcap yb wd tk m a f r k F w) := by
  have hna := nil_ahead ⟨yb, 0, none⟩
  have hmc := method_check ⟨yb, 0, none⟩
  go_enter Try.func29, Try.ntmps29
  go_wp2_with (go_at_call 45; refine (find0 cb pb n cap at0 wd tk m a _ _ _ _ f r _ hn HC).mono ?_; rintro e w1 ⟨rfl, hb⟩; have HC1 := Lib.hid (HC.out.below hb); have HB1 := Lib.hid hb; obtain ⟨h0, h1, h2, b0, b1, b2, b3, ⟨t0, t1, t2, t3, t4, t5⟩, f2, f3⟩ := HC1.out; clear hb)
  have HW1 : Hid (WdAt w1.drew gb len F) := Lib.hid (fun p hp => (HB1.out.cell (p := ⟨gb, p, none⟩) hg).trans (HW.out p hp))
  have HY1 := Lib.hid (HY.out.below HB1.out)
  have hg1 : gb < w1.drew.heap.size := by have := HB1.out.size; show gb < w1.heap.size; omega
  go_region_with (first | (go_at_call 46; refine (clone_w gb len wcap F _ l1 l2 hg1 HW1).mono ?_; rintro e w2 ⟨g2, cp2, rfl, hg21, hg22, hg23, hw2, hf2, hb2⟩; have hb3 : Below w1.heap.size w1 w2 := (Below.refl _ _).drew.trans hb2; have HC2 := Lib.hid (HC1.out.below hb3); have HY2 := Lib.hid (HY1.out.below hb3); have HB2 := Lib.hid (HB1.out.trans (hb3.mono HB1.out.size)); obtain ⟨h0, h1, h2, b0, b1, b2, b3, ⟨t0, t1, t2, t3, t4, t5⟩, f2, f3⟩ := HC2.out; clear hw2 hf2 hb2 hb3) | (go_at_call 111; refine (check_c yb true k a0 n0 _ _ _ _ _ hk hk2 HY2).mono ?_; rintro e w3 ⟨rfl, hy3, hg3⟩; have HC3 := Lib.hid (HC2.out.grown hg3 c1 c2); have HY3 := Lib.hid hy3; have HW3 : Hid (WdAt w3 gb len F) := Lib.hid (fun p hp => (hg3.cell_far ⟨gb, p, none⟩ (by have := HB2.out.size; show gb < _; omega) (fun e => c3 (by injection e))).trans ((HB2.out.cell (p := ⟨gb, p, none⟩) hg).trans (HW.out p hp))); have HB3 := Lib.hid ((HB2.out.mono (show N ≤ w.heap.size by have := HC.out.2.1; have := HC.out.1; omega)).grown hg3 (by have := HB2.out.size; have := HC.out.2.1; have := HC.out.1; omega) (fun q hq => by injection hq with hq; omega)); clear hg3 hy3 HB2 HC2 HY2))
  all_goals
    clear HB1 HC1 HW1 HY1 b0 b1 b2 b3 t0 t1 t2 t3 t4 t5 f2 f3
    obtain ⟨h0, h1, h2, b0, b1, b2, b3, ⟨t0, t1, t2, t3, t4, t5⟩, f2, f3⟩ := HC3.out
    go_wp2_with fail
    have HC4 := Lib.hid (st_step (st' := 2) HC3.out)
    have HY4 := Lib.hid (yes_st (x := .int .i64 2) HY3.out c2)
    have HW4 : Hid (WdAt (w3.setCell ⟨pb, 3, none⟩ (.int .i64 2)) gb len F) := Lib.hid (fun p hp => (sf _ _ _ _ (by intro e; injection e with e1 _; exact c4 e1.symm)).trans (HW3.out p hp))
    have HB4 := Lib.hid (HB3.out.setCell (p := ⟨pb, 3, none⟩) (by show N ≤ pb; omega) (.int .i64 2))
    have hg4 : gb < (w3.setCell ⟨pb, 3, none⟩ (.int .i64 2)).heap.size := by have := HB4.out.size; omega
    clear b0 b1 b2 b3 t0 t1 t2 t3 t4 t5 f2 f3 HC3 HY3 HW3 HB3
    generalize w3.setCell ⟨pb, 3, none⟩ (.int .i64 2) = w4 at *
    refine (twin_c gb len wcap m a 2 f r F _ l1 l2 hg4 HW4).mono ?_
    rintro e w5 ⟨g5, cp5, rfl, _, _, _, _, hb5⟩
    have HB5 := Lib.hid hb5
    clear hb5
    go_wp2_with fail
    refine (hear_c yb m a 2 g5 len cp5 _).mono ?_
    rintro e w6 ⟨rfl, hb6⟩
    have HB6 := Lib.hid (HB5.out.trans (hb6.mono HB5.out.size))
    have hNw : N ≤ w4.heap.size := by have := HC4.out.2.1; have := HC4.out.1; omega
    clear hb6
    go_wp2
    refine bodyPost_ret (v := .int .i64 0) (by simp [results, Try.results29, go_sem]) rfl ⟨rfl, HB4.out.trans (HB6.out.mono hNw), HY4.out.below HB6.out, fun p hp => (HB6.out.cell (p := ⟨gb, p, none⟩) hg4).trans (HW4.out p hp), HC4.out.below HB6.out⟩
end Go.Proofs.Ytpjfjdncdiemlaa
