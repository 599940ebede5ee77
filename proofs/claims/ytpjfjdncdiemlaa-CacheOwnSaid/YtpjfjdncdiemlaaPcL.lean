import Derived.Test.YtpjfjdncdiemlaaRows
import Derived.WalkKit
import Derived.ProofKit
import Derived.OpenShut
import Derived.Deep.QuietTactic
import Derived.BigQuiet
import Derived.Outline
import Derived.WalkSmall
import Derived.WalkLawsBesides
import Derived.WalkSpells
import Derived.BigGuardPart
import Derived.RegionTactic
import Derived.Deep.RegionHeld3
import Derived.Lib.Hide
import Derived.Deep.OwnRows
import Derived.Maps.AppendAt
import Derived.Deep.AppendLies
import Derived.Below
import Derived.Test.YtpjfjdncdiemlaaPcB
namespace Go.Proofs.Ytpjfjdncdiemlaa
open Go.ChangeShapes Go.WideShapes Go.ChangeAt Go.RowKit
set_option linter.unusedVariables false
/-- A cache whose first piece is the one spoken of. -/
def PcAt (w : World) (cb pb n cap at0 : Nat) (wd tk m a : Int) (wo : Option Addr) (wl wc : Nat) (st f r : Int) : Prop :=
  cb < pb ∧ pb < w.heap.size ∧ 1 ≤ n ∧ w.cell? ⟨cb, 0, none⟩ = some (.int .u64 at0) ∧ w.cell? ⟨cb, 1, none⟩ = some (.int .i64 wd) ∧ w.cell? ⟨cb, 2, none⟩ = some (.int .i64 tk) ∧ w.cell? ⟨cb, 3, none⟩ = some (.slice (some ⟨pb, 0, none⟩) n cap) ∧ TkAt w pb 0 m a wo wl wc st f r ∧ w.frozen? ⟨pb, 2, none⟩ = false ∧ w.frozen? ⟨pb, 3, none⟩ = false
theorem PcAt.below {w w' : World} {cb pb n cap at0 : Nat} {wd tk m a : Int} {wo : Option Addr} {wl wc : Nat} {st f r : Int} (h : PcAt w cb pb n cap at0 wd tk m a wo wl wc st f r) (hb : Below w.heap.size w w') : PcAt w' cb pb n cap at0 wd tk m a wo wl wc st f r := by
  obtain ⟨h0, h1, h2, a0, a1, a2, a3, ⟨t0, t1, t2, t3, t4, t5⟩, f2, f3⟩ := h
  have c : ∀ b i, b < w.heap.size → w'.cell? ⟨b, i, none⟩ = w.cell? ⟨b, i, none⟩ := fun b i hi => hb.cell (p := ⟨b, i, none⟩) hi
  have hc : cb < w.heap.size := by omega
  exact ⟨h0, Nat.lt_of_lt_of_le h1 hb.size, h2, (c _ _ hc).trans a0, (c _ _ hc).trans a1, (c _ _ hc).trans a2, (c _ _ hc).trans a3, ⟨(c _ _ h1).trans t0, (c _ _ h1).trans t1, (c _ _ h1).trans t2, (c _ _ h1).trans t3, (c _ _ h1).trans t4, (c _ _ h1).trans t5⟩, (hb.frozen (p := ⟨pb, _, none⟩) h1).trans f2, (hb.frozen (p := ⟨pb, _, none⟩) h1).trans f3⟩
theorem ca_pc {w : World} {cb at0 n : Nat} {wd tk : Int} {v : Value} {xs : List Value} {m a : Int} {wo : Option Addr} {wl wc : Nat} {st f r : Int} (h : CaAt w cb at0 wd tk v n xs) (hn : 1 ≤ n) (ht : TkL xs 0 m a wo wl wc st f r) : ∃ pb cap, PcAt w cb pb n cap at0 wd tk m a wo wl wc st f r := by
  obtain ⟨h0, a0, a1, a2, a3, z2, z3, ho⟩ := h
  have hrow := ho
  rcases ho.2 with ⟨rfl, hx⟩ | ⟨g, cp, cur, rfl, hb, hg, _⟩
  · have := ho.1; simp_all
  · obtain ⟨r1, r2, r3, r4⟩ := rows_of hrow
    exact ⟨g, cp, by omega, (Array.getElem?_eq_some_iff.1 hg).1, hn, a0, a1, a2, a3, ht.at (by omega) hrow, r4 _, r4 _⟩
set_option maxRecDepth 100000 in
set_option maxHeartbeats 2000000 in
theorem find0 (cb pb n cap at0 : Nat) (wd tk m a : Int) (wo : Option Addr) (wl wc : Nat) (st f r : Int) (w : World) (hn : n ≤ 1000) (HC : Hid (PcAt w cb pb n cap at0 wd tk m a wo wl wc st f r)) :
    Calls Try.prog 45 #[.pointer (some ⟨cb, 0, none⟩), .int .i64 m] w fun e w' => e = .returned (.pointer (some ⟨pb, 0, none⟩)) ∧ Below w.heap.size w w' := by
  have HC2 := Lib.hid (HC.out.below ((Below.refl _ _).alloc (Nat.le_refl _) (.cells #[.int .i64 m] 3)))
  obtain ⟨h0, hp, h1, _, _, _, a3, tk0, _, _⟩ := HC2.out
  have hc := HC.out.2.1
  have HT := Lib.hid tk0
  have hd : decide (((0 : Nat) : Int) < 0) = false := rfl
  have gk : ((0 : Nat) : Int) < n := by omega
  have hm0 : (w.alloc (.cells #[.int .i64 m] 3)).cell? ⟨w.heap.size, 0, none⟩ = some (.int .i64 m) := World.cell?_alloc_at _ _ _ _ rfl
  have hs0 : w.heap.size < (w.alloc (.cells #[.int .i64 m] 3)).heap.size := by simp
  have HB0 : Hid (Below w.heap.size w (w.alloc (.cells #[.int .i64 m] 3))) := Lib.hid ((Below.refl _ _).alloc (Nat.le_refl _) _)
  have HM0 := Lib.hid hm0
  clear hm0 tk0
  go_enter Try.func45, Try.ntmps45
  go_wp2_with fail
  generalize w.alloc (.cells #[.int .i64 m] 3) = w1 at *
  refine (index_y pb n cap 0 w.heap.size m _ (by omega) hn hp hs0 HM0.out (Lib.hid (fun j hj => absurd hj (Nat.not_lt_zero _))) (Lib.hid ⟨_, _, _, _, _, _, _, HT.out⟩)).mono ?_
  rintro e w2 ⟨rfl, hb⟩
  have a4 : w2.cell? ⟨cb, 3, none⟩ = some (.slice (some ⟨pb, 0, none⟩) n cap) := (hb.cell (p := ⟨cb, 3, none⟩) (by show cb < _; omega)).trans a3
  have HB2 := Lib.hid (HB0.out.trans (hb.mono (by omega)))
  clear hb a3
  go_wp2
  go_ret
  exact ⟨by simp, HB2.out⟩
def LayP (cb pb n cap at0 len : Nat) (wd tk m a f r : Int) (F : Nat → Nat) (w : World) (e : Ending) (w' : World) : Prop := e = .returned (.int .i64 0) ∧ ∃ g cp, w.heap.size ≤ g ∧ g < w'.heap.size ∧ g ≠ pb ∧ WdAt w' g len F ∧ PcAt w' cb pb n cap at0 wd tk m a (some ⟨g, 0, none⟩) len cp 1 f r ∧ w.grownBy w' (some pb)
theorem grown_of {w w1 : World} {pb : Nat} {x y : Value} {p q : Nat} (hb : Below w.heap.size w w1) : w.grownBy ((w1.setCell ⟨pb, p, none⟩ x).setCell ⟨pb, q, none⟩ y) (some pb) := by
  refine ⟨hb.os, hb.tape, hb.output, by have := hb.size; simpa [World.setCell] using this, fun k hk hne => ?_⟩
  have hk2 : k ≠ pb := fun e => hne (by rw [e])
  rw [Below.heap_setCell _ _ _ _ hk2, Below.heap_setCell _ _ _ _ hk2]
  exact hb.block k hk
theorem lay_step {w : World} {cb pb n cap at0 : Nat} {wd tk m a : Int} {wo wo' : Option Addr} {wl wc wl' wc' : Nat} {st st' f r : Int} (h : PcAt w cb pb n cap at0 wd tk m a wo wl wc st f r) : PcAt ((w.setCell ⟨pb, 2, none⟩ (.slice wo' wl' wc')).setCell ⟨pb, 3, none⟩ (.int .i64 st')) cb pb n cap at0 wd tk m a wo' wl' wc' st' f r := by
  obtain ⟨h0, h1, h2, a0, a1, a2, a3, ⟨t0, t1, t2, t3, t4, t5⟩, f2, f3⟩ := h
  have ne : ∀ i j, (⟨pb, i, none⟩ : Addr) ≠ ⟨cb, j, none⟩ := fun i j e => by injection e with e1 _; omega
  have nq : ∀ i j, i ≠ j → (⟨pb, i, none⟩ : Addr) ≠ ⟨pb, j, none⟩ := fun i j hne e => by injection e with _ e1; exact hne e1
  have far : ∀ q u, (∀ i, i = 2 ∨ i = 3 → (⟨pb, i, none⟩ : Addr) ≠ q) → w.cell? q = some u → ((w.setCell ⟨pb, 2, none⟩ (.slice wo' wl' wc')).setCell ⟨pb, 3, none⟩ (.int .i64 st')).cell? q = some u := fun q u hq hu => (World.cell?_setCell_other (h := hq 3 (Or.inr rfl)) ..).trans ((World.cell?_setCell_other (h := hq 2 (Or.inl rfl)) ..).trans hu)
  refine ⟨h0, by simpa [World.setCell] using h1, h2, far _ _ (fun i _ => ne i 0) a0, far _ _ (fun i _ => ne i 1) a1, far _ _ (fun i _ => ne i 2) a2, far _ _ (fun i _ => ne i 3) a3, ⟨far _ _ (fun i hi => nq i _ (by omega)) t0, far _ _ (fun i hi => nq i _ (by omega)) t1, ?_, ?_, far _ _ (fun i hi => nq i _ (by omega)) t4, far _ _ (fun i hi => nq i _ (by omega)) t5⟩, (World.frozen?_setCell _ _ _ _).trans ((World.frozen?_setCell _ _ _ _).trans f2), (World.frozen?_setCell _ _ _ _).trans ((World.frozen?_setCell _ _ _ _).trans f3)⟩
  · exact (World.cell?_setCell_other (h := nq 3 _ (by omega)) ..).trans (World.cell?_setCell_same _ _ _ t2)
  · exact World.cell?_setCell_same _ _ _ ((World.cell?_setCell_other (h := nq 2 _ (by omega)) ..).trans t3)
set_option maxRecDepth 100000 in
set_option maxHeartbeats 2000000 in
theorem lay_c (cb pb n cap at0 rb len rcap : Nat) (wd tk m a f r : Int) (F : Nat → Nat) (w : World) (hn : n ≤ 1000) (l1 : 1 ≤ len) (l2 : len ≤ 70000) (l3 : (len : Int) ≤ r) (hr : rb < w.heap.size) (HR : Hid (WdAt w rb len F)) (HC : Hid (PcAt w cb pb n cap at0 wd tk m a none 0 0 0 f r)) :
    Calls Try.prog 27 #[.pointer (some ⟨cb, 0, none⟩), .int .i64 m, .slice (some ⟨rb, 0, none⟩) len rcap] w (LayP cb pb n cap at0 len wd tk m a f r F w) := by
  have d1 : decide (r < (len : Int)) = false := decide_eq_false (by omega)
  go_enter Try.func27, Try.ntmps27
  go_wp2_with (go_at_call 45; refine (find0 cb pb n cap at0 wd tk m a none 0 0 0 f r _ hn HC).mono ?_; rintro e w1 ⟨rfl, hb⟩; have HC1 := Lib.hid (HC.out.below hb); have HB1 := Lib.hid hb; obtain ⟨h0, h1, h2, a0, a1, a2, a3, ⟨t0, t1, t2, t3, t4, t5⟩, f2, f3⟩ := HC1.out; clear hb)
  refine (clone_w rb len rcap F _ l1 l2 (by have := HB1.out.size; omega) (Lib.hid (fun p hp => (HB1.out.cell (p := ⟨rb, p, none⟩) hr).trans (HR.out p hp)))).mono ?_
  rintro e w2 ⟨g, cp, rfl, hg1, hg2, hg3, hw, hf, hb⟩
  have HC2 := Lib.hid (HC1.out.below hb)
  have HB2 := Lib.hid (HB1.out.trans (hb.mono HB1.out.size))
  have HW := Lib.hid hw
  have hgp : g ≠ pb := by omega
  have hgw : w.heap.size ≤ g := Nat.le_trans HB1.out.size hg1
  clear a0 a1 a2 a3 t0 t1 t2 t3 t4 t5 f2 f3 hb hw hf HC1 HB1
  obtain ⟨_, h12, _, a0, a1, a2, a3, ⟨t0, t1, t2, t3, t4, t5⟩, f2, f3⟩ := HC2.out
  go_wp2
  refine bodyPost_ret (v := .int .i64 0) (by simp [results, Try.results27, go_sem]) rfl ⟨rfl, g, cp, hgw, by simpa [World.setCell] using hg2, hgp, fun p hp => (World.cell?_setCell_other (h := fun e => hgp (by injection e with e1 _; exact e1.symm)) ..).trans ((World.cell?_setCell_other (h := fun e => hgp (by injection e with e1 _; exact e1.symm)) ..).trans (HW.out p hp)), lay_step HC2.out, grown_of HB2.out⟩
end Go.Proofs.Ytpjfjdncdiemlaa
