import Derived.BigGuardPart
import Derived.LoopIn
import Derived.LoopNIn
import Derived.OwnWalkIn
import Derived.RangeFuncBound
import Derived.RangeFuncBox
import Derived.RangeFuncCalls
import Derived.RangeFuncLeaves
import Derived.RangeFuncNested
import Derived.Shelf.RegionOpen
import Derived.TacticsInMore
import Derived.Laws.BitsLemmas
import Derived.IntWalk
import Derived.Laws.BitsAllLaws
import Derived.Deep.DrawnRows
import Derived.Test.YtgdlcnngplfjnaaDoorVw
import Derived.Test.YtgdlcnngplfjnaaDoorVk
import Derived.Test.YtgdlcnngplfjnaaDoorRows
import Derived.WalkKit
import Derived.ProofKit
import Derived.OpenShut
import Derived.Deep.QuietTactic
import Derived.BigQuiet
import Derived.Outline
import Derived.WalkSmall
import Derived.WalkLawsBesides
import Derived.WalkSpells
import Derived.BigGuardPart
import Derived.RegionTactic
import Derived.Deep.RegionHeld3
import Derived.Lib.Hide
import Derived.Deep.MidRow
import Derived.Below
import Derived.Deep.RegionWith
import Derived.Deep.OwnRows
import Derived.Deep.AppendLies
import Derived.Deep.RegionLaw
import Derived.Deep.CutBlock
import Derived.Deep.DeepCutAuto
namespace Go.Proofs.YtgdlcnngplfjnaaDoor.Vf
open Go.ChangeShapes Go.WideShapes Go.ChangeAt Go.RowKit
set_option linter.unusedVariables false
open Go.Shelf
attribute [local go_sem] Oper.semAt_some
/-! ### Bytecode by bytecode -/
/-- pre is what has been told ahead of place k. -/
structure Pfx (n : Nat) (D : Nat → Nat) (pre : List Nat) (k : Nat) : Prop where
  p : ∃ f, n ≤ k + f ∧ begs n D n 0 = pre ++ begs n D f k ∧ endP n D n 0 = endP n D f k
theorem Pfx.zero (n : Nat) (D : Nat → Nat) : Pfx n D [] 0 := ⟨n, by omega, rfl, rfl⟩
theorem Pfx.step {n : Nat} {D : Nat → Nat} {pre : List Nat} {k : Nat} (h : Pfx n D pre k) (hk : k < n) (hr : rdE n D k = 0) : Pfx n D (pre ++ [k]) (k + szK (kindO (D k))) := by
  obtain ⟨f, h1, h2, h3⟩ := h.p
  obtain ⟨f, rfl⟩ : ∃ q, f = q + 1 := ⟨f - 1, by omega⟩
  have hs := szK_bd (kindO (D k))
  refine ⟨f, by omega, ?_, ?_⟩
  · rw [h2]
    show pre ++ (if k < n then (if rdE n D k = 0 then k :: begs n D f (k + szK (kindO (D k))) else []) else []) = _
    rw [if_pos hk, if_pos hr, List.append_assoc]
    rfl
  · rw [h3]
    show (if k < n then (if rdE n D k = 0 then endP n D f (k + szK (kindO (D k))) else k) else k) = _
    rw [if_pos hk, if_pos hr]
theorem Pfx.done {n : Nat} {D : Nat → Nat} {pre : List Nat} {k : Nat} (h : Pfx n D pre k) (hq : n ≤ k ∨ rdE n D k ≠ 0) : begs n D n 0 = pre ∧ endP n D n 0 = k := by
  obtain ⟨f, h1, h2, h3⟩ := h.p
  have hb : begs n D f k = [] ∧ endP n D f k = k := by
    cases f with
    | zero => exact ⟨rfl, rfl⟩
    | succ f =>
      show (if k < n then (if rdE n D k = 0 then k :: begs n D f (k + szK (kindO (D k))) else []) else []) = [] ∧ (if k < n then (if rdE n D k = 0 then endP n D f (k + szK (kindO (D k))) else k) else k) = k
      by_cases hk : k < n
      · rw [if_pos hk, if_pos hk, if_neg (by omega), if_neg (by omega)]
        exact ⟨rfl, rfl⟩
      · rw [if_neg hk, if_neg hk]
        exact ⟨rfl, rfl⟩
  rw [h2, h3, hb.1, hb.2, List.append_nil]
  exact ⟨rfl, rfl⟩
def ops4 (D : Nat → Nat) (k : Nat) : Array Value := ret4 (D k : Nat) (opA D k) (opB D k) (szK (kindO (D k)) : Nat)
/-- What is told of a place: nothing of one that is none. -/
def opsS (n : Nat) (D : Nat → Nat) (k : Nat) : Array Value := if rdE n D k = 0 then ops4 D k else ret4 0 0 0 0
/-- What of the iterator's own must stay: all cells but those of two blocks. -/
def KpZ (Z : Nat → TypeId → Prop) (A B : World) : Prop := ∀ b C e t, ¬ Z b e → A.heap[b]? = some (.cells C e t) → B.heap[b]? = some (.cells C e t)
theorem KpZ.t {Z : Nat → TypeId → Prop} {A B C : World} (h : KpZ Z A B) (k : KpZ Z B C) : KpZ Z A C := fun b X e t h1 hb => k b X e t h1 (h b X e t h1 hb)
theorem KpZ.alloc (Z : Nat → TypeId → Prop) (W : World) (o : Obj) : KpZ Z W (W.alloc o) := fun b X e t _ hb => (heap_alloc_old W o (Array.getElem?_eq_some_iff.1 hb).1).trans hb
theorem KpZ.below {Z : Nat → TypeId → Prop} {A B : World} (h : Below A.heap.size A B) : KpZ Z A B := fun b X e t _ hb => (h.block b (Array.getElem?_eq_some_iff.1 hb).1).trans hb
theorem KpZ.put {Z : Nat → TypeId → Prop} (W : World) (l : Nat) (o o' : Obj) (hl : W.heap[l]? = some o) (hc : o.isCells = false) : KpZ Z W (W.putObj l o') := fun b X e t _ hb => by
  have hne : b ≠ l := fun q => by
    subst q
    rw [hl] at hb
    injection hb with hb
    subst hb
    cases hc
  exact (put_far _ _ _ _ hne).trans hb
theorem KpZ.set {Z : Nat → TypeId → Prop} (W : World) (z k : Nat) (v : Value) (hz : ∀ e, Z z e) : KpZ Z W (W.setCell ⟨z, k, none⟩ v) := fun b X e t h1 hb => (Below.heap_setCell _ _ _ _ (fun q => h1 (by have q2 : b = z := q; rw [q2]; exact hz e))).trans hb
theorem KpZ.bx {Z : Nat → TypeId → Prop} {W W' : World} {b e : Nat} {C : Array Value} (h : KpZ Z W W') (hb : Bx W b C e) (h1 : ¬ Z b e) : Bx W' b C e := h b C e (0, 0) h1 hb
/-- A method's code in a row of one's own. -/
structure CodeK (Z : Nat → TypeId → Prop) (W : World) (A : Option Addr) (n c : Nat) (D : Nat → Nat) : Prop where
  i : CodeIn W A n c D
  k : ∀ p, A = some p → 0 < n → ∃ C e t, ¬ Z p.block e ∧ W.heap[p.block]? = some (.cells C e t)
theorem CodeK.kp {Z : Nat → TypeId → Prop} {W W' : World} {A : Option Addr} {n c : Nat} {D : Nat → Nat} (h : CodeK Z W A n c D) (k : KpZ Z W W') : CodeK Z W' A n c D := by
  refine ⟨⟨h.i.big, h.i.cap, h.i.byt, ?_⟩, fun p hp hn => ?_⟩
  · rcases h.i.row with h0 | ⟨b, o, rfl, hb, hc⟩
    · exact .inl h0
    · by_cases hn : n = 0
      · exact .inl hn
      obtain ⟨C, e, t, h1, hh⟩ := h.k _ rfl (by omega)
      have h3 := k b C e t h1 hh
      exact .inr ⟨b, o, rfl, (Array.getElem?_eq_some_iff.1 h3).1, fun i hi => (World.cell?_of_block (h3.trans hh.symm)).trans (hc i hi)⟩
  · obtain ⟨C, e, t, h1, hh⟩ := h.k p hp hn
    exact ⟨C, e, t, h1, k _ C e t h1 hh⟩
theorem grown_none {w w' : World} (h : Below w.heap.size w w') : w.grownBy w' none := ⟨h.os, h.tape, h.output, h.size, fun k hk _ => h.block k hk⟩
/-- What each does, with a yield. -/
def EachP (n : Nat) (D : Nat → Nat) (J Jx : List Nat → World → Prop) (e : Ending) (W' : World) : Prop := (∃ v, e = .returned v) ∧ ((∃ xs, xs = begs n D n 0 ∧ J xs W') ∨ (∃ pre : List Nat, True ∧ Jx pre W'))
theorem begs_len (n : Nat) (D : Nat → Nat) : ∀ f k, (begs n D f k).length ≤ n - k
  | 0, k => by unfold begs; simp
  | f + 1, k => by
    unfold begs
    split
    · split
      · have := begs_len n D f (k + szK (kindO (D k)))
        have hs := szK_bd (kindO (D k))
        simp
        omega
      · simp
    · simp
set_option maxRecDepth 100000 in
set_option maxHeartbeats 4000000 in
theorem each_core (Z : Nat → TypeId → Prop) (A : Option Addr) (n c : Nat) (D : Nat → Nat) (l : Nat) (J Jx : List Nat → World → Prop) (W : World) (hI : CodeK Z W A n c D) (hz : ∀ b, W.heap.size ≤ b → ¬ Z b 25) (hJ : AbidesFrom W.heap.size J)
    (hY : ∀ pre x W1, J pre W1 → pre.length < n → x < n → rdE n D x = 0 → YieldAt Fence.wide 4 Tryd.prog l (#[.int .i64 (x : Nat), .agg (ops4 D x)]) W1 fun e W' => (e = .returned (.bool true) ∧ J (pre ++ [x]) W' ∧ KpZ Z W1 W') ∨ (e = .returned (.bool false) ∧ Jx (pre ++ [x]) W')) (h0 : J [] W) :
    CallsIn Fence.wide 5 Tryd.prog 32 #[.slice A n c, .func (.yield l) #[] #[]] W (EachP n D J Jx) := by
  have HI := Lib.hid hI
  have hn := hI.i.big
  clear hI
  refine callsIn_of_wp Tryd.func32 rfl trivial ?_ rfl
  simp only [Tryd.ntmps32, List.size_toArray, List.length_cons, List.length_nil, Nat.reduceAdd, Nat.reduceSub, Array.replicate_succ, Array.replicate_zero, List.push_toArray, List.append_toArray, List.nil_append, List.cons_append]
  gi_wp2
  gi_loopw [5] (fun ix wr => ∃ (k : Nat) (pre : List Nat), k ≤ n ∧ ix = .int .i64 k ∧ J pre wr ∧ pre.length ≤ k ∧ W.heap.size ≤ wr.heap.size ∧ Hid (Pfx n D pre k) ∧ Hid (CodeK Z wr A n c D)) (fun ix _ => n - (intOf ix).toNat)
  case atStart => exact ⟨0, [], by omega, rfl, h0, by simp, Nat.le_refl _, Lib.hid (Pfx.zero n D), HI⟩
  case round =>
    obtain ⟨k, pre, hk, rfl, hJs, hpl, hws, HP, HC⟩ := hrel
    by_cases hlt : k < n
    · gi_wp2_with (fail)
      refine ⟨trivial, ?_⟩
      refine (callsIn_wide.2 (cread_c A n c D k wr HC.out.i hlt)).mono ?_
      rintro e w1 ⟨rfl, hb1⟩
      have HB1 := Lib.hid hb1
      clear hb1
      by_cases hr : rdE n D k = 0
      · have hC : rdC n D k = ops4 D k := if_pos hr
        have HRd := Lib.hid hr
        rw [hC, hr]
        clear hC hr
        have HV : Hid (Bx (w1.alloc (.cells (ops4 D k) 25)) w1.heap.size (ops4 D k) 25 ∧ Below wr.heap.size wr (w1.alloc (.cells (ops4 D k) 25))) := Lib.hid ⟨Bx.new _ _ _, HB1.out.alloc HB1.out.size _⟩
        have hJ1 := hJ pre wr _ none hJs (grown_none HV.out.2) (fun r e => by cases e)
        have hws1 : W.heap.size ≤ w1.heap.size := Nat.le_trans hws HB1.out.size
        have HCV := Lib.hid (HC.out.kp (KpZ.below HV.out.2))
        obtain ⟨fn, tmps, assign, body, hy, hR⟩ := hY pre k _ hJ1 (by omega) hlt HRd.out
        have hbz := szK_bd (kindO (D k))
        have hHR := Lib.hid hR
        clear hJs hR hJ1
        unfold ops4 ret4 at hy ⊢
        gi_wp2_with (fail)
        refine hHR.out.mono ?_
        rintro e W3 (⟨rfl, hJ3, hk3⟩ | ⟨rfl, hJx3⟩)
        · have hb3 : Bx W3 w1.heap.size #[.int .i64 (D k : Nat), .int .i64 (opA D k), .int .i64 (opB D k), .int .i64 (szK (kindO (D k)) : Nat)] 25 := hk3.bx HV.out.1 (hz _ hws1)
          have HC3 := Lib.hid (HCV.out.kp hk3)
          have HP3 := Lib.hid (HP.out.step hlt HRd.out)
          have HRd2 := HRd
          have hle : k + szK (kindO (D k)) ≤ n := by
            have h9 := HRd.out
            unfold rdE at h9
            split at h9
            · cases h9
            · split at h9
              · cases h9
              · omega
          have x3 : W3.cell? ⟨w1.heap.size, 3, none⟩ = some (.int .i64 (szK (kindO (D k)) : Nat)) := hb3.cell 3
          have hw3 : W.heap.size ≤ W3.heap.size := by have := hb3.lt; omega
          clear hk3 hb3 hy
          generalize szK (kindO (D k)) = sz at *
          gi_wp2
          go_roundw
          case rel => exact ⟨k + sz, pre ++ [k], by omega, by go_num, hJ3, by simp; omega, hw3, HP3, HC3⟩
          case measure => simp [intOf]; omega
        · clear hy
          gi_wp2
          refine bodyPost_ret (results_tmp rfl _ _ _) rfl ?_
          exact ⟨⟨_, rfl⟩, .inr ⟨_, trivial, hJx3⟩⟩
      · have hC : rdC n D k = ret4 0 0 0 0 := if_neg hr
        have hd0 : (rdE n D k != 0) = true := by simpa using hr
        have HD := Lib.hid (HP.out.done (.inr hr))
        have hJ1 := hJ pre wr (w1.alloc (.cells (ret4 0 0 0 0) 25)) none hJs (grown_none (HB1.out.alloc HB1.out.size _)) (fun r e => by cases e)
        rw [hC]
        generalize rdE n D k = x at *
        clear hC hJs hr
        unfold ret4 at hJ1 ⊢
        gi_wp2
        refine ⟨fun f h => (by cases h), ?_⟩
        gi_wp2
        refine bodyPost_ret (results_tmp rfl _ _ _) rfl ?_
        exact ⟨⟨_, rfl⟩, .inl ⟨_, rfl, HD.out.1.symm ▸ hJ1⟩⟩
    · have HD := Lib.hid (HP.out.done (.inl (by omega)))
      have hkn : n = k := by omega
      have d1 : decide (k < n) = false := decide_eq_false hlt
      have d2 : decide ((k : Int) < (n : Int)) = false := decide_eq_false (by omega)
      clear hkn
      gi_wp2
      refine bodyPost_ret (results_tmp rfl _ _ _) rfl ?_
      exact ⟨⟨_, rfl⟩, .inl ⟨_, rfl, HD.out.1.symm ▸ hJs⟩⟩
set_option maxRecDepth 100000 in
set_option maxHeartbeats 4000000 in
theorem all1_stops (Z : Nat → TypeId → Prop) (bx : Nat) (A : Option Addr) (n c : Nat) (D : Nat → Nat) (w : World) (hI : CodeK Z w A n c D) (hz : ∀ b, w.heap.size ≤ b → ¬ Z b 25) (hb : Bx w bx #[.slice A n c] 22) :
    SeqStopsK Fence.wide 5 Tryd.prog 41 #[.pointer (some ⟨bx, 0, none⟩)] (fun k : Fin n => #[.int .i64 (k.val : Nat), .agg (opsS n D k.val)]) (KpZ Z) (fun xs => xs.map (·.val) = begs n D n 0) (fun _ => True) n w := fun l J Jx W hW hJ hJx hY h0 => by
  have HE := Lib.hid (callsIn_wide (n := 4).2 (callsIn_wide.1 (each_core Z A n c D l (fun p V => ∃ q : List (Fin n), q.map (·.val) = p ∧ J q V) (fun p V => ∃ q : List (Fin n), q.map (·.val) = p ∧ Jx q V) W (hI.kp (KpZ.below hW)) (fun b hb => hz b (Nat.le_trans hW.size hb))
    (fun p V V' row ⟨q, h1, h2⟩ hg hr => ⟨q, h1, hJ q V V' row h2 hg hr⟩)
    (fun p x V ⟨q, h1, h2⟩ hl hx hr0 => (show ops4 D x = opsS n D x from (if_pos hr0).symm) ▸ (hY q ⟨x, hx⟩ V h2 (by rw [← h1, List.length_map] at hl; exact hl)).mono fun e V' he => by
      rcases he with ⟨e1, e2, e3⟩ | ⟨e1, e2⟩
      · exact .inl ⟨e1, ⟨_, by rw [List.map_append, h1]; rfl, e2⟩, e3⟩
      · exact .inr ⟨e1, ⟨_, by rw [List.map_append, h1]; rfl, e2⟩⟩) ⟨[], rfl, h0⟩)))
  have cB : W.cell? ⟨bx, 0, none⟩ = some (.slice A n c) := (hb.below hW).cell 0
  clear hJ hJx hY h0 hI hb
  refine callsIn_of_wp Tryd.func41 rfl trivial ?_ rfl
  simp only [Tryd.ntmps41, List.size_toArray, List.length_cons, List.length_nil, Nat.reduceAdd, Nat.reduceSub, Array.replicate_succ, Array.replicate_zero, List.push_toArray, List.append_toArray, List.nil_append, List.cons_append]
  gi_wp2_with (fail)
  refine ⟨trivial, HE.out.mono ?_⟩
  rintro e W' ⟨⟨v, rfl⟩, h⟩
  have HH : Hid ((∃ xs, xs.map (·.val) = begs n D n 0 ∧ J xs W') ∨ (∃ pre, True ∧ Jx pre W')) := Lib.hid (by
    rcases h with ⟨xs, rfl, q, h1, h2⟩ | ⟨pre, _, q, h1, h2⟩
    · exact .inl ⟨q, h1, h2⟩
    · exact .inr ⟨q, trivial, h2⟩)
  clear h
  gi_wp2
  first | exact ⟨⟨_, rfl⟩, HH.out⟩ | (go_end0; exact ⟨⟨_, rfl⟩, HH.out⟩)
def AllR (n : Nat) (D : Nat → Nat) (w : World) (e : Ending) (w' : World) : Prop := ∃ A c bx, e = .returned (.func (.func 41) #[] #[.pointer (some ⟨bx, 0, none⟩)]) ∧ Bx w' bx #[.slice A n c] 22 ∧ w.heap.size ≤ bx ∧ (∀ Z : Nat → TypeId → Prop, (∀ b e, w.heap.size ≤ b → b < w'.heap.size → ¬ Z b e) → CodeK Z w' A n c D) ∧ Below w.heap.size w w'
set_option maxRecDepth 100000 in
set_option maxHeartbeats 4000000 in
theorem all_c (A : Option Addr) (n c : Nat) (D : Nat → Nat) (w : World) (hI : CodeIn w A n c D) : Calls Tryd.prog 16 #[.slice A n c] w (AllR n D w) := by
  have hn := hI.big
  have HC := Lib.hid (clone54_c A n c (fun i => ((D i : Nat) : Int)) (w.alloc (.cells #[.slice A n c] 22)) (by unfold Big; omega) (hI.row.kept (Kept.of ((Below.refl _ _).alloc (Nat.le_refl _) _))))
  have HI := Lib.hid hI
  clear hI
  go_enter Tryd.func16, Tryd.ntmps16
  go_wp2_with fail
  refine HC.out.mono ?_
  rintro e w1 ⟨A', c', rfl, ho, hb⟩
  have HB : Hid (Bx w1 w.heap.size #[.slice A n c] 22) := Lib.hid ((Bx.new w _ _).below hb)
  have HO : Hid (w1.ownsRow (w.heap.size + 1) 5 1 (.slice A' n c') n (els1 n fun i => .int .u8 ((D i : Nat) : Int))) := Lib.hid (by rw [World.size_alloc] at ho; exact ho)
  have HBl := Lib.hid (((Below.refl w.heap.size w).alloc (Nat.le_refl _) (.cells #[.slice A n c] 22)).trans (hb.mono (by simp)))
  clear ho hb
  have x0 : w1.cell? ⟨w.heap.size, 0, none⟩ = some (.slice A n c) := HB.out.cell 0
  have y0 : w1.frozen? ⟨w.heap.size, 0, none⟩ = false := HB.out.frz 0
  go_wp2
  go_ret
  have hk : ∀ Z : Nat → TypeId → Prop, (∀ b e, w.heap.size ≤ b → b < w1.heap.size → ¬ Z b e) → CodeK Z w1 A' n c' D := by
    intro Z hZ
    rcases HO.out.2 with ⟨h1, h2⟩ | ⟨g, cap, cur, hv, hbg, hg, hc, hm, hs, ht⟩
    · exact ⟨⟨HI.out.big, by omega, HI.out.byt, .inl h2⟩, fun p hp hn => by omega⟩
    · injection hv with e1 e2 e3
      subst e1 e3
      refine ⟨⟨HI.out.big, hc, HI.out.byt, .inr ⟨g, 0, rfl, (Array.getElem?_eq_some_iff.1 hg).1, fun i hi => ?_⟩⟩, fun p hp hn => ?_⟩
      · rw [Nat.zero_add, cell_of_row w1 g i cur 5 _ hg]
        have hu := els1_at (fun i => Value.int .u8 ((D i : Nat) : Int)) hi
        rw [← ht, List.getElem?_take] at hu
        split at hu
        · simpa using hu
        · cases hu
      · injection hp with hp
        subst hp
        exact ⟨cur, 5, _, hZ g 5 (by omega) (Array.getElem?_eq_some_iff.1 hg).1, hg⟩
  have hne : ∀ p, A' = some p → 0 < n → p.block ≠ w.heap.size := fun p hp hn => by
    rcases HO.out.2 with ⟨h1, h2⟩ | ⟨g, cap, cur, hv, hbg, hg, hc, hm, hs, ht⟩
    · omega
    · injection hv with e1 e2 e3
      subst e1
      injection hp with hp
      subst hp
      show g ≠ w.heap.size
      omega
  refine ⟨A', c', w.heap.size, rfl, HB.out.set 0 _, Nat.le_refl _, fun Z hZ => ?_, HBl.out.setCell (p := ⟨w.heap.size, 0, none⟩) (Nat.le_refl _) _⟩
  replace hk := hk Z (fun b e h1 h2 => hZ b e h1 (by simpa [World.setCell] using h2))
  refine ⟨⟨hk.i.big, hk.i.cap, hk.i.byt, ?_⟩, fun p hp hn => ?_⟩
  · rcases hk.i.row with h0 | ⟨b, o, rfl, hb, hc⟩
    · exact .inl h0
    · by_cases hn0 : n = 0
      · exact .inl hn0
      have h9 : b ≠ w.heap.size := hne _ rfl (by omega)
      exact .inr ⟨b, o, rfl, by simpa [World.setCell] using hb, fun i hi => (World.cell?_of_block (Below.heap_setCell _ _ _ _ h9)).trans (hc i hi)⟩
  · obtain ⟨C, e, t, h1, hh⟩ := hk.k p hp hn
    exact ⟨C, e, t, h1, (Below.heap_setCell _ _ _ _ (hne p hp hn)).trans hh⟩
end Go.Proofs.YtgdlcnngplfjnaaDoor.Vf
