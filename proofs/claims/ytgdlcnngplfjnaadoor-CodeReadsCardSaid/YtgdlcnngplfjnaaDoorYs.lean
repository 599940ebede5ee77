import Derived.Test.YtgdlcnngplfjnaaDoorYy
import Derived.BigGuardPart
import Derived.LoopIn
import Derived.LoopNIn
import Derived.OwnWalkIn
import Derived.RangeFuncBound
import Derived.RangeFuncBox
import Derived.RangeFuncCalls
import Derived.RangeFuncLeaves
import Derived.RangeFuncNested
import Derived.Shelf.RegionOpen
import Derived.TacticsInMore
import Derived.Laws.BitsLemmas
import Derived.IntWalk
import Derived.Laws.BitsAllLaws
import Derived.Deep.DrawnRows
import Derived.WalkKit
import Derived.ProofKit
import Derived.OpenShut
import Derived.Deep.QuietTactic
import Derived.BigQuiet
import Derived.Outline
import Derived.WalkSmall
import Derived.WalkLawsBesides
import Derived.WalkSpells
import Derived.BigGuardPart
import Derived.RegionTactic
import Derived.Deep.RegionHeld3
import Derived.Lib.Hide
import Derived.Deep.MidRow
import Derived.Below
import Derived.Deep.RegionWith
import Derived.Deep.OwnRows
import Derived.Deep.AppendLies
import Derived.Deep.RegionLaw
import Derived.Deep.CutBlock
import Derived.Deep.DeepCutAuto
namespace Go.Proofs.YtgdlcnngplfjnaaDoor.Vf
open Go.ChangeShapes Go.WideShapes Go.ChangeAt Go.RowKit
set_option linter.unusedVariables false
open Go.Shelf
attribute [local go_sem] Oper.semAt_some
/-! ### each and All, with what a stop tells: what was told is a beginning -/
/-- What each does, with a yield. -/
def EachQ (n : Nat) (D : Nat → Nat) (J Jx : List Nat → World → Prop) (e : Ending) (W' : World) : Prop := (∃ v, e = .returned v) ∧ ((∃ xs, xs = begs n D n 0 ∧ J xs W') ∨ (∃ pre : List Nat, (∃ rest, begs n D n 0 = pre ++ rest) ∧ Jx pre W'))
set_option maxRecDepth 100000 in
set_option maxHeartbeats 4000000 in
theorem each_coreQ (Z : Nat → TypeId → Prop) (A : Option Addr) (n c : Nat) (D : Nat → Nat) (l : Nat) (J Jx : List Nat → World → Prop) (W : World) (hI : CodeK Z W A n c D) (hz : ∀ b, W.heap.size ≤ b → ¬ Z b 25) (hJ : AbidesFrom W.heap.size J)
    (hY : ∀ pre x W1, J pre W1 → pre.length < n → x < n → rdE n D x = 0 → YieldAt Fence.wide 4 Tryd.prog l (#[.int .i64 (x : Nat), .agg (ops4 D x)]) W1 fun e W' => (e = .returned (.bool true) ∧ J (pre ++ [x]) W' ∧ KpZ Z W1 W') ∨ (e = .returned (.bool false) ∧ Jx (pre ++ [x]) W')) (h0 : J [] W) :
    CallsIn Fence.wide 5 Tryd.prog 32 #[.slice A n c, .func (.yield l) #[] #[]] W (EachQ n D J Jx) := by
  have HI := Lib.hid hI
  have hn := hI.i.big
  clear hI
  refine callsIn_of_wp Tryd.func32 rfl trivial ?_ rfl
  simp only [Tryd.ntmps32, List.size_toArray, List.length_cons, List.length_nil, Nat.reduceAdd, Nat.reduceSub, Array.replicate_succ, Array.replicate_zero, List.push_toArray, List.append_toArray, List.nil_append, List.cons_append]
  gi_wp2
  gi_loopw [5] (fun ix wr => ∃ (k : Nat) (pre : List Nat), k ≤ n ∧ ix = .int .i64 k ∧ J pre wr ∧ pre.length ≤ k ∧ W.heap.size ≤ wr.heap.size ∧ Hid (Pfx n D pre k) ∧ Hid (CodeK Z wr A n c D)) (fun ix _ => n - (intOf ix).toNat)
  case atStart => exact ⟨0, [], by omega, rfl, h0, by simp, Nat.le_refl _, Lib.hid (Pfx.zero n D), HI⟩
  case round =>
    obtain ⟨k, pre, hk, rfl, hJs, hpl, hws, HP, HC⟩ := hrel
    by_cases hlt : k < n
    · gi_wp2_with (fail)
      refine ⟨trivial, ?_⟩
      refine (callsIn_wide.2 (cread_c A n c D k wr HC.out.i hlt)).mono ?_
      rintro e w1 ⟨rfl, hb1⟩
      have HB1 := Lib.hid hb1
      clear hb1
      by_cases hr : rdE n D k = 0
      · have hC : rdC n D k = ops4 D k := if_pos hr
        have HRd := Lib.hid hr
        rw [hC, hr]
        clear hC hr
        have HV : Hid (Bx (w1.alloc (.cells (ops4 D k) 25)) w1.heap.size (ops4 D k) 25 ∧ Below wr.heap.size wr (w1.alloc (.cells (ops4 D k) 25))) := Lib.hid ⟨Bx.new _ _ _, HB1.out.alloc HB1.out.size _⟩
        have hJ1 := hJ pre wr _ none hJs (grown_none HV.out.2) (fun r e => by cases e)
        have hws1 : W.heap.size ≤ w1.heap.size := Nat.le_trans hws HB1.out.size
        have HCV := Lib.hid (HC.out.kp (KpZ.below HV.out.2))
        have HPx : Hid (∃ rest, begs n D n 0 = (pre ++ [k]) ++ rest) := Lib.hid (by
          obtain ⟨f, _, h2, _⟩ := (HP.out.step hlt HRd.out).p
          exact ⟨_, h2⟩)
        obtain ⟨fn, tmps, assign, body, hy, hR⟩ := hY pre k _ hJ1 (by omega) hlt HRd.out
        have hbz := szK_bd (kindO (D k))
        have hHR := Lib.hid hR
        clear hJs hR hJ1
        unfold ops4 ret4 at hy ⊢
        gi_wp2_with (fail)
        refine hHR.out.mono ?_
        rintro e W3 (⟨rfl, hJ3, hk3⟩ | ⟨rfl, hJx3⟩)
        · have hb3 : Bx W3 w1.heap.size #[.int .i64 (D k : Nat), .int .i64 (opA D k), .int .i64 (opB D k), .int .i64 (szK (kindO (D k)) : Nat)] 25 := hk3.bx HV.out.1 (hz _ hws1)
          have HC3 := Lib.hid (HCV.out.kp hk3)
          have HP3 := Lib.hid (HP.out.step hlt HRd.out)
          have HRd2 := HRd
          have hle : k + szK (kindO (D k)) ≤ n := by
            have h9 := HRd.out
            unfold rdE at h9
            split at h9
            · cases h9
            · split at h9
              · cases h9
              · omega
          have x3 : W3.cell? ⟨w1.heap.size, 3, none⟩ = some (.int .i64 (szK (kindO (D k)) : Nat)) := hb3.cell 3
          have hw3 : W.heap.size ≤ W3.heap.size := by have := hb3.lt; omega
          clear hk3 hb3 hy
          generalize szK (kindO (D k)) = sz at *
          gi_wp2
          go_roundw
          case rel => exact ⟨k + sz, pre ++ [k], by omega, by go_num, hJ3, by simp; omega, hw3, HP3, HC3⟩
          case measure => simp [intOf]; omega
        · clear hy
          gi_wp2
          refine bodyPost_ret (results_tmp rfl _ _ _) rfl ?_
          exact ⟨⟨_, rfl⟩, .inr ⟨_, HPx.out, hJx3⟩⟩
      · have hC : rdC n D k = ret4 0 0 0 0 := if_neg hr
        have hd0 : (rdE n D k != 0) = true := by simpa using hr
        have HD := Lib.hid (HP.out.done (.inr hr))
        have hJ1 := hJ pre wr (w1.alloc (.cells (ret4 0 0 0 0) 25)) none hJs (grown_none (HB1.out.alloc HB1.out.size _)) (fun r e => by cases e)
        rw [hC]
        generalize rdE n D k = x at *
        clear hC hJs hr
        unfold ret4 at hJ1 ⊢
        gi_wp2
        refine ⟨fun f h => (by cases h), ?_⟩
        gi_wp2
        refine bodyPost_ret (results_tmp rfl _ _ _) rfl ?_
        exact ⟨⟨_, rfl⟩, .inl ⟨_, rfl, HD.out.1.symm ▸ hJ1⟩⟩
    · have HD := Lib.hid (HP.out.done (.inl (by omega)))
      have hkn : n = k := by omega
      have d1 : decide (k < n) = false := decide_eq_false hlt
      have d2 : decide ((k : Int) < (n : Int)) = false := decide_eq_false (by omega)
      clear hkn
      gi_wp2
      refine bodyPost_ret (results_tmp rfl _ _ _) rfl ?_
      exact ⟨⟨_, rfl⟩, .inl ⟨_, rfl, HD.out.1.symm ▸ hJs⟩⟩
set_option maxRecDepth 100000 in
set_option maxHeartbeats 4000000 in
theorem all1_stopsQ (Z : Nat → TypeId → Prop) (bx : Nat) (A : Option Addr) (n c : Nat) (D : Nat → Nat) (w : World) (hI : CodeK Z w A n c D) (hz : ∀ b, w.heap.size ≤ b → ¬ Z b 25) (hb : Bx w bx #[.slice A n c] 22) :
    SeqStopsK Fence.wide 5 Tryd.prog 41 #[.pointer (some ⟨bx, 0, none⟩)] (fun k : Fin n => #[.int .i64 (k.val : Nat), .agg (opsS n D k.val)]) (KpZ Z) (fun xs => xs.map (·.val) = begs n D n 0) (fun pre => ∃ rest, begs n D n 0 = pre.map (·.val) ++ rest) n w := fun l J Jx W hW hJ hJx hY h0 => by
  have HE := Lib.hid (callsIn_wide (n := 4).2 (callsIn_wide.1 (each_coreQ Z A n c D l (fun p V => ∃ q : List (Fin n), q.map (·.val) = p ∧ J q V) (fun p V => ∃ q : List (Fin n), q.map (·.val) = p ∧ Jx q V) W (hI.kp (KpZ.below hW)) (fun b hb => hz b (Nat.le_trans hW.size hb))
    (fun p V V' row ⟨q, h1, h2⟩ hg hr => ⟨q, h1, hJ q V V' row h2 hg hr⟩)
    (fun p x V ⟨q, h1, h2⟩ hl hx hr0 => (show ops4 D x = opsS n D x from (if_pos hr0).symm) ▸ (hY q ⟨x, hx⟩ V h2 (by rw [← h1, List.length_map] at hl; exact hl)).mono fun e V' he => by
      rcases he with ⟨e1, e2, e3⟩ | ⟨e1, e2⟩
      · exact .inl ⟨e1, ⟨_, by rw [List.map_append, h1]; rfl, e2⟩, e3⟩
      · exact .inr ⟨e1, ⟨_, by rw [List.map_append, h1]; rfl, e2⟩⟩) ⟨[], rfl, h0⟩)))
  have cB : W.cell? ⟨bx, 0, none⟩ = some (.slice A n c) := (hb.below hW).cell 0
  clear hJ hJx hY h0 hI hb
  refine callsIn_of_wp Tryd.func41 rfl trivial ?_ rfl
  simp only [Tryd.ntmps41, List.size_toArray, List.length_cons, List.length_nil, Nat.reduceAdd, Nat.reduceSub, Array.replicate_succ, Array.replicate_zero, List.push_toArray, List.append_toArray, List.nil_append, List.cons_append]
  gi_wp2_with (fail)
  refine ⟨trivial, HE.out.mono ?_⟩
  rintro e W' ⟨⟨v, rfl⟩, h⟩
  have HH : Hid ((∃ xs, xs.map (·.val) = begs n D n 0 ∧ J xs W') ∨ (∃ pre : List (Fin n), (∃ rest, begs n D n 0 = pre.map (·.val) ++ rest) ∧ Jx pre W')) := Lib.hid (by
    rcases h with ⟨xs, rfl, q, h1, h2⟩ | ⟨pre, h0, q, h1, h2⟩
    · exact .inl ⟨q, h1, h2⟩
    · exact .inr ⟨q, by rw [h1]; exact h0, h2⟩)
  clear h
  gi_wp2
  first | exact ⟨⟨_, rfl⟩, HH.out⟩ | (go_end0; exact ⟨⟨_, rfl⟩, HH.out⟩)
end Go.Proofs.YtgdlcnngplfjnaaDoor.Vf
