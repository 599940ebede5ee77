import Derived.Test.YtgdlcnngplfjnaaDoorCd
import Derived.Test.YtgdlcnngplfjnaaDoorZz
import Derived.Test.YtgdlcnngplfjnaaDoorVg
import Derived.BigGuardPart
import Derived.LoopIn
import Derived.LoopNIn
import Derived.OwnWalkIn
import Derived.RangeFuncBound
import Derived.RangeFuncBox
import Derived.RangeFuncCalls
import Derived.RangeFuncLeaves
import Derived.RangeFuncNested
import Derived.Shelf.RegionOpen
import Derived.TacticsInMore
import Derived.Laws.BitsLemmas
import Derived.IntWalk
import Derived.Laws.BitsAllLaws
import Derived.Deep.DrawnRows
import Derived.WalkKit
import Derived.ProofKit
import Derived.OpenShut
import Derived.Deep.QuietTactic
import Derived.BigQuiet
import Derived.Outline
import Derived.WalkSmall
import Derived.WalkLawsBesides
import Derived.WalkSpells
import Derived.BigGuardPart
import Derived.RegionTactic
import Derived.Deep.RegionHeld3
import Derived.Lib.Hide
import Derived.Deep.MidRow
import Derived.Below
import Derived.Deep.RegionWith
import Derived.Deep.OwnRows
import Derived.Deep.AppendLies
import Derived.Deep.RegionLaw
import Derived.Deep.CutBlock
import Derived.Deep.DeepCutAuto
namespace Go.Proofs.YtgdlcnngplfjnaaDoor.Co
open Go.Shelf Go.ChangeShapes Go.WideShapes Go.ChangeAt Go.RowKit Go.Proofs.YtgdlcnngplfjnaaDoor.Vf
set_option linter.unusedVariables false
/-! ### Places (12), by its closure (33) and each (32) -/
/-- A row of places that grows, held in a box. -/
structure Sl (B bl : Nat) (v : Value) (l : List Nat) (w : World) : Prop where
  h : Bx w bl #[v] 33
  o : w.ownsRow B 3 1 v l.length ((l.map Int.ofNat).map (.int .i64))
  b : bl < B
  s : B ≤ w.heap.size
theorem Sl.far {B bl : Nat} {v : Value} {l : List Nat} {w w' : World} (h : Sl B bl v l w) (hb : Below w.heap.size w w') : Sl B bl v l w' := ⟨h.h.below hb, own_below2 h.o hb, h.b, Nat.le_trans h.s hb.size⟩
theorem KpX.of {B b ty z : Nat} {w w' : World} (h : KpX B b ty w w') (h1 : z ≤ b) (h2 : z ≤ B) : Below z w w' := ⟨h.os, h.tape, h.output, h.size, fun k hk => h.block k (by omega) (by omega)⟩
def SlR (B bl : Nat) (l : List Nat) (w : World) (w' : World) : Prop := (∃ v', Sl B bl v' l w') ∧ KpX B bl 3 w w'
theorem app_one3 (W : World) (base n : Nat) (v : Value) (xs : List Int) (z : Int) (ho : W.ownsRow base 3 1 v n (xs.map (.int .i64))) (hn : n ≤ 90000) (hb : base ≤ W.heap.size) : ∃ v' W', (Builtin.append_ #[33, 33] 33 #[v, .slice (some ⟨W.heap.size, 0, none⟩) 1 1]).run Tryd.prog (W.alloc (.cells #[.int .i64 z] 3)) = .ok v' W' ∧ W'.ownsRow base 3 1 v' (n + 1) ((xs ++ [z]).map (.int .i64)) ∧ (W.alloc (.cells #[.int .i64 z] 3)).grownBy W' v.ownBlock := by
  have ho2 := own_alloc2 ho (.cells #[.int .i64 z] 3)
  have hI : Ints (W.alloc (.cells #[.int .i64 z] 3)) (some ⟨W.heap.size, 0, none⟩) [z] := .inr ⟨W.heap.size, 0, rfl, by rw [World.size_alloc]; exact Nat.lt_succ_self _, fun i hi => by
    have : i = 0 := Nat.lt_one_iff.1 hi
    subst this
    exact (Bx.new W #[.int .i64 z] 3).cell 0⟩
  obtain ⟨v', W', h1, h2, h3, h4⟩ := app_ints (W.alloc (.cells #[.int .i64 z] 3)) base n v xs [z] (some ⟨W.heap.size, 0, none⟩) 1 ho2 hI (by simp; omega) (by rw [World.size_alloc]; omega)
  exact ⟨v', W', h1, h2, h3⟩
set_option maxRecDepth 100000 in
set_option maxHeartbeats 2000000 in
theorem places1_c (B bl k : Nat) (v : Value) (l : List Nat) (E : Array Value) (w : World) (h : Sl B bl v l w) (hn : l.length ≤ 50000) (hE : ∃ a b c d, E = ret4 a b c d) : Calls Tryd.prog 33 #[.int .i64 (k : Nat), .agg E, .pointer (some ⟨bl, 0, none⟩)] w fun e w' => e = .returned (.bool true) ∧ SlR B bl (l ++ [k]) w w' := by
  obtain ⟨ea, eb, ec, ed, rfl⟩ := hE
  have HS := Lib.hid (h.far ((Below.refl _ _).alloc (Nat.le_refl _) (.cells (ret4 ea eb ec ed) 25)))
  have HK : Hid (KpX B bl 3 w (w.alloc (.cells (ret4 ea eb ec ed) 25))) := Lib.hid (KpX.below h.s ((Below.refl _ _).alloc (Nat.le_refl _) _))
  clear h
  unfold ret4 at HS HK ⊢
  go_enter Tryd.func33, Tryd.ntmps33
  go_upto_region 1 with fail
  generalize w.alloc (.cells #[.int .i64 ea, .int .i64 eb, .int .i64 ec, .int .i64 ed] 25) = W at HS HK ⊢
  have x0 : W.cell? ⟨bl, 0, none⟩ = some v := HS.out.h.cell 0
  obtain ⟨v', W1, hr, ho, hg⟩ := app_one3 W B l.length v (l.map Int.ofNat) (k : Int) HS.out.o (by omega) HS.out.s
  obtain ⟨a', c', rfl⟩ := own_slice ho
  have HR := Lib.hid hr
  have hne : some bl ≠ v.ownBlock := fun q => by
    have := (HS.out.o.lt bl q.symm).1
    have := HS.out.b
    omega
  have hA : Below W.heap.size W (W.alloc (.cells #[.int .i64 (k : Int)] 3)) := (Below.refl _ _).alloc (Nat.le_refl _) _
  have hbx : Bx W1 bl #[v] 33 := (hg.block bl (by rw [World.size_alloc]; have := HS.out.h.lt; omega) hne).trans (HS.out.h.below hA)
  have x1 : W1.cell? ⟨bl, 0, none⟩ = some v := hbx.cell 0
  have y1 : W1.frozen? ⟨bl, 0, none⟩ = false := hbx.frz 0
  have HF : Hid (SlR B bl (l ++ [k]) w (W1.setCell ⟨bl, 0, none⟩ (.slice a' (l.length + 1) c'))) := Lib.hid (by
    have hB := HS.out.b
    have hs := HS.out.s
    have hs1 := hg.size
    rw [World.size_alloc] at hs1
    refine ⟨⟨_, ⟨hbx.set 0 _, ?_, hB, by simp [World.setCell]; omega⟩⟩, HK.out.t ((KpX.below hs hA).t ((KpX.own (by rw [World.size_alloc]; omega) (own_alloc2 HS.out.o _) hg).t (KpX.set _ _ _)))⟩
    refine ⟨by simp, ?_⟩
    rcases ho.2 with q | ⟨g, cap, cur, h1, h2, h3, h4⟩
    · exact .inl ⟨q.1, by simp at q⟩
    · refine .inr ⟨g, cap, cur, by simpa using h1, h2, (Below.heap_setCell _ _ _ _ (by show g ≠ bl; omega)).trans h3, ?_⟩
      simpa using h4)
  clear hr ho hg hne hbx
  go_wp2_with (at_builtin; refine Lib.wpList_append_run _ rfl _ _ _ _ rfl _ _ rfl rfl _ _ HR.out ?_)
  go_ret
  exact ⟨rfl, HF.out⟩
def EcP (B bl n : Nat) (D : Nat → Nat) (w : World) (e : Ending) (w' : World) : Prop := e = .returned (.int .i64 (rdR n D).2) ∧ SlR B bl (begs n D n 0) w w'
theorem rdR_bad {n k : Nat} {D : Nat → Nat} {pre : List Nat} (h : Pfx n D pre k) (hk : k < n) (he : rdE n D k ≠ 0) : rdR n D = (k, rdE n D k) ∧ begs n D n 0 = pre := by
  obtain ⟨h1, h2⟩ := h.done (.inr he)
  refine ⟨?_, h1⟩
  unfold rdR
  rw [h2, if_pos hk]
theorem rdR_end {n k : Nat} {D : Nat → Nat} {pre : List Nat} (h : Pfx n D pre k) (hk : n ≤ k) : rdR n D = (0, 0) ∧ begs n D n 0 = pre := by
  obtain ⟨h1, h2⟩ := h.done (.inl hk)
  refine ⟨?_, h1⟩
  unfold rdR
  rw [h2, if_neg (by omega)]
set_option maxRecDepth 100000 in
set_option maxHeartbeats 4000000 in
theorem each_pl (B bl : Nat) (a : Option Addr) (n c : Nat) (D : Nat → Nat) (v : Value) (w : World) (hI : ∀ V, KpX B bl 3 w V → CodeIn V a n c D) (hS : Sl B bl v [] w) : Calls Tryd.prog 32 #[.slice a n c, .func (.func 33) #[] #[.pointer (some ⟨bl, 0, none⟩)]] w (EcP B bl n D w) := by
  have HC := Lib.hid hI
  have hn := (hI w (KpX.refl _ _ _ _)).big
  clear hI
  go_enter Tryd.func32, Tryd.ntmps32
  go_wp2_with fail
  go_loopw [5] (fun ix wr => ∃ (k : Nat) (pre : List Nat) (u : Value), k ≤ n ∧ ix = .int .i64 k ∧ pre.length ≤ k ∧ Hid (Pfx n D pre k ∧ Sl B bl u pre wr ∧ KpX B bl 3 w wr)) (fun ix _ => n - (intOf ix).toNat)
  case atStart => exact ⟨0, [], v, by omega, rfl, by simp, Lib.hid ⟨Pfx.zero n D, hS, KpX.refl _ _ _ _⟩⟩
  case round =>
    obtain ⟨k, pre, u, hk, rfl, hpl, HP⟩ := hrel
    by_cases hlt : k < n
    · have hlt' : (k : Int) < n := by omega
      have HR := Lib.hid (cread_c a n c D k wr (HC.out wr HP.out.2.2) hlt)
      go_wp2_with fail
      refine HR.out.mono ?_
      rintro e w1 ⟨rfl, hb1⟩
      have HB1 := Lib.hid hb1
      clear hb1
      by_cases hr : rdE n D k = 0
      · have hC : rdC n D k = ret4 (D k : Nat) (opA D k) (opB D k) (szK (kindO (D k)) : Nat) := if_pos hr
        have HRd := Lib.hid hr
        rw [hC, hr]
        clear hC hr
        obtain ⟨W, hW⟩ : ∃ q, q = w1.alloc (.cells #[.int .i64 (D k : Nat), .int .i64 (opA D k), .int .i64 (opB D k), .int .i64 (szK (kindO (D k)) : Nat)] 25) := ⟨_, rfl⟩
        have HV : Hid (Bx W w1.heap.size #[.int .i64 (D k : Nat), .int .i64 (opA D k), .int .i64 (opB D k), .int .i64 (szK (kindO (D k)) : Nat)] 25 ∧ Below wr.heap.size wr W) := Lib.hid (by rw [hW]; exact ⟨Bx.new _ _ _, HB1.out.alloc HB1.out.size _⟩)
        have HSl := Lib.hid (HP.out.2.1.far HV.out.2)
        have HP1 := Lib.hid (places1_c B bl k u pre (ret4 (D k : Nat) (opA D k) (opB D k) (szK (kindO (D k)) : Nat)) W HSl.out (by omega) ⟨_, _, _, _, rfl⟩)
        have HKW : Hid (KpX B bl 3 w W) := Lib.hid (HP.out.2.2.t (KpX.below HP.out.2.1.s HV.out.2))
        rw [hW] at HP1
        have HW := Lib.hid hW
        clear hW
        have hle : k + szK (kindO (D k)) ≤ n := by
          have h9 := HRd.out
          unfold rdE at h9
          split at h9
          · cases h9
          · split at h9
            · cases h9
            · omega
        have hbz := szK_bd (kindO (D k))
        unfold ret4 at HP1 ⊢
        have hnb : ¬ Zs B bl 3 w1.heap.size 25 := by
          rintro (q | ⟨q, _⟩)
          · have := HP.out.2.1.b; have := HP.out.2.1.s; have := HB1.out.size; omega
          · exact absurd q (by decide)
        have H3 : Hid (∀ W3, SlR B bl (pre ++ [k]) W W3 → W3.cell? ⟨w1.heap.size, 3, none⟩ = some (.int .i64 (szK (kindO (D k)) : Nat))) := Lib.hid fun W3 h3 => (h3.2.z.bx HV.out.1 hnb).cell 3
        rw [HW.out] at H3
        go_wp2_with (first | (go_at_call 33; refine HP1.out.mono ?_; rintro e W3 ⟨rfl, h3⟩; have x3 := H3.out _ h3))
        have HSR := Lib.hid h3
        rw [← HW.out] at HSR
        clear h3 x3
        obtain ⟨u3, hu3⟩ := HSR.out.1
        have HN := Lib.hid (And.intro (HP.out.1.step hlt HRd.out) (And.intro hu3 (HKW.out.t HSR.out.2)))
        go_roundw
        case rel => exact ⟨k + szK (kindO (D k)), pre ++ [k], u3, by omega, by go_num, by simp; omega, HN⟩
        case measure => simp [intOf]; omega
      · have HD := Lib.hid (rdR_bad HP.out.1 hlt hr)
        have hC : rdC n D k = ret4 0 0 0 0 := if_neg hr
        have hd0 : (rdE n D k != 0) = true := by simpa using hr
        have HF : Hid (∀ V, Below w1.heap.size w1 V → EcP B bl n D w (.returned (.int .i64 (rdE n D k))) V) := Lib.hid fun V hV => by
          refine ⟨by rw [HD.out.1], ?_⟩
          rw [HD.out.2]
          have hb : Below wr.heap.size wr V := HB1.out.trans (hV.mono HB1.out.size)
          exact ⟨⟨u, HP.out.2.1.far hb⟩, HP.out.2.2.t (KpX.below HP.out.2.1.s hb)⟩
        rw [hC]
        generalize rdE n D k = er at hd0 HF ⊢
        clear hC hr HR
        unfold ret4
        go_wp2
        go_ret
        exact HF.out _ ((Below.refl _ _).alloc (Nat.le_refl _) _)
    · have HD := Lib.hid (rdR_end HP.out.1 (by omega))
      have hlt' : ¬ (k : Int) < n := by omega
      have HF : Hid (EcP B bl n D w (.returned (.int .i64 0)) wr) := Lib.hid (by
        refine ⟨by rw [HD.out.1], ?_⟩
        rw [HD.out.2]
        exact ⟨⟨u, HP.out.2.1⟩, HP.out.2.2⟩)
      go_wp2
      go_ret
      exact HF.out
theorem EcP2 {B bl n : Nat} {D : Nat → Nat} {w : World} (h : (rdR n D).2 = 0) : EcP B bl n D w = fun e w' => e = .returned (.int .i64 0) ∧ SlR B bl (begs n D n 0) w w' := by
  unfold EcP
  rw [h]
/-- What Places tells. -/
def PpP (n : Nat) (D : Nat → Nat) (w : World) (e : Ending) (w' : World) : Prop :=
  Below w.heap.size w w' ∧ if (rdR n D).2 = 0 then ∃ a c, e = .returned (.tuple #[.slice a (begs n D n 0).length c, .int .i64 0]) ∧ Ints w' a ((begs n D n 0).map Int.ofNat)
  else e = .returned (.tuple #[.slice none 0 0, .int .i64 (rdR n D).2])
set_option maxRecDepth 100000 in
set_option maxHeartbeats 2000000 in
theorem pplaces_c (a : Option Addr) (n c : Nat) (D : Nat → Nat) (w : World) (hI : CodeIn w a n c D) : Calls Tryd.prog 12 #[.slice a n c] w (PpP n D w) := by
  have HE : Hid (Calls Tryd.prog 32 #[.slice a n c, .func (.func 33) #[] #[.pointer (some ⟨w.heap.size, 0, none⟩)]] (w.alloc (.cells #[.slice none 0 0] 33)) (EcP (w.heap.size + 1) w.heap.size n D (w.alloc (.cells #[.slice none 0 0] 33)))) := Lib.hid (by
    refine each_pl (w.heap.size + 1) w.heap.size a n c D (.slice none 0 0) _ (fun V hV => ?_) ⟨Bx.new _ _ _, World.ownsRow_nil _ _ _ _, by omega, by rw [World.size_alloc]; omega⟩
    exact hI.kept (Kept.of (((Below.refl _ _).alloc (Nat.le_refl _) _).trans (hV.of (Nat.le_refl _) (by omega))))) 
  clear hI
  by_cases h0 : (rdR n D).2 = 0
  · have HF : Hid (∀ v w1, Sl (w.heap.size + 1) w.heap.size v (begs n D n 0) w1 → KpX (w.heap.size + 1) w.heap.size 3 (w.alloc (.cells #[.slice none 0 0] 33)) w1 → PpP n D w (.returned (.tuple #[v, .int .i64 0])) w1) := Lib.hid fun v w1 hv hk => by
      refine ⟨((Below.refl _ _).alloc (Nat.le_refl _) _).trans (hk.of (Nat.le_refl _) (by omega)), ?_⟩
      rw [if_pos h0]
      obtain ⟨x, cx, rfl⟩ := own_slice hv.o
      exact ⟨x, cx, rfl, Ints.own hv.o (by simp)⟩
    rw [EcP2 h0] at HE
    generalize PpP n D w = Q at HF ⊢
    clear h0
    go_enter Tryd.func12, Tryd.ntmps12
    go_wp2_with (first | (go_at_call 32; refine HE.out.mono ?_; rintro e w1 ⟨rfl, ⟨v, hv⟩, hk⟩; have x0 : w1.cell? ⟨w.heap.size, 0, none⟩ = some v := hv.h.cell 0; replace hv := Lib.hid hv; replace hk := Lib.hid hk))
    exact HF.out v w1 hv.out hk.out
  · have HF : Hid (∀ v w1, Sl (w.heap.size + 1) w.heap.size v (begs n D n 0) w1 → KpX (w.heap.size + 1) w.heap.size 3 (w.alloc (.cells #[.slice none 0 0] 33)) w1 → PpP n D w (.returned (.tuple #[.slice none 0 0, .int .i64 (rdR n D).2])) w1) := Lib.hid fun v w1 hv hk => by
      refine ⟨((Below.refl _ _).alloc (Nat.le_refl _) _).trans (hk.of (Nat.le_refl _) (by omega)), ?_⟩
      rw [if_neg h0]
    have hd : ((rdR n D).2 != 0) = true := by simpa using h0
    generalize PpP n D w = Q at HF ⊢
    unfold EcP at HE
    generalize (rdR n D).2 = er at HE HF hd
    clear h0
    go_enter Tryd.func12, Tryd.ntmps12
    go_wp2_with (first | (go_at_call 32; refine HE.out.mono ?_; rintro e w1 ⟨rfl, ⟨v, hv⟩, hk⟩; have x0 : w1.cell? ⟨w.heap.size, 0, none⟩ = some v := hv.h.cell 0; replace hv := Lib.hid hv; replace hk := Lib.hid hk))
    exact HF.out v w1 hv.out hk.out
end Go.Proofs.YtgdlcnngplfjnaaDoor.Co
