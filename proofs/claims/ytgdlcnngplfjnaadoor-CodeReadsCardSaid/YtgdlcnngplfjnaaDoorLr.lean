import Derived.Test.YtgdlcnngplfjnaaDoorRt
import Derived.Test.YtgdlcnngplfjnaaDoorRa
import Derived.Test.YtgdlcnngplfjnaaDoorYs
import Derived.Test.YtgdlcnngplfjnaaDoorKn
import Derived.Test.YtgdlcnngplfjnaaDoorRn
import Derived.Test.YtgdlcnngplfjnaaDoorZz
import Derived.Test.YtgdlcnngplfjnaaDoorLp
import Derived.BigGuardPart
import Derived.LoopIn
import Derived.LoopNIn
import Derived.OwnWalkIn
import Derived.RangeFuncBound
import Derived.RangeFuncBox
import Derived.RangeFuncCalls
import Derived.RangeFuncLeaves
import Derived.RangeFuncNested
import Derived.Shelf.RegionOpen
import Derived.TacticsInMore
import Derived.Laws.BitsLemmas
import Derived.IntWalk
import Derived.Laws.BitsAllLaws
import Derived.Deep.DrawnRows
import Derived.WalkKit
import Derived.ProofKit
import Derived.OpenShut
import Derived.Deep.QuietTactic
import Derived.BigQuiet
import Derived.Outline
import Derived.WalkSmall
import Derived.WalkLawsBesides
import Derived.WalkSpells
import Derived.BigGuardPart
import Derived.RegionTactic
import Derived.Deep.RegionHeld3
import Derived.Lib.Hide
import Derived.Deep.MidRow
import Derived.Below
import Derived.Deep.RegionWith
import Derived.Deep.OwnRows
import Derived.Deep.AppendLies
import Derived.Deep.RegionLaw
import Derived.Deep.CutBlock
import Derived.Deep.DeepCutAuto
import Derived.Lib.QuietBelow
import Derived.Lib.QuietBelowIn
namespace Go.Proofs.YtgdlcnngplfjnaaDoor.Co
open Go.Shelf Go.ChangeShapes Go.WideShapes Go.ChangeAt Go.RowKit Go.Proofs.YtgdlcnngplfjnaaDoor.Vf
set_option linter.unusedVariables false
/-! ### The law CodeReads (3) -/
attribute [local go_sem] Oper.semAt_some
/-- The law's own boxes: the bytes, the stop, the answer. -/
structure R0 (s : Nat) (a : Option Addr) (n c : Nat) (stop : Int) (V : World) : Prop where
  b : Bx V s #[.slice a n c] 22
  t : Bx V (s + 1) #[.int .i64 stop] 3
  r : Bx V (s + 2) #[.bool false] 4
theorem R0.far {s : Nat} {a : Option Addr} {n c : Nat} {stop : Int} {V V' : World} (h : R0 s a n c stop V) (hb : Below V.heap.size V V') : R0 s a n c stop V' := ⟨h.b.below hb, h.t.below hb, h.r.below hb⟩
theorem R0.far' {s : Nat} {a : Option Addr} {n c : Nat} {stop : Int} {w V V' : World} (h : R0 s a n c stop V) (_ : Below s w V) (hb : Below V.heap.size V V') : R0 s a n c stop V' := h.far hb
theorem R0.begin (w : World) (a : Option Addr) (n c : Nat) (stop : Int) : R0 w.heap.size a n c stop (((w.alloc (.cells #[.slice a n c] 22)).alloc (.cells #[.int .i64 stop] 3)).alloc (.cells #[.bool false] 4)) := by
  have e1 : (w.alloc (.cells #[.slice a n c] 22)).heap.size = w.heap.size + 1 := World.size_alloc _ _
  have e2 : ((w.alloc (.cells #[.slice a n c] 22)).alloc (.cells #[.int .i64 stop] 3)).heap.size = w.heap.size + 2 := by rw [World.size_alloc, e1]
  have b1 := Bx.new (w.alloc (.cells #[.slice a n c] 22)) #[.int .i64 stop] 3
  have b2 := Bx.new ((w.alloc (.cells #[.slice a n c] 22)).alloc (.cells #[.int .i64 stop] 3)) #[.bool false] 4
  rw [e1] at b1
  rw [e2] at b2
  exact ⟨((Bx.new w _ _).alloc _).alloc _, b1.alloc _, b2⟩
/-- The places that both tell. -/
def plL (n : Nat) (D : Nat → Nat) : List Int := if (rdR n D).2 = 0 then (begs n D n 0).map Int.ofNat else []
theorem plL_len (n : Nat) (D : Nat → Nat) : (plL n D).length ≤ n := by
  unfold plL
  split
  · rw [List.length_map]
    have := begs_len n D n 0
    omega
  · exact Nat.zero_le _
theorem PpP.all {n : Nat} {D : Nat → Nat} {w w' : World} {e : Ending} (h : PpP n D w e w') : ∃ x cx, e = .returned (.tuple #[.slice x (plL n D).length cx, .int .i64 (rdR n D).2]) ∧ Ints w' x (plL n D) ∧ Below w.heap.size w w' := by
  obtain ⟨h1, h2⟩ := h
  unfold plL
  by_cases h0 : (rdR n D).2 = 0
  · rw [if_pos h0] at h2
    obtain ⟨x, cx, rfl, h3⟩ := h2
    rw [if_pos h0]
    exact ⟨x, cx, by simp [h0], h3, h1⟩
  · rw [if_neg h0] at h2
    rw [if_neg h0]
    exact ⟨none, 0, h2, Ints.nil _ _, h1⟩
theorem plcP_all {n : Nat} {D : Nat → Nat} {w w' : World} {e : Ending} (h : PlcP n D w e w') : ∃ x cx q, e = .returned (.tuple #[.slice x (plL n D).length cx, .int .i64 (rdR n D).2, .int .i64 q]) ∧ Ints w' x (plL n D) ∧ Below w.heap.size w w' := by
  obtain ⟨h1, h2⟩ := h
  unfold plL
  by_cases h0 : (rdR n D).2 = 0
  · rw [if_pos h0] at h2
    obtain ⟨x, cx, rfl, h3⟩ := h2
    rw [if_pos h0]
    exact ⟨x, cx, 0, by simp [h0], h3, h1⟩
  · rw [if_neg h0] at h2
    rw [if_neg h0]
    exact ⟨none, 0, _, h2, Ints.nil _ _, h1⟩
/-- A range over a function of an index and an operation, neither of use, that may be left for what follows it. -/
theorem range_brF {N : Nat} {P : Program} {n : Nat} {g : Operand} {p q : Tmp} {body : Code} {Q : Exit → Act → World → Prop} {a : Act} {w : World} (h1 : 1 ≤ n) {gf : Nat} {lb : Array Value} (hg : a.eval g = .func (.func gf) #[] lb) (eg : ∀ args w, (callFunc gf args).run P w = .ok (.enter gf args) w)
    {E : Fin N → Array Value} {Kp : World → World → Prop} {S Sp : List (Fin N) → Prop} {w0 : World} (hseq : SeqStopsK Fence.wide (n - 1) P gf lb (fun k : Fin N => #[.int .i64 (k.val : Nat), .agg (E k)]) Kp S Sp N w0)
    (hKt : ∀ {A B C : World}, Kp A B → Kp B C → Kp A C) (hKb : ∀ (W : World) (l : Nat) (o o' : Obj), w.heap.size ≤ l → W.heap[l]? = some o → o.isCells = false → o.isWalk = false → Kp W (W.putObj l o')) (hb0 : Below w0.heap.size w0 w)
    (I : List (Fin N) → World → Prop) (k : Nat) (hI : OwnFrom w.heap.size I) (h0 : I [] w) (hQ : ∀ a W, Q .normal a W → Q (.exit k) a W)
    (hbody : ∀ (l : Nat) (pre : List (Fin N)) (x : Fin N) (W : World), I pre W → pre.length < N → body.wpIn (Fence.wide.inRound l) (n - 1 - 1) P (ownPostG w.heap.size Kp I (fun c pre W => c = .exit k ∧ I pre W) (pre ++ [x]) W) { tmps := (a.tmps.setIfInBounds p (.int .i64 (x.val : Nat))).setIfInBounds q (.agg (E x)), defers := [] } W)
    (hdone : ∀ (D : Nat) (xs : List (Fin N)) (W : World), w.heap.size ≤ D → I xs W → W.heap[D]? = some (.deferred (some [])) → Q .normal { a with defers := { target := .collected D, args := #[] } :: a.defers } W) :
    (Code.rangeFunc g #[p, q] .skip body).wpIn Fence.wide n P Q a w :=
  wpIn_rangeFunc_ownG rfl h1 hg trivial eg hseq hKt hKb hb0 (fun _ => rfl) I (fun c pre W => c = .exit k ∧ I pre W) hI (fun c => OwnFrom.and (ownFrom_pure _ (fun _ => c = .exit k)) hI) h0 (fun x => { tmps := (a.tmps.setIfInBounds p (.int .i64 (x.val : Nat))).setIfInBounds q (.agg (E x)), defers := [] })
    (fun l x W K hK => by
      refine wpIn_skip ?_
      simp only [Exit.then]
      simpa using hK) hbody (fun D xs W hD _ hi hk => hdone D xs W hD hi hk)
    (fun D c pre W hD _ hc hk => by
      obtain ⟨rfl, hi⟩ := hc
      exact wpIn_exit (hQ _ _ (hdone D pre W hD hi hk)))
theorem ko_below {W W' : World} (h : Below W.heap.size W W') : KeepsOthers W W' := ⟨h.size, fun k o hk _ => (h.block k (Array.getElem?_eq_some_iff.1 hk).1).trans hk⟩
/-- A region that draws its order, within a round: it reads, and calls what allocates: walked once. -/
theorem quiet_round {P : Program} {n l id : Nat} {ops : List Oper} {Q : Exit → Act → World → Prop} {a : Act} {w : World} (hm : P.follows .mixedOrders = true) (hd : noDefer ops.toArray = true) (hL : ¬ LetsOut Q) (hB : Region.lexB .any ops.toArray = true)
    (h : wpQuiet P ops.toArray (fun w' => ∃ p : Regrown, w' = Go.Sort.grow (redrawn w p.d) p.os) (fun a' => ∀ w', (∃ p : Regrown, w' = Go.Sort.grow (redrawn w p.d) p.os) → Q .normal a' w') ops a) : (Code.region id ops.toArray true).wpIn (Fence.wide.inRound l) n P Q a w := by
  simp only [Region.lexB, Bool.and_eq_true] at hB
  refine wpIn_region_any hm (wpAny_round hd hL _ _ _ _ (wpAny_of_quiet (C := fun w' => ∃ p : Regrown, w' = Go.Sort.grow (redrawn w p.d) p.os) (Q := fun a' => ∀ w', (∃ p : Regrown, w' = Go.Sort.grow (redrawn w p.d) p.os) → Q .normal a' w') (fun _ w' hw' h => h w' hw') _ _ _ _ ⟨⟨w.drawn + 1, #[]⟩, by rw [Go.Sort.grow_empty]; rfl⟩ ?_))
  have := wpAnyQ_lex (P := P) (C := fun w' => ∃ p : Regrown, w' = Go.Sort.grow (redrawn w p.d) p.os) (md := .any) hB.1 ops 0 (Array.replicate ops.toArray.size false) a (by simp) (by simpa using hB.2) h
  simpa using this
theorem eqOp (n : Nat) (D : Nat → Nat) (p : Int) : ∃ c0 c1 c2 c3 : Int, opC n D p = #[.int .i64 c0, .int .i64 c1, .int .i64 c2, .int .i64 c3] := by
  unfold opC
  split
  · exact ⟨_, _, _, _, rfl⟩
  · exact ⟨_, _, _, _, rfl⟩
theorem R0.ret {s : Nat} {a : Option Addr} {n c : Nat} {stop : Int} {w V : World} (h : R0 s a n c stop V) (hb : Below s w V) (A : Act) (hd : A.defers = []) (h6 : A.tmps[6]? = some (.pointer (some ⟨s + 1 + 1, 0, none⟩))) (hs : s = w.heap.size) :
    bodyPostM Fence.wide 6 Tryd.prog Tryd.f3 (fun e w' => e = .returned (.bool true) ∧ Below w.heap.size w w') .ret A (V.setCell ⟨s + 1 + 1, 0, none⟩ (.bool true)) := by
  show LeavesInM Fence.wide 6 Tryd.prog Tryd.f3 A.tmps _ A.defers .returning _
  rw [hd]
  have hr := h.r.set 0 (.bool true)
  have c0 := hr.cell 0
  refine ⟨.bool true, ?_, rfl, ?_⟩
  · have c1 : (V.setCell ⟨s + 1 + 1, 0, none⟩ (.bool true)).cell? ⟨s + 1 + 1, 0, none⟩ = some (.bool true) := c0
    simp [results, Tryd.f3, go_sem, c1, h6]
  · rw [← hs]
    exact hb.setCell (p := ⟨s + 1 + 1, 0, none⟩) (by show s ≤ s + 1 + 1; omega) (.bool true)
set_option maxRecDepth 100000 in
set_option maxHeartbeats 4000000 in
theorem reads_law (a : Option Addr) (n c : Nat) (D : Nat → Nat) (p stop : Int) (w : World) (hT : Tbs w) (hI : n ≤ 4000 → CodeIn w a n c D) : Calls Tryd.prog 3 #[.slice a n c, .int .i64 p, .int .i64 stop] w fun e w' => e = .returned (.bool true) ∧ Below w.heap.size w w' := by
  have HT := Lib.hid hT
  clear hT
  refine (callsIn_wide (n := 6)).1 ?_
  refine callsIn_of_wp_marks Tryd.func3 rfl trivial ?_ rfl
  simp only [Tryd.ntmps3, List.size_toArray, List.length_cons, List.length_nil, Nat.reduceAdd, Nat.reduceSub, Array.replicate_succ, Array.replicate_zero, List.push_toArray, List.append_toArray, List.nil_append, List.cons_append]
  refine wpIn_wide.2 ?_
  obtain ⟨s, hs⟩ : ∃ q, q = w.heap.size := ⟨_, rfl⟩
  obtain ⟨W0, hW0⟩ : ∃ q, q = ((w.alloc (.cells #[.slice a n c] 22)).alloc (.cells #[.int .i64 stop] 3)).alloc (.cells #[.bool false] 4) := ⟨_, rfl⟩
  have H0 : Hid (R0 s a n c stop W0 ∧ Below s w W0) := Lib.hid (by
    rw [hW0, hs]
    exact ⟨R0.begin w a n c stop, (((Below.refl _ _).alloc (Nat.le_refl _) _).alloc (by simp) _).alloc (by simp; omega) _⟩)
  have HK := Lib.hid (known_c W0 (HT.out.below (hs ▸ H0.out.2)))
  have HW0 := Lib.hid hW0
  have HS := Lib.hid hs
  go_wp2_with fail
  rw [← hW0]
  clear hW0
  refine HK.out.mono ?_
  rintro e w1 ⟨rfl, hb1⟩
  have H1 : Hid (R0 s a n c stop w1 ∧ Below s w w1) := Lib.hid ⟨H0.out.1.far hb1, H0.out.2.trans (hb1.mono (by have := H0.out.2.size; have := HS.out; omega))⟩
  clear hb1 H0 HK HW0
  rw [← hs]
  clear hs
  have x0 : w1.cell? ⟨s, 0, none⟩ = some (.slice a n c) := H1.out.1.b.cell 0
  have y2 : w1.frozen? ⟨s + 2, 0, none⟩ = false := H1.out.1.r.frz 0
  by_cases hn : n ≤ 4000
  case neg =>
    have d0 : decide ((4000 : Int) < (n : Int)) = true := decide_eq_true (by omega)
    have z2 : w1.cell? ⟨s + 2, 0, none⟩ = some (.bool false) := H1.out.1.r.cell 0
    clear hI
    go_wp2
    exact R0.ret H1.out.1 H1.out.2 _ rfl rfl HS.out
  have d0 : decide ((4000 : Int) < (n : Int)) = false := decide_eq_false (by omega)
  have HC := Lib.hid (hI hn)
  clear hI
  obtain ⟨c0, c1, c2, c3, hc⟩ := eqOp n D p
  have HO := Lib.hid hc
  clear hc
  go_wp2_with fail
  refine (cread_any a n c D p w1 (HC.out.kept (Kept.of (HS.out ▸ H1.out.2)))).mono ?_
  rintro e w2 ⟨rfl, hb2⟩
  rw [HO.out]
  have H2 : Hid (R0 s a n c stop w2 ∧ Below s w w2) := Lib.hid ⟨H1.out.1.far' H1.out.2 hb2, H1.out.2.trans (hb2.mono (by have := H1.out.2.size; have := HS.out; omega))⟩
  clear hb2 H1 x0 y2
  obtain ⟨W2, hW2⟩ : ∃ q, q = w2.alloc (.cells #[.int .i64 c0, .int .i64 c1, .int .i64 c2, .int .i64 c3] 25) := ⟨_, rfl⟩
  obtain ⟨s7, hs7⟩ : ∃ q, q = w2.heap.size := ⟨_, rfl⟩
  have H3 : Hid (R0 s a n c stop W2 ∧ Below s w W2 ∧ Bx W2 s7 #[.int .i64 c0, .int .i64 c1, .int .i64 c2, .int .i64 c3] 25 ∧ s + 2 < s7) := Lib.hid (by
    rw [hW2, hs7]
    exact ⟨⟨H2.out.1.b.alloc _, H2.out.1.t.alloc _, H2.out.1.r.alloc _⟩, H2.out.2.alloc (by have := H2.out.1.r.lt; omega) _, Bx.new _ _ _, H2.out.1.r.lt⟩)
  have HW2 := Lib.hid hW2
  have HS7 := Lib.hid hs7
  clear hs7
  have x0 : (w2.alloc (.cells #[.int .i64 c0, .int .i64 c1, .int .i64 c2, .int .i64 c3] 25)).cell? ⟨s, 0, none⟩ = some (.slice a n c) := hW2 ▸ H3.out.1.b.cell 0
  clear hW2
  go_wp2_with fail
  rw [← HW2.out, ← HS7.out]
  clear x0
  refine (rread_any a n c D p W2 (HC.out.kept (Kept.of (HS.out ▸ H3.out.2.1)))).mono ?_
  rintro e w3 ⟨rfl, hb3⟩
  rw [HO.out]
  obtain ⟨W3, hW3⟩ : ∃ q, q = w3.alloc (.cells #[.int .i64 c0, .int .i64 c1, .int .i64 c2, .int .i64 c3] 29) := ⟨_, rfl⟩
  obtain ⟨s9, hs9⟩ : ∃ q, q = w3.heap.size := ⟨_, rfl⟩
  have H4 : Hid (R0 s a n c stop W3 ∧ Below s w W3 ∧ Bx W3 s7 #[.int .i64 c0, .int .i64 c1, .int .i64 c2, .int .i64 c3] 25 ∧ Bx W3 s9 #[.int .i64 c0, .int .i64 c1, .int .i64 c2, .int .i64 c3] 29 ∧ s + 2 < s7) := Lib.hid (by
    rw [hW3, hs9]
    have hb4 : Below s W2 w3 := hb3.mono (by have := H3.out.1.r.lt; omega)
    have h1 := H3.out.1.far hb3
    exact ⟨⟨h1.b.alloc _, h1.t.alloc _, h1.r.alloc _⟩, (H3.out.2.1.trans hb4).alloc (by have := h1.r.lt; omega) _, (H3.out.2.2.1.below hb3).alloc _, Bx.new _ _ _, H3.out.2.2.2⟩)
  have HW3 := Lib.hid hW3
  have HS9 := Lib.hid hs9
  clear hs9 hb3 H3 H2 hW3
  have z7 : W3.cell? ⟨s7, 0, none⟩ = some (.int .i64 c0) := H4.out.2.2.1.cell 0
  have z71 : W3.cell? ⟨s7, 1, none⟩ = some (.int .i64 c1) := H4.out.2.2.1.cell 1
  have z72 : W3.cell? ⟨s7, 2, none⟩ = some (.int .i64 c2) := H4.out.2.2.1.cell 2
  have z73 : W3.cell? ⟨s7, 3, none⟩ = some (.int .i64 c3) := H4.out.2.2.1.cell 3
  have z9 : W3.cell? ⟨s9, 0, none⟩ = some (.int .i64 c0) := H4.out.2.2.2.1.cell 0
  have z91 : W3.cell? ⟨s9, 1, none⟩ = some (.int .i64 c1) := H4.out.2.2.2.1.cell 1
  have z92 : W3.cell? ⟨s9, 2, none⟩ = some (.int .i64 c2) := H4.out.2.2.2.1.cell 2
  have z93 : W3.cell? ⟨s9, 3, none⟩ = some (.int .i64 c3) := H4.out.2.2.2.1.cell 3
  go_wp2_with fail
  rw [← HW3.out, ← HS9.out]
  have k7 := cell_regrown z7
  have k71 := cell_regrown z71
  have k72 := cell_regrown z72
  have k73 := cell_regrown z73
  have k9 := cell_regrown z9
  have k91 := cell_regrown z91
  have k92 := cell_regrown z92
  have k93 := cell_regrown z93
  have cO : ∀ d os, Calls Tryd.prog 11 #[.agg #[.int .i64 c0, .int .i64 c1, .int .i64 c2, .int .i64 c3]] (Go.Sort.grow (redrawn W3 d) os) fun e w'' => e = .returned (.agg #[.int .i64 c0, .int .i64 c1, .int .i64 c2, .int .i64 c3]) ∧ ∃ p : Regrown, w'' = Go.Sort.grow (redrawn W3 p.d) p.os := fun d os => Calls.regrown_of (of_c c0 c1 c2 c3 _)
  refine wp_region_quiet_below (by rfl) (by kernel_rfl) ?_
  repeat (quiet_step (first | exact cO _ _))
  refine wpQuiet_nil ?_
  intro W4 hw4
  obtain ⟨q4, hq4⟩ := hw4
  have hb4 : Below W3.heap.size W3 W4 := hq4 ▸ below_regrown W3 q4.d q4.os
  have H5 : Hid (R0 s a n c stop W4 ∧ Below s w W4) := Lib.hid ⟨H4.out.1.far hb4, H4.out.2.1.trans (hb4.mono (by have := H4.out.1.r.lt; omega))⟩
  clear hq4 q4 hb4 H4 k7 k71 k72 k73 k9 k91 k92 k93 z7 z71 z72 z73 z9 z91 z92 z93 cO HW3 HS9 HW2 HS7
  have x0 : W4.cell? ⟨s, 0, none⟩ = some (.slice a n c) := H5.out.1.b.cell 0
  go_wp2_with fail
  refine (pplaces_c a n c D W4 (HC.out.kept (Kept.of (HS.out ▸ H5.out.2)))).mono ?_
  intro e w5 hp
  obtain ⟨pa, pc, rfl, hpi, hb5⟩ := hp.all
  have H6 : Hid (R0 s a n c stop w5 ∧ Below s w w5 ∧ Ints w5 pa (plL n D)) := Lib.hid ⟨H5.out.1.far hb5, H5.out.2.trans (hb5.mono (by have := H5.out.1.r.lt; omega)), hpi⟩
  clear hp hpi hb5 x0 H5
  have x0 : w5.cell? ⟨s, 0, none⟩ = some (.slice a n c) := H6.out.1.b.cell 0
  go_wp2_with fail
  refine (places_c a n c D w5 (HC.out.kept (Kept.of (HS.out ▸ H6.out.2.1)))).mono ?_
  intro e w6 hp
  obtain ⟨ra, rc, rp, rfl, hri, hb6⟩ := plcP_all hp
  have H7 : Hid (R0 s a n c stop w6 ∧ Below s w w6 ∧ Ints w6 pa (plL n D) ∧ Ints w6 ra (plL n D)) := Lib.hid ⟨H6.out.1.far hb6, H6.out.2.1.trans (hb6.mono (by have := H6.out.1.r.lt; omega)), H6.out.2.2.kept (Kept.of hb6), hri⟩
  clear hp hri hb6 x0 H6
  obtain ⟨er, her⟩ : ∃ q, q = (rdR n D).2 := ⟨_, rfl⟩
  obtain ⟨L, hL⟩ : ∃ q, q = plL n D := ⟨_, rfl⟩
  rw [← hL] at H7
  rw [← hL, ← her]
  have hLl : L.length ≤ 4000 := by rw [hL]; exact Nat.le_trans (plL_len n D) hn
  have HER := Lib.hid her
  clear hL her
  go_wp2_with fail
  go_loopw [14] (fun i wr => ∃ j : Nat, j ≤ L.length ∧ i = .int .i64 j ∧ Hid (Below w6.heap.size w6 wr)) (fun i _ => L.length - (intOf i).toNat)
  case atStart => exact ⟨0, by omega, rfl, Lib.hid (Below.refl _ _)⟩
  case round =>
    obtain ⟨j, hj, rfl, HR⟩ := hrel
    by_cases hlt : j < L.length
    · have hlt' : (j : Int) < (L.length : Int) := by omega
      obtain ⟨bx, ox, rfl, hxb, hxc⟩ := H7.out.2.2.1.at (by omega)
      obtain ⟨by', oy, rfl, hyb, hyc⟩ := H7.out.2.2.2.at (by omega)
      have x1 : wr.cell? ⟨bx, ox + j, none⟩ = some (.int .i64 (L.getD j 0)) := by rw [HR.out.cell (p := ⟨bx, ox + j, none⟩) hxb, hxc j hlt]
      have y1 : wr.cell? ⟨by', oy + j, none⟩ = some (.int .i64 (L.getD j 0)) := by rw [HR.out.cell (p := ⟨by', oy + j, none⟩) hyb, hyc j hlt]
      clear hxb hxc hyb hyc
      generalize L.getD j 0 = g at x1 y1
      go_wp2
      go_quiet (fail)
      go_wp2
      exact ⟨⟨j + 1, by omega, by go_num, Lib.hid (below_drewN HR.out _)⟩, by simp [intOf]; omega⟩
    · have hlt' : ¬ (j : Int) < (L.length : Int) := by omega
      obtain rfl : j = L.length := by omega
      have H8 : Hid (R0 s a n c stop wr ∧ Below s w wr) := Lib.hid ⟨H7.out.1.far HR.out, H7.out.2.1.trans (HR.out.mono (by have := H7.out.1.r.lt; omega))⟩
      clear HR H7
      have x0 : wr.cell? ⟨s, 0, none⟩ = some (.slice a n c) := H8.out.1.b.cell 0
      go_wp2_with fail
      refine (text_c a n c D wr (HC.out.kept (Kept.of (HS.out ▸ H8.out.2))) (HT.out.below (HS.out ▸ H8.out.2))).mono ?_
      rintro e w7 ⟨rfl, hb7⟩
      have H9 : Hid (R0 s a n c stop w7 ∧ Below s w w7) := Lib.hid ⟨H8.out.1.far hb7, H8.out.2.trans (hb7.mono (by have := H8.out.1.r.lt; omega))⟩
      clear hb7 H8 x0
      have x0 : w7.cell? ⟨s, 0, none⟩ = some (.slice a n c) := H9.out.1.b.cell 0
      rw [← HER.out]
      go_wp2_with fail
      refine (rtext_c a n c D w7 (HC.out.kept (Kept.of (HS.out ▸ H9.out.2)))).mono ?_
      rintro e w8 ⟨rfl, hb8⟩
      have H10 : Hid (R0 s a n c stop w8 ∧ Below s w w8) := Lib.hid ⟨H9.out.1.far hb8, H9.out.2.trans (hb8.mono (by have := H9.out.1.r.lt; omega))⟩
      clear hb8 H9 x0
      have x0 : w8.cell? ⟨s, 0, none⟩ = some (.slice a n c) := H10.out.1.b.cell 0
      rw [← HER.out]
      generalize (⟨(txS n D).toArray⟩ : ByteArray) = TX
      go_wp2_with fail
      refine (all_c a n c D w8 (HC.out.kept (Kept.of (HS.out ▸ H10.out.2)))).mono ?_
      intro e w9 hp
      obtain ⟨A2, cc2, bx, rfl, hbx, hbx2, hcode, hb9⟩ := hp
      obtain ⟨W5, hW5⟩ : ∃ q, q = w9.alloc (.cells #[.int .i64 0] 3) := ⟨_, rfl⟩
      obtain ⟨s18, hs18⟩ : ∃ q, q = w9.heap.size := ⟨_, rfl⟩
      have H11 : Hid (R0 s a n c stop W5 ∧ Below s w W5 ∧ Bx W5 bx #[.slice A2 n cc2] 22 ∧ Bx W5 s18 #[.int .i64 0] 3 ∧ s + 2 < bx ∧ bx < s18 ∧ s18 + 1 = W5.heap.size ∧ CodeK (fun b e => s18 ≤ b ∧ e = 3) W5 A2 n cc2 D) := Lib.hid (by
        have h1 := H10.out.1.far hb9
        have hs8 := H10.out.1.r.lt
        rw [hW5, hs18]
        refine ⟨⟨h1.b.alloc _, h1.t.alloc _, h1.r.alloc _⟩, (H10.out.2.trans (hb9.mono (by omega))).alloc (by have := h1.r.lt; omega) _, hbx.alloc _, Bx.new _ _ _, by omega, hbx.lt, (World.size_alloc _ _).symm, ?_⟩
        exact (hcode (fun b e => w9.heap.size ≤ b ∧ e = 3) (fun b e h2 h3 h4 => by have := h4.1; omega)).kp (KpZ.alloc _ _ _))
      have HW5 := Lib.hid hW5
      have HS18 := Lib.hid hs18
      clear hbx hbx2 hcode hb9 hW5 hs18 H10 x0
      go_wp2_with fail
      rw [← HW5.out, ← HS18.out]
      refine (wpIn_wide (n := 6)).1 ?_
      have hZ : ∀ b, W5.heap.size ≤ b → ¬ (s18 ≤ b ∧ (25 : TypeId) = 3) := fun b _ h => absurd h.2 (by decide)
      refine range_brF (by decide) (gf := 41) (lb := #[.pointer (some ⟨bx, 0, none⟩)]) rfl (fun args w => rfl) (E := fun x => opsS n D x.val)
        (all1_stopsQ (fun b e => s18 ≤ b ∧ e = 3) bx A2 n cc2 D W5 H11.out.2.2.2.2.2.2.2 hZ H11.out.2.2.1) (fun h k => KpZ.t h k) (fun W l o o' _ h1 h2 _ => KpZ.put W l o o' h1 h2) (Below.refl _ _)
        (fun (pre : List (Fin n)) W => Bx W s18 #[.int .i64 pre.length] 3 ∧ Below s18 W5 W) 2
        (OwnFrom.and (Own.from (boxed_own s18 3 (fun q : List (Fin n) => .int .i64 q.length)) _) (ownFrom_below (by have := H11.out.2.2.2.2.2.2.1; omega) (by have := H11.out.2.2.2.2.2.2.1; omega)))
        ⟨H11.out.2.2.2.1, Below.refl _ _⟩ (fun a W h => by simpa [Exit.inBlock, Exit.then] using h) ?body1 ?done1
      case body1 =>
        rintro l pre x W ⟨bN, hB⟩ hlt
        simp only [List.setIfInBounds_toArray, List.set_cons_succ, List.set_cons_zero]
        have hs18l : s + 2 < bx ∧ bx < s18 := ⟨H11.out.2.2.2.2.1, H11.out.2.2.2.2.2.1⟩
        have cN : W.cell? ⟨s18, 0, none⟩ = some (.int .i64 pre.length) := bN.cell 0
        have fN : W.frozen? ⟨s18, 0, none⟩ = false := bN.frz 0
        have bS' : Bx W (s + 1) #[.int .i64 stop] 3 := (hB.block (s + 1) (by omega)).trans H11.out.1.t
        have bN' : Hid (Bx (W.setCell ⟨s18, 0, none⟩ (.int .i64 ((pre.length : Int) + 1))) s18 #[.int .i64 ((pre.length : Int) + 1)] 3) := Lib.hid (bN.set 0 _)
        have bSS := Lib.hid (bS'.far (by omega : s + 1 ≠ s18) 0 (.int .i64 ((pre.length : Int) + 1)))
        have hB' := Lib.hid (hB.setCell (p := ⟨s18, 0, none⟩) (Nat.le_refl _) (.int .i64 ((pre.length : Int) + 1)))
        have HLn : Hid (((pre ++ [x]).length : Int) = pre.length + 1) := Lib.hid (by simp)
        have cN' : (W.setCell ⟨s18, 0, none⟩ (.int .i64 ((pre.length : Int) + 1))).cell? ⟨s18, 0, none⟩ = some (.int .i64 ((pre.length : Int) + 1)) := bN'.out.cell 0
        have cS' : (W.setCell ⟨s18, 0, none⟩ (.int .i64 ((pre.length : Int) + 1))).cell? ⟨s + 1, 0, none⟩ = some (.int .i64 stop) := bSS.out.cell 0
        have hp63 : (pre.length : Int) + 1 ≤ 4000 := by omega
        have hKp : Hid (KpZ (fun b e => s18 ≤ b ∧ e = 3) W (W.setCell ⟨s18, 0, none⟩ (.int .i64 ((pre.length : Int) + 1)))) := Lib.hid (fun b X e t h1 hb => (Below.heap_setCell _ _ _ _ (fun q => by
          have q2 : b = s18 := q
          subst q2
          have h5 : W.heap[b]? = some (.cells #[.int .i64 pre.length] 3) := bN
          rw [h5] at hb
          injection hb with hb
          injection hb with _ h6 _
          exact h1 ⟨Nat.le_refl _, h6.symm⟩)).trans hb)
        clear bS' hB bN
        gi_wp2
        · exact ⟨(KeepsOthers.setCell _ _ _).from _, rfl, by rw [HLn.out]; exact bN'.out, hB'.out⟩
        · exact ⟨(KeepsOthers.setCell _ _ _).from _, hKp.out, by rw [HLn.out]; exact bN'.out, hB'.out⟩
      case done1 =>
        rintro DD xs W hD ⟨bN, hB⟩ hK
        obtain ⟨W6, hW6⟩ : ∃ q, q = W.alloc (.cells #[.int .i64 0] 3) := ⟨_, rfl⟩
        obtain ⟨s19, hs19⟩ : ∃ q, q = W.heap.size := ⟨_, rfl⟩
        have hDs : DD < W.heap.size := (Array.getElem?_eq_some_iff.1 hK).1
        have H12 : Hid (R0 s a n c stop W6 ∧ Below s w W6 ∧ Bx W6 bx #[.slice A2 n cc2] 22 ∧ Bx W6 s19 #[.int .i64 0] 3 ∧ s + 2 < s19 ∧ s19 + 1 = W6.heap.size ∧ s18 < s19 ∧ CodeK (fun b e => s18 ≤ b ∧ e = 3) W6 A2 n cc2 D ∧ W6.heap[DD]? = some (.deferred (some [])) ∧ DD < s19 ∧ s + 2 < DD) := Lib.hid (by
          obtain ⟨h1, h2, h3, h4, h5, h6, h7, h8⟩ := H11.out
          have hlt := bN.lt
          have k1 : ∀ b, b < s18 → W.heap[b]? = W5.heap[b]? := fun b hb => hB.block b hb
          have hz : KpZ (fun b e => s18 ≤ b ∧ e = 3) W5 W := fun b X e t h9 hb => by
            by_cases hq : b < s18
            · exact (k1 b hq).trans hb
            · have h10 := (Array.getElem?_eq_some_iff.1 hb).1
              obtain rfl : b = s18 := by omega
              have h11 : W5.heap[b]? = some (.cells #[.int .i64 0] 3) := h4
              rw [h11] at hb
              injection hb with hb
              injection hb with _ h12 _
              exact absurd ⟨Nat.le_refl _, h12.symm⟩ h9
          have r1 : R0 s a n c stop W := ⟨(k1 _ (by omega)).trans h1.b, (k1 _ (by omega)).trans h1.t, (k1 _ (by omega)).trans h1.r⟩
          have r2 : Bx W bx #[.slice A2 n cc2] 22 := (k1 _ h6).trans h3
          rw [hW6, hs19]
          exact ⟨⟨r1.b.alloc _, r1.t.alloc _, r1.r.alloc _⟩, (h2.trans (hB.mono (by omega))).alloc (by omega) _, r2.alloc _, Bx.new _ _ _, by omega, (World.size_alloc _ _).symm, hlt, (h8.kp hz).kp (KpZ.alloc _ _ _), (heap_alloc_old W _ hDs).trans hK, hDs, by omega⟩)
        have HW6 := Lib.hid hW6
        have HS19 := Lib.hid hs19
        clear bN hB hK hD hW6 hs19 H11 hDs hZ HW5 HS18
        go_wp2_with fail
        rw [← HW6.out, ← HS19.out]
        refine (wpIn_wide (n := 6)).1 ?_
        have hZ : ∀ b, W6.heap.size ≤ b → ¬ (s18 ≤ b ∧ (25 : TypeId) = 3) := fun b _ h => absurd h.2 (by decide)
        refine range4 (r := 21) (by decide) (gf := 41) (lb := #[.pointer (some ⟨bx, 0, none⟩)]) rfl (fun args w => rfl) (E := fun x => opsS n D x.val)
          (all1_stopsQ (fun b e => s18 ≤ b ∧ e = 3) bx A2 n cc2 D W6 H12.out.2.2.2.2.2.2.2.1 hZ H12.out.2.2.1) (fun h k => KpZ.t h k) (fun W l o o' _ h1 h2 _ => KpZ.put W l o o' h1 h2) (KpZ.alloc _) (Below.refl _ _)
          (fun (pre : List (Fin n)) W => ∃ k : Nat, Pfx n D (pre.map Fin.val) k ∧ Bx W s19 #[.int .i64 (k : Nat)] 3 ∧ Below s19 W6 W)
          (fun c pre W => ∃ (q : List (Fin n)) (x : Fin n) (k : Nat), pre = q ++ [x] ∧ Pfx n D (q.map Fin.val) k ∧ ¬ (x.val = k ∧ rdE n D k = 0))
          ?own (fun _ => ownFrom_pure _ _) (fun _ _ h => by obtain ⟨_, _, _, h⟩ := h; exact h.size) ⟨0, Pfx.zero n D, H12.out.2.2.2.1, Below.refl _ _⟩ (fun t x => t.setIfInBounds 20 (.int .i64 (x : Nat))) ?assign ?body2 ?done2 ?stop2
        case own =>
          rintro pre W W' row ⟨k, h1, h2, h3⟩ hg hr
          exact ⟨k, h1, (Own.from (boxed_own s19 3 (fun q : List (Fin n) => .int .i64 (k : Nat))) W6.heap.size) pre W W' row h2 hg hr, (ownFrom_below (β := List (Fin n)) (by have := H12.out.2.2.2.2.2.1; omega) (by have := H12.out.2.2.2.2.2.1; omega)) pre W W' row h3 hg hr⟩
        case assign =>
          intro l x W KK hKK
          simp only [List.setIfInBounds_toArray, List.set_cons_succ, List.set_cons_zero, opsS_told, ret4] at hKK ⊢
          gi_wp2
          exact hKK
        case stop2 =>
          rintro D2 c2 pre W hD2 ⟨rest, hk⟩ ⟨q, x, k, rfl, hp, hx⟩ hK2
          rw [List.map_append, List.append_assoc] at hk
          have hl : (q.map Fin.val).length < (begs n D n 0).length := by rw [hk, List.length_append]; simp
          obtain ⟨h1, h2, h3⟩ := Co.Pfx.head hp hl
          rw [hk, List.getElem?_append_right (Nat.le_refl _), Nat.sub_self] at h3
          have h4 : x.val = k := by simpa using h3
          exact absurd ⟨h4, h2⟩ hx
        case body2 =>
          rintro l pre ⟨kx, hkx⟩ b8 W ⟨k, hp, hb19, hB⟩ h8 h8c hlt
          simp only [List.setIfInBounds_toArray, List.set_cons_succ, List.set_cons_zero]
          obtain ⟨v0, v1, v2, v3, hv⟩ : ∃ v0 v1 v2 v3 : Int, opsS n D kx = #[.int .i64 v0, .int .i64 v1, .int .i64 v2, .int .i64 v3] := ⟨_, _, _, _, opsS_told n D kx⟩
          obtain ⟨o0, o1, o2, o3, ho⟩ := eqOp n D (k : Int)
          have h8d : W.heap[b8]? = some (.cells #[.int .i64 v0, .int .i64 v1, .int .i64 v2, .int .i64 v3] 25) := by rw [← hv]; exact h8c
          clear h8c
          obtain ⟨g1, g2, g3, g4, g5, g6, g7, g8, g9, g10, g11⟩ := H12.out
          have hbW : Below s w W := g2.trans (hB.mono (by omega))
          have hRW : R0 s a n c stop W := ⟨(hB.block s (by omega)).trans g1.b, (hB.block (s + 1) (by omega)).trans g1.t, (hB.block (s + 2) (by omega)).trans g1.r⟩
          have x0 : W.cell? ⟨s, 0, none⟩ = some (.slice a n c) := hRW.b.cell 0
          have x19 : W.cell? ⟨s19, 0, none⟩ = some (.int .i64 (k : Nat)) := hb19.cell 0
          have HRd := Lib.hid (rread_any a n c D (k : Int) W (HC.out.kept (Kept.of (HS.out ▸ hbW))))
          have HG : Hid (s + 2 < s19 ∧ s19 + 1 = W6.heap.size ∧ s18 < s19 ∧ W6.heap.size ≤ b8 ∧ R0 s a n c stop W ∧ Bx W s19 #[.int .i64 (k : Nat)] 3 ∧ Below s19 W6 W) := Lib.hid ⟨g5, g6, g7, h8, hRW, hb19, hB⟩
          clear g1 g2 g3 g4 g5 g6 g7 g8 g9 g10 g11 hbW hRW hb19 hB h8
          replace hp := Lib.hid hp
          have H8 : Hid (Bx W b8 #[.int .i64 v0, .int .i64 v1, .int .i64 v2, .int .i64 v3] 25) := Lib.hid h8d
          have HO2 := Lib.hid ho
          have HV := Lib.hid hv
          clear ho h8d hv
          gi_wp2_with (fail)
          refine ⟨trivial, (CallsIn.inRound l (callsIn_wide.2 HRd.out)).mono ?_⟩
          rintro e V1 ⟨rfl, hb1⟩
          rw [HO2.out]
          clear x0 x19
          obtain ⟨V2, hV2⟩ : ∃ q, q = V1.alloc (.cells #[.int .i64 o0, .int .i64 o1, .int .i64 o2, .int .i64 o3] 29) := ⟨_, rfl⟩
          obtain ⟨s22, hs22⟩ : ∃ q, q = V1.heap.size := ⟨_, rfl⟩
          have HV2 : Hid (Below W.heap.size W V2 ∧ Bx V2 s19 #[.int .i64 (k : Nat)] 3 ∧ Bx V2 b8 #[.int .i64 v0, .int .i64 v1, .int .i64 v2, .int .i64 v3] 25 ∧ Bx V2 s22 #[.int .i64 o0, .int .i64 o1, .int .i64 o2, .int .i64 o3] 29) := Lib.hid (by
            rw [hV2, hs22]
            exact ⟨hb1.alloc hb1.size _, (HG.out.2.2.2.2.2.1.below hb1).alloc _, (H8.out.below hb1).alloc _, Bx.new _ _ _⟩)
          have HE2 := Lib.hid hV2
          have HE3 := Lib.hid hs22
          clear hb1 hV2 hs22 HRd
          have z19 : V2.cell? ⟨s19, 0, none⟩ = some (.int .i64 (k : Nat)) := HV2.out.2.1.cell 0
          have z8 : V2.cell? ⟨b8, 0, none⟩ = some (.int .i64 v0) := HV2.out.2.2.1.cell 0
          have z81 : V2.cell? ⟨b8, 1, none⟩ = some (.int .i64 v1) := HV2.out.2.2.1.cell 1
          have z82 : V2.cell? ⟨b8, 2, none⟩ = some (.int .i64 v2) := HV2.out.2.2.1.cell 2
          have z83 : V2.cell? ⟨b8, 3, none⟩ = some (.int .i64 v3) := HV2.out.2.2.1.cell 3
          have z9 : V2.cell? ⟨s22, 0, none⟩ = some (.int .i64 o0) := HV2.out.2.2.2.cell 0
          have z91 : V2.cell? ⟨s22, 1, none⟩ = some (.int .i64 o1) := HV2.out.2.2.2.cell 1
          have z92 : V2.cell? ⟨s22, 2, none⟩ = some (.int .i64 o2) := HV2.out.2.2.2.cell 2
          have z93 : V2.cell? ⟨s22, 3, none⟩ = some (.int .i64 o3) := HV2.out.2.2.2.cell 3
          gi_wp2_with (fail)
          rw [← HE2.out, ← HE3.out]
          have k19 := cell_regrown z19
          have k8 := cell_regrown z8
          have k81 := cell_regrown z81
          have k82 := cell_regrown z82
          have k83 := cell_regrown z83
          have k9 := cell_regrown z9
          have k91 := cell_regrown z91
          have k92 := cell_regrown z92
          have k93 := cell_regrown z93
          have cO : ∀ d os, Calls Tryd.prog 11 #[.agg #[.int .i64 v0, .int .i64 v1, .int .i64 v2, .int .i64 v3]] (Go.Sort.grow (redrawn V2 d) os) fun e w'' => e = .returned (.agg #[.int .i64 v0, .int .i64 v1, .int .i64 v2, .int .i64 v3]) ∧ ∃ p : Regrown, w'' = Go.Sort.grow (redrawn V2 p.d) p.os := fun d os => Calls.regrown_of (of_c v0 v1 v2 v3 _)
          by_cases hgood : kx = k ∧ rdE n D k = 0
          · obtain ⟨rfl, hrd⟩ := hgood
            have hoe : opE n D (kx : Int) = 0 := (opC_at hkx).1.trans hrd
            have e1 : opsS n D kx = #[.int .i64 (D kx : Nat), .int .i64 (opA D kx), .int .i64 (opB D kx), .int .i64 (szK (kindO (D kx)) : Nat)] := (if_pos hrd)
            have e2 : opC n D (kx : Int) = #[.int .i64 (D kx : Nat), .int .i64 (opA D kx), .int .i64 (opB D kx), .int .i64 (szK (kindO (D kx)) : Nat)] := (opC_at hkx).2.trans (rdC_ok2 hrd)
            have e3 := HO2.out.symm.trans e2
            have e4 := HV.out.symm.trans e1
            simp only [Array.mk.injEq, List.cons.injEq, Value.int.injEq, true_and, and_true] at e3 e4
            obtain ⟨a0, a1, a2, a3⟩ := e3
            obtain ⟨b0, b1, b2, b3⟩ := e4
            obtain ⟨sz, hsz⟩ : ∃ q, q = szK (kindO (D kx)) := ⟨_, rfl⟩
            rw [← hsz] at a3 b3
            have hle : kx + sz ≤ n := by
              have h := hrd
              unfold rdE at h
              split at h
              · cases h
              · split at h
                · cases h
                · omega
            have HPf : Hid (Pfx n D ((pre ++ [(⟨kx, hkx⟩ : Fin n)]).map Fin.val) (kx + sz)) := Lib.hid (by
              have h := hp.out.step hkx hrd
              rw [← hsz] at h
              simpa using h)
            obtain rfl : v0 = o0 := b0.trans a0.symm
            obtain rfl : v1 = o1 := b1.trans a1.symm
            obtain rfl : v2 = o2 := b2.trans a2.symm
            obtain rfl : v3 = o3 := b3.trans a3.symm
            subst a3
            clear a0 a1 a2 b0 b1 b2 b3 e1 e2 hsz hrd HO HO2 HV
            rw [hoe]
            clear hoe
            refine quiet_round (by rfl) (by kernel_rfl) (by rintro ⟨_, _, h⟩; exact h) (by kernel_rfl) ?_
            repeat (quiet_step (first | exact cO _ _))
            refine wpQuiet_nil ?_
            intro V3 hV3
            obtain ⟨q3, hq3⟩ := hV3
            have hb3 : Below V2.heap.size V2 V3 := hq3 ▸ below_regrown V2 q3.d q3.os
            have HB3 : Hid (Below W.heap.size W V3 ∧ Bx V3 s19 #[.int .i64 (kx : Nat)] 3) := Lib.hid ⟨HV2.out.1.trans (hb3.mono HV2.out.1.size), HV2.out.2.1.below hb3⟩
            have y93 : V3.cell? ⟨s22, 3, none⟩ = some (.int .i64 (sz : Nat)) := (HV2.out.2.2.2.below hb3).cell 3
            clear hq3 q3 hb3 k19 k8 k81 k82 k83 k9 k91 k92 k93 z19 z8 z81 z82 z83 z9 z91 z92 z93 cO
            have y19 : V3.cell? ⟨s19, 0, none⟩ = some (.int .i64 (kx : Nat)) := HB3.out.2.cell 0
            have yf : V3.frozen? ⟨s19, 0, none⟩ = false := HB3.out.2.frz 0
            have HC2 : Hid (((kx + sz : Nat) : Int) = (kx : Int) + (sz : Int)) := Lib.hid (by omega)
            have hsum : (kx : Int) + (sz : Int) ≤ 4000 := by omega
            gi_wp2
            refine ⟨((ko_below HB3.out.1).trans (KeepsOthers.setCell _ _ _)).from _, (KpZ.below HB3.out.1).t (fun b X e t h1 hb => (Below.heap_setCell _ _ _ _ (fun q => by
              have q2 : b = s19 := q
              subst q2
              have h5 : V3.heap[b]? = some (.cells #[.int .i64 (kx : Nat)] 3) := HB3.out.2
              rw [h5] at hb
              injection hb with hb
              injection hb with _ h6 _
              have := HG.out.2.2.1
              exact h1 ⟨by omega, h6.symm⟩)).trans hb), kx + sz, HPf.out, ?_, ?_⟩
            · rw [HC2.out]
              exact HB3.out.2.set 0 _
            · have h9 := HG.out.2.2.2.2.2.2
              exact (h9.trans (HB3.out.1.mono (by have := HG.out.2.2.2.2.2.1.lt; omega))).setCell (p := ⟨s19, 0, none⟩) (Nat.le_refl _) _
          · by_cases hne : kx = k
            · have he0 : (opE n D (k : Int) != 0) = true := by
                subst hne
                have h1 : rdE n D kx ≠ 0 := fun h => hgood ⟨rfl, h⟩
                rw [(opC_at hkx).1]
                simpa using h1
              generalize opE n D (k : Int) = oe at he0 ⊢
              subst hne
              refine quiet_round (by rfl) (by kernel_rfl) (by rintro ⟨_, _, h⟩; exact h) (by kernel_rfl) ?_
              repeat (quiet_step (first | exact cO _ _))
              refine wpQuiet_nil ?_
              intro V3 hV3
              obtain ⟨q3, hq3⟩ := hV3
              have hb3 : Below V2.heap.size V2 V3 := hq3 ▸ below_regrown V2 q3.d q3.os
              have HB3 : Hid (Below W.heap.size W V3) := Lib.hid (HV2.out.1.trans (hb3.mono HV2.out.1.size))
              clear hq3 q3 hb3 k19 k8 k81 k82 k83 k9 k91 k92 k93 z19 z8 z81 z82 z83 z9 z91 z92 z93 cO
              have y2 : V3.frozen? ⟨s + 2, 0, none⟩ = false := (HG.out.2.2.2.2.1.far HB3.out).r.frz 0
              have z2 : V3.cell? ⟨s + 2, 0, none⟩ = some (.bool false) := (HG.out.2.2.2.2.1.far HB3.out).r.cell 0
              gi_wp2
              refine And.intro (((ko_below HB3.out).trans (KeepsOthers.setCell _ _ _)).from _) ?_
              exact ⟨pre, ⟨kx, hkx⟩, rfl, kx, hp.out, fun _ h => hgood ⟨trivial, h⟩⟩
            · have hnb : (((kx : Nat) : Int) != ((k : Nat) : Int)) = true := by simp; omega
              refine quiet_round (by rfl) (by kernel_rfl) (by rintro ⟨_, _, h⟩; exact h) (by kernel_rfl) ?_
              repeat (quiet_step (first | exact cO _ _))
              refine wpQuiet_nil ?_
              intro V3 hV3
              obtain ⟨q3, hq3⟩ := hV3
              have hb3 : Below V2.heap.size V2 V3 := hq3 ▸ below_regrown V2 q3.d q3.os
              have HB3 : Hid (Below W.heap.size W V3) := Lib.hid (HV2.out.1.trans (hb3.mono HV2.out.1.size))
              clear hq3 q3 hb3 k19 k8 k81 k82 k83 k9 k91 k92 k93 z19 z8 z81 z82 z83 z9 z91 z92 z93 cO
              have y2 : V3.frozen? ⟨s + 2, 0, none⟩ = false := (HG.out.2.2.2.2.1.far HB3.out).r.frz 0
              have z2 : V3.cell? ⟨s + 2, 0, none⟩ = some (.bool false) := (HG.out.2.2.2.2.1.far HB3.out).r.cell 0
              gi_wp2
              exact ⟨((ko_below HB3.out).trans (KeepsOthers.setCell _ _ _)).from _, pre, _, _, rfl, hp.out, fun h => hgood (by simpa using h)⟩
        case done2 =>
          rintro D2 xs W hD2 hxs ⟨k, hp, hb19, hB⟩ hK2
          obtain ⟨g1, g2, g3, g4, g5, g6, g7, g8, g9, g10, g11⟩ := H12.out
          have hbW : Below s w W := g2.trans (hB.mono (by omega))
          have hRW : R0 s a n c stop W := ⟨(hB.block s (by omega)).trans g1.b, (hB.block (s + 1) (by omega)).trans g1.t, (hB.block (s + 2) (by omega)).trans g1.r⟩
          have hoe : (opE n D (k : Int) != 0) = true := by
            have h1 : opE n D (k : Int) ≠ 0 := fun h0 => by
              have hk : k < n := by
                unfold opE at h0
                split at h0
                · cases h0
                · split at h0
                  · cases h0
                  · omega
              rw [(opC_at hk).1] at h0
              obtain ⟨f, h3, h4, h5⟩ := hp.p
              obtain ⟨f, rfl⟩ : ∃ q, f = q + 1 := ⟨f - 1, by omega⟩
              rw [hxs, begs, if_pos hk, if_pos h0] at h4
              have h6 := congrArg List.length h4
              rw [List.length_append, List.length_cons] at h6
              omega
            simpa using h1
          have hKD : W.heap[DD]? = some (.deferred (some [])) := (hB.block DD g10).trans g9
          have x0 : W.cell? ⟨s, 0, none⟩ = some (.slice a n c) := hRW.b.cell 0
          have x19 : W.cell? ⟨s19, 0, none⟩ = some (.int .i64 (k : Nat)) := hb19.cell 0
          have HRd := Lib.hid (rread_any a n c D (k : Int) W (HC.out.kept (Kept.of (HS.out ▸ hbW))))
          have HG : Hid (R0 s a n c stop W ∧ Below s w W ∧ W.heap[D2]? = some (.deferred (some [])) ∧ W.heap[DD]? = some (.deferred (some [])) ∧ DD < D2 ∧ s + 2 < DD) := Lib.hid ⟨hRW, hbW, hK2, hKD, by omega, g11⟩
          clear g1 g2 g3 g4 g5 g6 g7 g8 g9 g10 g11 hbW hRW hb19 hB hD2 hxs hK2 hKD hp H12
          obtain ⟨o0, o1, o2, o3, ho⟩ := eqOp n D (k : Int)
          have HO2 := Lib.hid ho
          clear ho
          go_wp2_with fail
          refine HRd.out.mono ?_
          rintro e V ⟨rfl, hb⟩
          rw [HO2.out]
          have HV : Hid (R0 s a n c stop V ∧ Below s w V ∧ V.heap[D2]? = some (.deferred (some [])) ∧ V.heap[DD]? = some (.deferred (some []))) := Lib.hid (by
            obtain ⟨h1, h2, h3, h4, h5, h6⟩ := HG.out
            exact ⟨h1.far hb, h2.trans (hb.mono (by have := h1.r.lt; omega)), (hb.block _ (Array.getElem?_eq_some_iff.1 h3).1).trans h3, (hb.block _ (Array.getElem?_eq_some_iff.1 h4).1).trans h4⟩)
          have HD : Hid (DD < D2 ∧ s + 2 < DD) := Lib.hid HG.out.2.2.2.2
          clear hb HRd HG x0 x19
          have y2 : V.frozen? ⟨s + 2, 0, none⟩ = false := HV.out.1.r.frz 0
          have z2 : V.cell? ⟨s + 2, 0, none⟩ = some (.bool false) := HV.out.1.r.cell 0
          generalize opE n D (k : Int) = oe at hoe ⊢
          go_wp2
          have hdd := HD.out
          have hR := HV.out.1.r.set 0 (.bool true)
          have hK2' := (KeepsOthers.setCell V ⟨s + 1 + 1, 0, none⟩ (.bool true)).same D2 _ HV.out.2.2.1 rfl
          have hK' := (KeepsOthers.setCell V ⟨s + 1 + 1, 0, none⟩ (.bool true)).same DD _ HV.out.2.2.2 rfl
          have hBw := HV.out.2.1.setCell (p := ⟨s + 1 + 1, 0, none⟩) (by show s ≤ s + 1 + 1; omega) (.bool true)
          refine ⟨by simp, .inl ⟨_, _, rfl, run_takeDeferred hK2', ?_⟩⟩
          have hK3 : ((V.setCell ⟨s + 1 + 1, 0, none⟩ (.bool true)).putObj D2 (.deferred none)).heap[DD]? = some (.deferred (some [])) := (World.putObj_heap_other (by omega)).trans hK'
          refine ⟨by simp, .inl ⟨_, _, rfl, run_takeDeferred hK3, ?_⟩⟩
          have e1 := Bx.grown hR (grownBy_putObj' _ D2 (.deferred none)) (fun e => by injection e with e; omega)
          have e2 := Bx.grown e1 (grownBy_putObj' _ DD (.deferred none)) (fun e => by injection e with e; omega)
          have hc5 := e2.cell 0
          have hb1 := hBw.grown (grownBy_putObj' _ D2 (.deferred none)) (by have := hBw.size; have := HS.out; omega) (fun k e => by injection e with e; omega)
          have hb2 := hb1.grown (grownBy_putObj' _ DD (.deferred none)) (by have := hb1.size; have := HS.out; omega) (fun k e => by injection e with e; omega)
          refine ⟨.bool true, ?_, rfl, HS.out ▸ hb2⟩
          have hc6 : World.cell? _ ⟨s + 1 + 1, 0, none⟩ = some (.bool true) := hc5
          simp [results, Tryd.f3, go_sem, hc6]
end Go.Proofs.YtgdlcnngplfjnaaDoor.Co
