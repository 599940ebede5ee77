import Derived.Test.YthgpolddbadfmaaXc
import Derived.OrdersIn
import Derived.Deep.RegionHeld3
import Derived.RangeFuncCalls
namespace Go.Proofs.Ythgpolddbadfmaa
open Go.ChangeShapes Go.WideShapes Go.ChangeAt Go.RowKit Go.Shelf
set_option linter.unusedVariables false
attribute [local go_sem] Oper.semAt_some
/-- No operation of these defers. -/
def noDefer (ops : Array Oper) : Bool := ops.all fun o => match o.op with | .defer _ => false | _ => true
theorem noDefer_spec {ops : Array Oper} (h : noDefer ops = true) {i : Nat} {o : Oper} (ho : ops[i]? = some o) (c : Call) : o.op ≠ .defer c := fun e => by
  have := Array.all_eq_true_iff_forall_mem.1 h o (Array.mem_of_getElem? ho)
  rw [e] at this
  exact Bool.noConfusion this
theorem wpOp_round {P : Program} {n l i : Nat} {ops : Array Oper} {Q : Exit → Act → World → Prop} (hd : noDefer ops = true) (hL : ¬ LetsOut Q)
    {K : Act → World → Prop} {a : Act} {w : World} (h : wpOp P ops Q i K a w) : wpOpIn (Fence.wide.inRound l) n P ops Q i K a w := by
  unfold wpOp at h
  unfold wpOpIn
  split
  · rename_i ho
    simpa only [ho] using h
  · rename_i o ho
    simp only [ho] at h
    split
    · rename_i hw
      simp only [hw, if_true] at h
      rcases h with h | ⟨_, h⟩
      · refine ⟨fun _ _ => trivial, ?_⟩
        rw [Oper.semAt_eq _ _ _ (noDefer_spec hd ho)]
        unfold Oper.wp at h
        generalize (execOp a.eval o).run P w = r at *
        cases r with
        | ok x w' =>
          cases x <;> simp only [Oper.upon] at h
          case value v => exact h
          case skip => exact h
          case defer d => exact h
          case enter f args => exact ⟨fun e => Bool.noConfusion e, CallsIn.inRound l (callsIn_wide.2 h)⟩
          case row row args => exact ⟨fun e => Bool.noConfusion e, fun c cs _ => let ⟨v, w2, r, s⟩ := h c cs; ⟨v, w2, r, stepsIn_wide.2 s⟩⟩
        | halt x w' =>
          cases x <;> simp only [Oper.upon] at h
          case panic v => exact h
      · exact absurd h hL
    · rename_i hw
      simp only [hw] at h
      exact ⟨fun _ _ => trivial, h⟩
theorem wpAny_round {P : Program} {n l : Nat} {md : Region.Mode} {ops : Array Oper} {Q : Exit → Act → World → Prop} (hd : noDefer ops = true) (hL : ¬ LetsOut Q) :
    ∀ (fuel : Nat) (listed : Array Bool) (a : Act) (w : World), wpAny P md ops Q fuel listed a w → wpAnyIn (Fence.wide.inRound l) n P md ops Q fuel listed a w
  | 0, _, _, _, h => h
  | fuel + 1, _, _, _, h => ⟨h.1, fun i hi => wpOpIn_mono (fun a' w' h' => wpAny_round hd hL fuel _ a' w' h') (wpOp_round hd hL (h.2 i hi))⟩
/-- The beginning: a condition is shown of the world behind the draw, and holds all through the region. -/
theorem region_round {P : Program} {n l id : Nat} {ops : Array Oper} {Q : Exit → Act → World → Prop} {S : World → Prop} {a : Act} {w : World} (hm : P.follows .mixedOrders = true) (hd : noDefer ops = true) (hL : ¬ LetsOut Q) (hS : S w.drew)
    (h : S w.drew → wpAnyH P .any ops Q S ops.size (Array.replicate ops.size false) a w.drew) : (Code.region id ops true).wpIn (Fence.wide.inRound l) n P Q a w :=
  wpIn_region_any hm (wpAny_round hd hL _ _ _ _ (wpAny_of_held _ _ _ _ (h hS)))
theorem box_past {W W' : World} {B : Nat} {t : TypeId} {v : Value} (h : Boxed W B t v) (hb : Below W.heap.size W W') : Boxed W' B t v := (hb.block B h.lt).trans h
theorem own_mark {β : Type} (D B : Nat) (h : D < B) : OwnFrom B (fun (_ : β) (W : World) => W.heap[D]? = some (.deferred (some []))) := fun _ W W' row hs hg hr =>
  (hg.block D (Array.getElem?_eq_some_iff.1 hs).1 (fun e => by have := (hr D e.symm).1; omega)).trans hs
/-- Going over a row of words as instructions, none of which is looked at. -/
theorem range_no {P : Program} {n : Nat} {g : Operand} {p q : Tmp} {body : Code} {Q : Exit → Act → World → Prop} {a : Act} {w : World} (h1 : 1 ≤ n) {gf : Nat} {lb : Array Value} (hg : a.eval g = .func (.func gf) #[] lb) (eg : ∀ args w, (callFunc gf args).run P w = .ok (.enter gf args) w)
    {E : Nat → I7r} {Kp : World → World → Prop} {S Sp : List Nat → Prop} {N : Nat} {w0 : World} (hseq : SeqStopsK Fence.wide (n - 1) P gf lb (fun k : Nat => #[.int .i64 k, (E k).v]) Kp S Sp N w0)
    (hKt : ∀ {A B C : World}, Kp A B → Kp B C → Kp A C) (hKb : ∀ (W : World) (l : Nat) (o o' : Obj), w.heap.size ≤ l → W.heap[l]? = some o → o.isCells = false → o.isWalk = false → Kp W (W.putObj l o')) (hb0 : Below w0.heap.size w0 w)
    (I : List Nat → World → Prop) (Ix : Code → List Nat → World → Prop) (hI : OwnFrom w.heap.size I) (hIx : ∀ c, OwnFrom w.heap.size (Ix c)) (h0 : I [] w)
    (hbody : ∀ (l : Nat) (pre : List Nat) (x : Nat) (W : World), I pre W → pre.length < N → body.wpIn (Fence.wide.inRound l) (n - 1 - 1) P (ownPostG w.heap.size Kp I Ix (pre ++ [x]) W) { tmps := (a.tmps.setIfInBounds p (.int .i64 x)).setIfInBounds q (E x).v, defers := [] } W)
    (hdone : ∀ (D : Nat) (xs : List Nat) (W : World), w.heap.size ≤ D → S xs → I xs W → W.heap[D]? = some (.deferred (some [])) → Q .normal { a with defers := { target := .collected D, args := #[] } :: a.defers } W)
    (hstop : ∀ (D : Nat) (c : Code) (pre : List Nat) (W : World), w.heap.size ≤ D → Sp pre → Ix c pre W → W.heap[D]? = some (.deferred (some [])) → c.wpIn Fence.wide n P Q { a with defers := { target := .collected D, args := #[] } :: a.defers } W) :
    (Code.rangeFunc g #[p, q] .skip body).wpIn Fence.wide n P Q a w :=
  wpIn_rangeFunc_ownG rfl h1 hg trivial eg hseq hKt hKb hb0 (fun _ => rfl) I Ix hI hIx h0 (fun x => { tmps := (a.tmps.setIfInBounds p (.int .i64 x)).setIfInBounds q (E x).v, defers := [] })
    (fun l x W K hK => by
      refine wpIn_skip ?_
      simp only [Exit.then]
      simpa using hK) hbody hdone hstop
/-- The same, where the body may leave it, and what follows is one. -/
theorem range_br {P : Program} {n : Nat} {g : Operand} {p q : Tmp} {body : Code} {Q : Exit → Act → World → Prop} {a : Act} {w : World} (h1 : 1 ≤ n) {gf : Nat} {lb : Array Value} (hg : a.eval g = .func (.func gf) #[] lb) (eg : ∀ args w, (callFunc gf args).run P w = .ok (.enter gf args) w)
    {E : Nat → I7r} {Kp : World → World → Prop} {S Sp : List Nat → Prop} {N : Nat} {w0 : World} (hseq : SeqStopsK Fence.wide (n - 1) P gf lb (fun k : Nat => #[.int .i64 k, (E k).v]) Kp S Sp N w0)
    (hKt : ∀ {A B C : World}, Kp A B → Kp B C → Kp A C) (hKb : ∀ (W : World) (l : Nat) (o o' : Obj), w.heap.size ≤ l → W.heap[l]? = some o → o.isCells = false → o.isWalk = false → Kp W (W.putObj l o')) (hb0 : Below w0.heap.size w0 w)
    (I : List Nat → World → Prop) (hI : OwnFrom w.heap.size I) (h0 : I [] w) (hQ : ∀ a W, Q .normal a W → Q (.exit 0) a W)
    (hbody : ∀ (l : Nat) (pre : List Nat) (x : Nat) (W : World), I pre W → pre.length < N → body.wpIn (Fence.wide.inRound l) (n - 1 - 1) P (ownPostG w.heap.size Kp I (fun c pre W => c = .exit 0 ∧ I pre W) (pre ++ [x]) W) { tmps := (a.tmps.setIfInBounds p (.int .i64 x)).setIfInBounds q (E x).v, defers := [] } W)
    (hdone : ∀ (D : Nat) (xs : List Nat) (W : World), w.heap.size ≤ D → I xs W → W.heap[D]? = some (.deferred (some [])) → Q .normal { a with defers := { target := .collected D, args := #[] } :: a.defers } W) :
    (Code.rangeFunc g #[p, q] .skip body).wpIn Fence.wide n P Q a w :=
  range_no h1 hg eg hseq hKt hKb hb0 I (fun c pre W => c = .exit 0 ∧ I pre W) hI (fun c => OwnFrom.and (ownFrom_pure _ (fun _ => c = .exit 0)) hI) h0 hbody
    (fun D xs W hD _ hi hk => hdone D xs W hD hi hk)
    (fun D c pre W hD _ hc hk => by
      obtain ⟨rfl, hi⟩ := hc
      exact wpIn_exit (hQ _ _ (hdone D pre W hD hi hk)))
theorem KpB.set (rb b : Nat) (h : rb ≠ b) (W : World) (v : Value) : KpB rb W (W.setCell ⟨b, 0, none⟩ v) := fun hr => by
  have hg := grownBy_setCell' W b v
  exact ⟨Nat.lt_of_lt_of_le hr hg.size, hg.block rb hr (fun e => h (by injection e))⟩
theorem rowOf_len (E : Nat → I7r) (n : Nat) : (rowOf E (up n)).length = n * 7 := by
  induction n with
  | zero => rfl
  | succ n ih =>
    rw [up_succ, show rowOf E (up n ++ [n]) = rowOf E (up n) ++ (E n).cs from by simp [rowOf], List.length_append, ih]
    show n * 7 + 7 = _
    omega
theorem rowOf_get (E : Nat → I7r) (n p j : Nat) (h : p < n) (hj : j < 7) : (rowOf E (up n))[p * 7 + j]? = (E p).cs[j]? := by
  induction n with
  | zero => omega
  | succ n ih =>
    rw [up_succ, show rowOf E (up n ++ [n]) = rowOf E (up n) ++ (E n).cs from by simp [rowOf]]
    have hl := rowOf_len E n
    by_cases hp : p < n
    · rw [List.getElem?_append_left (by omega)]; exact ih hp
    · obtain rfl : p = n := by omega
      rw [List.getElem?_append_right (by omega), hl, Nat.add_sub_cancel_left]
theorem keepR {w3 w4 w' : World} {g o : Nat} {v0 v1 v2 v3 v4 v5 v6 : Value} (hw : g < w3.heap.size) (h : w4.cell? ⟨g, o, none⟩ = some v0 ∧ w4.cell? ⟨g, o + 1, none⟩ = some v1 ∧ w4.cell? ⟨g, o + 2, none⟩ = some v2 ∧ w4.cell? ⟨g, o + 3, none⟩ = some v3 ∧ w4.cell? ⟨g, o + 4, none⟩ = some v4 ∧ w4.cell? ⟨g, o + 5, none⟩ = some v5 ∧ w4.cell? ⟨g, o + 6, none⟩ = some v6 ∧ Hid (Below w3.heap.size w3 w4)) (hb : Below w4.heap.size w4 w') :
    w'.cell? ⟨g, o, none⟩ = some v0 ∧ w'.cell? ⟨g, o + 1, none⟩ = some v1 ∧ w'.cell? ⟨g, o + 2, none⟩ = some v2 ∧ w'.cell? ⟨g, o + 3, none⟩ = some v3 ∧ w'.cell? ⟨g, o + 4, none⟩ = some v4 ∧ w'.cell? ⟨g, o + 5, none⟩ = some v5 ∧ w'.cell? ⟨g, o + 6, none⟩ = some v6 ∧ Hid (Below w3.heap.size w3 w') := by
  obtain ⟨x0, x1, x2, x3, x4, x5, x6, hk⟩ := h
  have hg4 : g < w4.heap.size := Nat.lt_of_lt_of_le hw hk.out.size
  have gg : ∀ i, w'.cell? ⟨g, i, none⟩ = w4.cell? ⟨g, i, none⟩ := fun i => hb.cell (p := ⟨g, i, none⟩) hg4
  exact ⟨(gg _).trans x0, (gg _).trans x1, (gg _).trans x2, (gg _).trans x3, (gg _).trans x4, (gg _).trans x5, (gg _).trans x6, Lib.hid (hk.out.trans (hb.mono hk.out.size))⟩
theorem keeps_draw (B : Nat) (W : World) (p : Addr) (v : Value) : KeepsFrom B W (W.drew.setCell p v) :=
  let h := (KeepsOthers.setCell W.drew p v).from B
  ⟨h.size, h.same⟩
/-- A round's end: a callee made blocks, and the count went up. -/
theorem body_end {W w5 w2 W1 : World} {bn D rb B : Nat} {pre : List Nat} {Ix : Code → List Nat → World → Prop} {a : Act} (hb5 : Below W.heap.size W w5) (hB : Below w2.heap.size w2 W) (bN : Boxed W bn 3 (.int .i64 pre.length)) (hK : W.heap[D]? = some (.deferred (some [])))
    (hrb : rb ≠ bn) (h2 : w2.heap.size ≤ bn) (hbD : 0 ≤ D) (hs : W1.heap.size ≤ W.heap.size) {x : Nat} (hx : x = x) :
    ownPostG B (KpB rb) (fun pre W => ((Boxed W bn 3 (.int .i64 pre.length) ∧ Below w2.heap.size w2 W) ∧ W.heap[D]? = some (.deferred (some []))) ∧ W1.heap.size ≤ W.heap.size) Ix (pre ++ [x]) W .normal a (w5.setCell ⟨bn, 0, none⟩ (.int .i64 ((pre.length : Int) + 1))) := by
  have hk := KeepsOthers.setCell w5 ⟨bn, 0, none⟩ (.int .i64 ((pre.length : Int) + 1))
  have hl : ((pre ++ [x]).length : Int) = pre.length + 1 := by simp
  have hbk : ∀ k o, W.heap[k]? = some o → w5.heap[k]? = some o := fun k o ho => (hb5.block k (Array.getElem?_eq_some_iff.1 ho).1).trans ho
  refine ⟨⟨Nat.le_trans hb5.size hk.size, fun k o _ ho hc => hk.same k o (hbk k o ho) hc⟩, fun hr => ?_, ⟨⟨?_, ?_⟩, hk.same D _ (hbk D _ hK) rfl⟩, Nat.le_trans hs (Nat.le_trans hb5.size hk.size)⟩
  · have h1 := KpB.set rb bn hrb w5 (.int .i64 ((pre.length : Int) + 1)) (Nat.lt_of_lt_of_le hr hb5.size)
    exact ⟨h1.1, h1.2.trans (hb5.block rb hr)⟩
  · show Boxed _ bn 3 (.int .i64 ((pre ++ [x]).length : Nat))
    rw [hl]
    exact (box_past bN hb5).set _
  · exact (hB.trans (hb5.mono hB.size)).setCell (p := ⟨bn, 0, none⟩) h2 _
set_option maxRecDepth 100000 in
set_option maxHeartbeats 8000000 in
theorem decrows_y (A : Option Addr) (n cap : Nat) (F : Nat → Int) (E : Nat → I7r) (B : Option Addr) (m capb : Nat) (G : Nat → Int) (E2 : Nat → I7r) (stop : Int) (w : World) (n2 : n ≤ 200) (m2 : m ≤ 800) (HSB : Hid (SrcB w B m G)) (HG : Hid (∀ j, 0 ≤ G j ∧ G j < 256)) (HD2 : Hid (∀ q, Dec (wd G) (fun k => (E2 k).v) q)) (HRY : Hid (∀ k, ∀ w, Calls Try.prog 19 #[.int .u32 (wd G k)] w fun e w' => e = .returned (I7 (E2 k).o (E2 k).d (E2 k).n (E2 k).m (E2 k).a (E2 k).c (E2 k).i) ∧ Below w.heap.size w w')) (HS : Hid (SrcW w A n F))
    (HD : Hid (Dec F (fun k => (E k).v) n)) (HR : Hid (∀ k, k < n → ∀ w, Calls Try.prog 19 #[.int .u32 (F k)] w fun e w' => e = .returned (I7 (E k).o (E k).d (E k).n (E k).m (E k).a (E k).c (E k).i) ∧ Below w.heap.size w w')) :
    Calls Try.prog 7 #[.slice A n cap, .slice B m capb, .int .i64 stop] w fun e w' => e = .returned (.bool true) ∧ Below w.heap.size w w' := by
  refine (callsIn_wide (n := 5)).1 ?_
  refine callsIn_of_wp_marks Try.func7 rfl trivial ?_ rfl
  simp only [Try.ntmps7, List.size_toArray, List.length_cons, List.length_nil, Nat.reduceAdd, Nat.reduceSub, Array.replicate_succ, Array.replicate_zero, List.push_toArray, List.append_toArray, List.nil_append, List.cons_append]
  refine wpIn_wide.2 ?_
  go_wp2_with (fail)
  refine (known17_c _).mono ?_
  rintro e w1 ⟨rfl, hb1⟩
  have hbA : Below w.heap.size w w1 := ((((Below.refl _ _).alloc (Nat.le_refl _) _).alloc (by simp) _).alloc (by simp; omega) _).trans (hb1.mono (by simp; omega))
  have bL1 : Boxed w1 w.heap.size 34 (.slice A n cap) := box_past (((Boxed.new w 34 (.slice A n cap)).alloc (.cells #[.int .i64 stop] 3)).alloc (.cells #[.bool false] 4)) hb1
  have bS1 : Boxed w1 (w.heap.size + 1) 3 (.int .i64 stop) := by
    have := box_past ((Boxed.new (w.alloc (.cells #[.slice A n cap] 34)) 3 (.int .i64 stop)).alloc (.cells #[.bool false] 4)) hb1
    rwa [World.size_alloc] at this
  have bR1 : Boxed w1 (w.heap.size + 2) 4 (.bool false) := by
    have := box_past (Boxed.new ((w.alloc (.cells #[.slice A n cap] 34)).alloc (.cells #[.int .i64 stop] 3)) 4 (.bool false)) hb1
    rwa [World.size_alloc, World.size_alloc] at this
  have cL1 := bL1.cell
  have HSW1 : Hid (SrcW w1 A n F) := Lib.hid (HS.out.past (((((Below.refl _ _).alloc (Nat.le_refl _) _).alloc (by simp) _).alloc (by simp; omega) _).trans (hb1.mono (by simp; omega))))
  have HBA := Lib.hid hbA
  have HL1 := Lib.hid bL1
  have HS1 := Lib.hid bS1
  have HR1 := Lib.hid bR1
  clear hb1 hbA bL1 bS1 bR1
  have dn : decide (200 < (n : Int)) = false := decide_eq_false (by omega)
  have dm : decide (800 < (m : Int)) = false := decide_eq_false (by omega)
  go_wp2_with (fail)
  refine (all_c A n cap F _ (by omega) HSW1).mono ?_
  rintro e w2 ⟨A2, cap2, bx, rfl, hbx, hbox, hs2, hab, hb2⟩
  have hBA2 : Below w.heap.size w w2 := HBA.out.trans (hb2.mono HBA.out.size)
  have HL2 := Lib.hid (box_past HL1.out hb2)
  have HS2 := Lib.hid (box_past HS1.out hb2)
  have HR2 := Lib.hid (box_past HR1.out hb2)
  have HX2 := Lib.hid hbox
  have HSA := Lib.hid (HSW1.out.past hb2)
  have HSX := Lib.hid hs2
  have HBA2 := Lib.hid hBA2
  have hl2 : w.heap.size + 2 < w2.heap.size := HR2.out.lt
  have hrb : rbOf A2 < w2.heap.size := by
    unfold rbOf
    cases A2 with
    | none => show 0 < w2.heap.size; omega
    | some a => exact (hab a rfl).2
  clear hb2 hbox hs2 hab hBA2 HL1 HS1 HR1 HSW1 HBA cL1 hbx
  go_wp2
  obtain ⟨bn, hbn⟩ : ∃ bn, bn = w2.heap.size := ⟨_, rfl⟩
  obtain ⟨W0, hW0⟩ : ∃ W0, w2.alloc (.cells #[.int .i64 0] 3) = W0 := ⟨_, rfl⟩
  have bN0 : Boxed W0 bn 3 (.int .i64 0) := by rw [← hW0, hbn]; exact Boxed.new w2 3 (.int .i64 0)
  have hB0 : Below w2.heap.size w2 W0 := by rw [← hW0]; exact (Below.refl _ _).alloc (Nat.le_refl _) _
  have hsz : W0.heap.size = bn + 1 := by rw [← hW0, hbn]; simp
  rw [hW0, ← hbn]
  have g1 : w2.heap.size ≤ bn := by omega
  have g2 : w.heap.size + 2 < bn := by omega
  have g3 : rbOf A2 < bn := by omega
  have HB0 := Lib.hid hB0
  have hX0 := Lib.hid (box_past HX2.out hB0)
  have hSX0 := Lib.hid (HSX.out.past hB0)
  clear hB0 hW0 hbn
  refine (wpIn_wide (n := 5)).1 ?_
  refine range_br (by decide) (gf := 59) (lb := #[.pointer (some ⟨bx, 0, none⟩)]) rfl (fun args w => rfl)
    (each_stops bx A2 n cap2 F (fun k => (E k).v) W0 (by unfold maxLen; omega) HD hX0.out hSX0) (fun h k => KpB.t h k) (kpb_put (by omega)) (Below.refl _ _)
    (fun pre W => Boxed W bn 3 (.int .i64 pre.length) ∧ Below w2.heap.size w2 W)
    (OwnFrom.and (Own.from (boxed_own bn 3 (fun s : List Nat => .int .i64 s.length)) _) (ownFrom_below (Nat.le_refl _) (by omega)))
    ⟨bN0, HB0.out⟩ (fun a W h => by simpa [Exit.inBlock, Exit.then] using h) ?body ?done
  case body =>
    rintro l pre x W ⟨bN, hB⟩ hlt
    simp only [List.setIfInBounds_toArray, List.set_cons_succ, List.set_cons_zero]
    have cN := bN.cell
    have fN := bN.frozen
    have bS' := box_past HS2.out hB
    have cS := bS'.cell
    have hB' := Lib.hid (hB.setCell (p := ⟨bn, 0, none⟩) (by omega : w2.heap.size ≤ bn) (.int .i64 ((pre.length : Int) + 1)))
    have bN' := Lib.hid (bN.set (.int .i64 ((pre.length : Int) + 1)))
    have bSS := Lib.hid (bS'.other (by omega : w.heap.size + 1 ≠ bn) (.int .i64 ((pre.length : Int) + 1)))
    have hKp := Lib.hid (KpB.set (rbOf A2) bn (by omega) W (.int .i64 ((pre.length : Int) + 1)))
    have hl : ((pre ++ [x]).length : Int) = pre.length + 1 := by simp
    have cN' := bN'.out.cell
    have cS' := bSS.out.cell
    have HLn := Lib.hid hl
    have hp63 : (pre.length : Int) + 1 ≤ 1000 := by omega
    clear hl bS' hB bN
    gi_wp2
    · exact ⟨(KeepsOthers.setCell _ _ _).from _, rfl, by rw [HLn.out]; exact bN'.out, hB'.out⟩
    · exact ⟨(KeepsOthers.setCell _ _ _).from _, hKp.out, by rw [HLn.out]; exact bN'.out, hB'.out⟩
  case done =>
    rintro D xs W hD ⟨bN, hB⟩ hK
    have cN := bN.cell
    have fN := bN.frozen
    have bN1 := Lib.hid (bN.set (.int .i64 0))
    have hB1 := Lib.hid (hB.setCell (p := ⟨bn, 0, none⟩) (by omega : w2.heap.size ≤ bn) (.int .i64 0))
    have hK1 := Lib.hid ((KeepsOthers.setCell W ⟨bn, 0, none⟩ (.int .i64 0)).same D _ hK rfl)
    have hsD : D < (W.setCell ⟨bn, 0, none⟩ (.int .i64 0)).heap.size := (Array.getElem?_eq_some_iff.1 hK1.out).1
    go_wp2
    obtain ⟨W1, hW1⟩ : ∃ W1, W.setCell ⟨bn, 0, none⟩ (.int .i64 0) = W1 := ⟨_, rfl⟩
    rw [hW1] at hsD
    rw [hW1] at bN1 hB1 hK1
    try rw [hW1]
    have hbn1 : bn < W1.heap.size := bN1.out.lt
    have hX1 := Lib.hid (box_past HX2.out hB1.out)
    have hSX1 := Lib.hid (HSX.out.past hB1.out)
    clear cN fN bN hB hK hW1
    refine (wpIn_wide (n := 5)).1 ?_
    refine range_st (r := 10) (by decide) (gf := 59) (lb := #[.pointer (some ⟨bx, 0, none⟩)]) rfl (fun args w => rfl)
      (each_stops bx A2 n cap2 F (fun k => (E k).v) W1 (by unfold maxLen; omega) HD hX1.out hSX1) (fun h k => KpB.t h k) (kpb_put (by omega)) (KpB.alloc _) (Below.refl _ _)
      (fun pre W => ((Boxed W bn 3 (.int .i64 pre.length) ∧ Below w2.heap.size w2 W) ∧ W.heap[D]? = some (.deferred (some []))) ∧ W1.heap.size ≤ W.heap.size)
      (fun c pre W => ∃ p x, pre = p ++ [x] ∧ x ≠ p.length)
      (OwnFrom.and (OwnFrom.and (OwnFrom.and (Own.from (boxed_own bn 3 (fun s : List Nat => .int .i64 s.length)) _) (ownFrom_below (Nat.le_refl _) (by omega))) (own_mark D _ hsD)) (fun _ _ _ _ hs hg _ => Nat.le_trans hs hg.size))
      (fun c => ownFrom_pure _ _) (fun _ _ h => h.2)
      ⟨⟨⟨bN1.out, hB1.out⟩, hK1.out⟩, Nat.le_refl _⟩ (fun t x => t.setIfInBounds 9 (.int .i64 x)) ?assign2 ?body2 ?done2 ?stop2
    case assign2 =>
      intro l x W K hK
      simp only [List.setIfInBounds_toArray, List.set_cons_succ, List.set_cons_zero, I7r.v, I7r.cs] at hK ⊢
      gi_wp2
      exact hK
    case stop2 =>
      rintro D2 c pre W hD2 ⟨k, hk⟩ ⟨p, x, hp, hx⟩ hK2
      rw [hk] at hp
      obtain ⟨h1, h2⟩ := List.append_inj' hp rfl
      simp only [List.cons.injEq, and_true] at h2
      exact absurd (by rw [← h2, ← h1, up_length]) hx
    case body2 =>
      rintro l pre x b8 W ⟨⟨⟨bN, hB⟩, hK⟩, hs3⟩ h8 h8c hlt
      simp only [List.setIfInBounds_toArray, List.set_cons_succ, List.set_cons_zero]
      have cN := bN.cell
      have fN := bN.frozen
      by_cases hx : x = pre.length
      · subst hx
        have hxb : (((pre.length : Nat) : Int) != ((pre.length : Nat) : Int)) = false := by simp
        have hgb : decide ((n : Int) ≤ (pre.length : Int)) = false := decide_eq_false (by omega)
        have hgb2 : decide (n ≤ pre.length) = false := decide_eq_false (by omega)
        obtain ⟨b, off, rfl, hb, hc⟩ : ∃ b off, A = some ⟨b, off, none⟩ ∧ b < W.heap.size ∧ ∀ j, j < n → W.cell? ⟨b, off + j, none⟩ = some (.int .u32 (F j)) := by
          rcases HSA.out.past hB with h | h
          · omega
          · exact h
        have c0 := hc pre.length hlt
        clear hc
        have bL := box_past HL2.out hB
        have cL := bL.cell
        have hLW := bL.lt
        have k0 : W.cell? ⟨b8, 0, none⟩ = some (.int .i64 (E pre.length).o) := by unfold World.cell?; simp only [h8c]; rfl
        have k1 : W.cell? ⟨b8, 1, none⟩ = some (.int .i64 (E pre.length).d) := by unfold World.cell?; simp only [h8c]; rfl
        have k2 : W.cell? ⟨b8, 2, none⟩ = some (.int .i64 (E pre.length).n) := by unfold World.cell?; simp only [h8c]; rfl
        have k3 : W.cell? ⟨b8, 3, none⟩ = some (.int .i64 (E pre.length).m) := by unfold World.cell?; simp only [h8c]; rfl
        have k4 : W.cell? ⟨b8, 4, none⟩ = some (.int .i64 (E pre.length).a) := by unfold World.cell?; simp only [h8c]; rfl
        have k5 : W.cell? ⟨b8, 5, none⟩ = some (.int .i64 (E pre.length).c) := by unfold World.cell?; simp only [h8c]; rfl
        have k6 : W.cell? ⟨b8, 6, none⟩ = some (.int .i64 (E pre.length).i) := by unfold World.cell?; simp only [h8c]; rfl
        have hb8 : b8 < W.heap.size := (Array.getElem?_eq_some_iff.1 h8c).1
        have HRk := Lib.hid (HR.out pre.length hlt)
        have HBN := Lib.hid bN
        have hbnW := bN.lt
        have hgi : pre.length < n := hlt
        gi_wp2
        refine region_round (S := (fun w' => w'.cell? ⟨bn, 0, none⟩ = some (.int .i64 pre.length) ∧ w'.cell? ⟨w.heap.size, 0, none⟩ = some (.slice (some ⟨b, off, none⟩) n cap) ∧ w'.cell? ⟨b, off + pre.length, none⟩ = some (.int .u32 (F pre.length)) ∧ w'.cell? ⟨b8, 0, none⟩ = some (.int .i64 (E pre.length).o) ∧ w'.cell? ⟨b8, 1, none⟩ = some (.int .i64 (E pre.length).d) ∧ w'.cell? ⟨b8, 2, none⟩ = some (.int .i64 (E pre.length).n) ∧ w'.cell? ⟨b8, 3, none⟩ = some (.int .i64 (E pre.length).m) ∧ w'.cell? ⟨b8, 4, none⟩ = some (.int .i64 (E pre.length).a) ∧ w'.cell? ⟨b8, 5, none⟩ = some (.int .i64 (E pre.length).c) ∧ w'.cell? ⟨b8, 6, none⟩ = some (.int .i64 (E pre.length).i) ∧ Hid (Below W.heap.size W w'))) (by kernel_rfl) (by kernel_rfl) (by rintro ⟨_, _, h⟩; exact h) ⟨cN, cL, c0, k0, k1, k2, k3, k4, k5, k6, Lib.hid (Below.refl W.heap.size W).drew⟩ (fun hHeld => ?_)
        refine wpAnyH_take (i := 0) (oi := { dst := some 38, op := Op.move (Operand.tmp 9), type := 3, pos := "law.go:46", after := #[], guard := none }) (v := ?v0) rfl (by kernel_rfl) (by kernel_rfl) (by kernel_rfl) (fun _ _ _ h => h) (Or.inl ⟨by rfl, ?hy0⟩) (by assumption) ?rest0
        case hy0 => (intro w hSw; (try dsimp only at hSw); go_split_ands; go_simp; with_reducible rfl)
        case' rest0 => try simp only [Act.put, List.setIfInBounds_toArray, List.set_cons_zero, List.set_cons_succ]
        refine wpAnyH_take (i := 1) (oi := { dst := some 39, op := Op.load 3 (Operand.tmp 8), type := 3, pos := "law.go:46", after := #[], guard := none }) (v := ?v1) rfl (by kernel_rfl) (by kernel_rfl) (by kernel_rfl) (fun _ _ _ h => h) (Or.inl ⟨by rfl, ?hy1⟩) (by assumption) ?rest1
        case hy1 => (intro w hSw; (try dsimp only at hSw); go_split_ands; go_simp; with_reducible rfl)
        case' rest1 => try simp only [Act.put, List.setIfInBounds_toArray, List.set_cons_zero, List.set_cons_succ]
        refine wpAnyH_take (i := 2) (oi := { dst := some 40, op := Op.binOp BinOp.neq 3 (Operand.tmp 38) (Operand.tmp 39) 3, type := 4, pos := "law.go:46", after := #[{ on := 0, ground := Ground.data }, { on := 1, ground := Ground.data }], guard := none }) (v := ?v2) rfl (by kernel_rfl) (by kernel_rfl) (by kernel_rfl) (fun _ _ _ h => h) (Or.inl ⟨by rfl, ?hy2⟩) (by assumption) ?rest2
        case hy2 => (intro w hSw; (try dsimp only at hSw); go_split_ands; go_simp; with_reducible rfl)
        case' rest2 => try simp only [Act.put, List.setIfInBounds_toArray, List.set_cons_zero, List.set_cons_succ]
        refine wpAnyH_take (i := 3) (oi := { dst := some 41, op := Op.move (Operand.tmp 40), type := 4, pos := "law.go:46", after := #[{ on := 2, ground := Ground.data }], guard := none }) (v := ?v3) rfl (by kernel_rfl) (by kernel_rfl) (by kernel_rfl) (fun _ _ _ h => h) (Or.inl ⟨by rfl, ?hy3⟩) (by assumption) ?rest3
        case hy3 => (intro w hSw; (try dsimp only at hSw); go_split_ands; go_simp; with_reducible rfl)
        case' rest3 => try simp only [Act.put, List.setIfInBounds_toArray, List.set_cons_zero, List.set_cons_succ]
        refine wpAnyH_take (i := 4) (oi := { dst := some 42, op := Op.load 3 (Operand.tmp 8), type := 3, pos := "law.go:46", after := #[{ on := 3, ground := Ground.guard }], guard := some (3, false) }) (v := ?v4) rfl (by kernel_rfl) (by kernel_rfl) (by kernel_rfl) (fun _ _ _ h => h) (Or.inl ⟨by rfl, ?hy4⟩) (by assumption) ?rest4
        case hy4 => (intro w hSw; (try dsimp only at hSw); go_split_ands; go_simp; with_reducible rfl)
        case' rest4 => try simp only [Act.put, List.setIfInBounds_toArray, List.set_cons_zero, List.set_cons_succ]
        refine wpAnyH_take (i := 5) (oi := { dst := some 43, op := Op.load 34 (Operand.tmp 3), type := 34, pos := "law.go:46", after := #[{ on := 3, ground := Ground.guard }], guard := some (3, false) }) (v := ?v5) rfl (by kernel_rfl) (by kernel_rfl) (by kernel_rfl) (fun _ _ _ h => h) (Or.inl ⟨by rfl, ?hy5⟩) (by assumption) ?rest5
        case hy5 => (intro w hSw; (try dsimp only at hSw); go_split_ands; go_simp; with_reducible rfl)
        case' rest5 => try simp only [Act.put, List.setIfInBounds_toArray, List.set_cons_zero, List.set_cons_succ]
        refine wpAnyH_take (i := 6) (oi := { dst := some 44, op := Op.call { callee := Callee.builtin Builtin.len, args := #[Operand.tmp 43], argTypes := #[34] }, type := 3, pos := "law.go:46", after := #[{ on := 5, ground := Ground.data }, { on := 3, ground := Ground.guard }], guard := some (3, false) }) (v := ?v6) rfl (by kernel_rfl) (by kernel_rfl) (by kernel_rfl) (fun _ _ _ h => h) (Or.inl ⟨by rfl, ?hy6⟩) (by assumption) ?rest6
        case hy6 => (intro w hSw; (try dsimp only at hSw); go_split_ands; go_simp; with_reducible rfl)
        case' rest6 => try simp only [Act.put, List.setIfInBounds_toArray, List.set_cons_zero, List.set_cons_succ]
        refine wpAnyH_take (i := 7) (oi := { dst := some 45, op := Op.binOp BinOp.geq 3 (Operand.tmp 42) (Operand.tmp 44) 3, type := 4, pos := "law.go:46", after := #[{ on := 4, ground := Ground.data }, { on := 6, ground := Ground.data }, { on := 3, ground := Ground.guard }], guard := some (3, false) }) (v := ?v7) rfl (by kernel_rfl) (by kernel_rfl) (by kernel_rfl) (fun _ _ _ h => h) (Or.inl ⟨by rfl, ?hy7⟩) (by assumption) ?rest7
        case hy7 => (intro w hSw; (try dsimp only at hSw); go_split_ands; go_simp; with_reducible rfl)
        case' rest7 => try simp only [Act.put, List.setIfInBounds_toArray, List.set_cons_zero, List.set_cons_succ]
        refine wpAnyH_take (i := 8) (oi := { dst := some 46, op := Op.pick (Operand.tmp 41) (Operand.const (Value.bool true)) (Operand.tmp 45), type := 4, pos := "law.go:46", after := #[{ on := 3, ground := Ground.data }, { on := 7, ground := Ground.data }], guard := none }) (v := ?v8) rfl (by kernel_rfl) (by kernel_rfl) (by kernel_rfl) (fun _ _ _ h => h) (Or.inl ⟨by rfl, ?hy8⟩) (by assumption) ?rest8
        case hy8 => (intro w hSw; (try dsimp only at hSw); go_split_ands; go_simp; with_reducible rfl)
        case' rest8 => try simp only [Act.put, List.setIfInBounds_toArray, List.set_cons_zero, List.set_cons_succ]
        refine wpAnyH_take (i := 9) (oi := { dst := some 47, op := Op.move (Operand.tmp 46), type := 4, pos := "law.go:46", after := #[{ on := 8, ground := Ground.data }, { on := 3, ground := Ground.chain }], guard := none }) (v := ?v9) rfl (by kernel_rfl) (by kernel_rfl) (by kernel_rfl) (fun _ _ _ h => h) (Or.inl ⟨by rfl, ?hy9⟩) (by assumption) ?rest9
        case hy9 => (intro w hSw; (try dsimp only at hSw); go_split_ands; go_simp; with_reducible rfl)
        case' rest9 => try simp only [Act.put, List.setIfInBounds_toArray, List.set_cons_zero, List.set_cons_succ]
        refine wpAnyH_take (i := 10) (oi := { dst := some 48, op := Op.load 23 (Operand.tmp 10), type := 23, pos := "law.go:46", after := #[{ on := 9, ground := Ground.guard }], guard := some (9, false) }) (v := ?v10) rfl (by kernel_rfl) (by kernel_rfl) (by kernel_rfl) (fun _ _ _ h => h) (Or.inl ⟨by rfl, ?hy10⟩) (by assumption) ?rest10
        case hy10 => (intro w hSw; (try dsimp only at hSw); go_split_ands; go_simp; with_reducible rfl)
        case' rest10 => try simp only [Act.put, List.setIfInBounds_toArray, List.set_cons_zero, List.set_cons_succ]
        refine wpAnyH_take (i := 11) (oi := { dst := some 49, op := Op.load 34 (Operand.tmp 3), type := 34, pos := "law.go:46", after := #[{ on := 9, ground := Ground.guard }], guard := some (9, false) }) (v := ?v11) rfl (by kernel_rfl) (by kernel_rfl) (by kernel_rfl) (fun _ _ _ h => h) (Or.inl ⟨by rfl, ?hy11⟩) (by assumption) ?rest11
        case hy11 => (intro w hSw; (try dsimp only at hSw); go_split_ands; go_simp; with_reducible rfl)
        case' rest11 => try simp only [Act.put, List.setIfInBounds_toArray, List.set_cons_zero, List.set_cons_succ]
        refine wpAnyH_take (i := 12) (oi := { dst := some 50, op := Op.load 3 (Operand.tmp 8), type := 3, pos := "law.go:46", after := #[{ on := 9, ground := Ground.guard }], guard := some (9, false) }) (v := ?v12) rfl (by kernel_rfl) (by kernel_rfl) (by kernel_rfl) (fun _ _ _ h => h) (Or.inl ⟨by rfl, ?hy12⟩) (by assumption) ?rest12
        case hy12 => (intro w hSw; (try dsimp only at hSw); go_split_ands; go_simp; with_reducible rfl)
        case' rest12 => try simp only [Act.put, List.setIfInBounds_toArray, List.set_cons_zero, List.set_cons_succ]
        refine wpAnyH_take (i := 13) (oi := { dst := some 51, op := Op.indexAddr 34 (Operand.tmp 49) (Operand.tmp 50), type := 0, pos := "law.go:46", after := #[{ on := 11, ground := Ground.data }, { on := 12, ground := Ground.data }, { on := 9, ground := Ground.guard }], guard := some (9, false) }) (v := ?v13) rfl (by kernel_rfl) (by kernel_rfl) (by kernel_rfl) (fun _ _ _ h => h) (Or.inl ⟨by rfl, ?hy13⟩) (by assumption) ?rest13
        case hy13 => (intro w hSw; (try dsimp only at hSw); go_split_ands; go_simp; with_reducible rfl)
        case' rest13 => try simp only [Act.put, List.setIfInBounds_toArray, List.set_cons_zero, List.set_cons_succ]
        refine wpAnyH_take (i := 14) (oi := { dst := some 52, op := Op.load 25 (Operand.tmp 51), type := 25, pos := "law.go:46", after := #[{ on := 13, ground := Ground.data }, { on := 9, ground := Ground.guard }], guard := some (9, false) }) (v := ?v14) rfl (by kernel_rfl) (by kernel_rfl) (by kernel_rfl) (fun _ _ _ h => h) (Or.inl ⟨by rfl, ?hy14⟩) (by assumption) ?rest14
        case hy14 => (intro w hSw; (try dsimp only at hSw); go_split_ands; go_simp; with_reducible rfl)
        case' rest14 => try simp only [Act.put, List.setIfInBounds_toArray, List.set_cons_zero, List.set_cons_succ]
        refine wpAnyH_ready (rs := [15]) (by kernel_rfl) (by simp) ?_
        refine AllReadyH.cons (o := { dst := some 53, op := Op.call { callee := Callee.value (Operand.func 19), args := #[Operand.tmp 52], argTypes := #[25] }, type := 23, pos := "law.go:46", after := #[{ on := 14, ground := Ground.data }, { on := 9, ground := Ground.chain }, { on := 9, ground := Ground.guard }], guard := some (9, false) }) rfl (fun K hK => ?_) AllReadyH.nil
        go_simp
        go_at_call 19
        refine (HRk.out _).mono ?_
        rintro e w5 ⟨rfl, hb5⟩
        have HB5 := Lib.hid ((Below.refl W.heap.size W).drew.trans hb5)
        refine hK.out _ _ ⟨(hb5.cell (p := ⟨bn, 0, none⟩) hbnW).trans cN, (hb5.cell (p := ⟨w.heap.size, 0, none⟩) hLW).trans cL, (hb5.cell (p := ⟨b, off + pre.length, none⟩) hb).trans c0, (hb5.cell (p := ⟨b8, 0, none⟩) hb8).trans k0, (hb5.cell (p := ⟨b8, 1, none⟩) hb8).trans k1, (hb5.cell (p := ⟨b8, 2, none⟩) hb8).trans k2, (hb5.cell (p := ⟨b8, 3, none⟩) hb8).trans k3, (hb5.cell (p := ⟨b8, 4, none⟩) hb8).trans k4, (hb5.cell (p := ⟨b8, 5, none⟩) hb8).trans k5, (hb5.cell (p := ⟨b8, 6, none⟩) hb8).trans k6, HB5⟩ (fun hHeld => ?_)
        clear hK K
        have n5 := (HB5.out.cell (p := ⟨bn, 0, none⟩) hbnW).trans cN
        have f5 := (box_past HBN.out HB5.out).frozen
        try simp only [Act.put, List.setIfInBounds_toArray, List.set_cons_zero, List.set_cons_succ]
        refine wpAnyH_take (i := 16) (oi := { dst := some 54, op := Op.binOp BinOp.neq 23 (Operand.tmp 48) (Operand.tmp 53) 23, type := 4, pos := "law.go:46", after := #[{ on := 10, ground := Ground.data }, { on := 15, ground := Ground.data }, { on := 9, ground := Ground.guard }], guard := some (9, false) }) (v := ?v16) rfl (by kernel_rfl) (by kernel_rfl) (by kernel_rfl) (fun _ _ _ h => h) (Or.inl ⟨by rfl, ?hy16⟩) (by assumption) ?rest16
        case hy16 => (intro w hSw; (try dsimp only at hSw); go_split_ands; go_simp; with_reducible rfl)
        case' rest16 => try simp only [Act.put, List.setIfInBounds_toArray, List.set_cons_zero, List.set_cons_succ]
        refine wpAnyH_take (i := 17) (oi := { dst := some 55, op := Op.pick (Operand.tmp 47) (Operand.const (Value.bool true)) (Operand.tmp 54), type := 4, pos := "law.go:46", after := #[{ on := 9, ground := Ground.data }, { on := 16, ground := Ground.data }], guard := none }) (v := ?v17) rfl (by kernel_rfl) (by kernel_rfl) (by kernel_rfl) (fun _ _ _ h => h) (Or.inl ⟨by rfl, ?hy17⟩) (by assumption) ?rest17
        case hy17 => (intro w hSw; (try dsimp only at hSw); go_split_ands; go_simp; with_reducible rfl)
        case' rest17 => try simp only [Act.put, List.setIfInBounds_toArray, List.set_cons_zero, List.set_cons_succ]
        refine wpAnyH_done (by kernel_rfl) ?_ _
        clear hb5
        gi_wp2
        exact body_end HB5.out hB bN hK (by omega) (by omega) (by omega) hs3 rfl
      · have hxb : ((x : Int) != (pre.length : Int)) = true := by simpa using (show ¬ (x : Int) = pre.length by omega)
        have hxb2 : (x != pre.length) = true := by simpa using hx
        have hxb3 : decide (x = pre.length) = false := decide_eq_false hx
        have bR := box_past HR2.out hB
        have cR := bR.cell
        have fR := bR.frozen
        have HX := Lib.hid hx
        clear hx
        gi_wp2
        refine region_round (S := (fun w' => w'.cell? ⟨bn, 0, none⟩ = some (.int .i64 pre.length) ∧ Hid (Below W.heap.size W w'))) (by kernel_rfl) (by kernel_rfl) (by rintro ⟨_, _, h⟩; exact h) ⟨cN, Lib.hid (Below.refl W.heap.size W).drew⟩ (fun hHeld => ?_)
        refine wpAnyH_take (i := 0) (oi := { dst := some 38, op := Op.move (Operand.tmp 9), type := 3, pos := "law.go:46", after := #[], guard := none }) (v := ?v0b) rfl (by kernel_rfl) (by kernel_rfl) (by kernel_rfl) (fun _ _ _ h => h) (Or.inl ⟨by rfl, ?hy0b⟩) (by assumption) ?rest0b
        case hy0b => (intro w hSw; (try dsimp only at hSw); go_split_ands; go_simp; with_reducible rfl)
        case' rest0b => try simp only [Act.put, List.setIfInBounds_toArray, List.set_cons_zero, List.set_cons_succ]
        refine wpAnyH_take (i := 1) (oi := { dst := some 39, op := Op.load 3 (Operand.tmp 8), type := 3, pos := "law.go:46", after := #[], guard := none }) (v := ?v1b) rfl (by kernel_rfl) (by kernel_rfl) (by kernel_rfl) (fun _ _ _ h => h) (Or.inl ⟨by rfl, ?hy1b⟩) (by assumption) ?rest1b
        case hy1b => (intro w hSw; (try dsimp only at hSw); go_split_ands; go_simp; with_reducible rfl)
        case' rest1b => try simp only [Act.put, List.setIfInBounds_toArray, List.set_cons_zero, List.set_cons_succ]
        refine wpAnyH_take (i := 2) (oi := { dst := some 40, op := Op.binOp BinOp.neq 3 (Operand.tmp 38) (Operand.tmp 39) 3, type := 4, pos := "law.go:46", after := #[{ on := 0, ground := Ground.data }, { on := 1, ground := Ground.data }], guard := none }) (v := ?v2b) rfl (by kernel_rfl) (by kernel_rfl) (by kernel_rfl) (fun _ _ _ h => h) (Or.inl ⟨by rfl, ?hy2b⟩) (by assumption) ?rest2b
        case hy2b => (intro w hSw; (try dsimp only at hSw); go_split_ands; go_simp; with_reducible rfl)
        case' rest2b => try simp only [Act.put, List.setIfInBounds_toArray, List.set_cons_zero, List.set_cons_succ]
        refine wpAnyH_take (i := 3) (oi := { dst := some 41, op := Op.move (Operand.tmp 40), type := 4, pos := "law.go:46", after := #[{ on := 2, ground := Ground.data }], guard := none }) (v := ?v3b) rfl (by kernel_rfl) (by kernel_rfl) (by kernel_rfl) (fun _ _ _ h => h) (Or.inl ⟨by rfl, ?hy3b⟩) (by assumption) ?rest3b
        case hy3b => (intro w hSw; (try dsimp only at hSw); go_split_ands; go_simp; with_reducible rfl)
        case' rest3b => try simp only [Act.put, List.setIfInBounds_toArray, List.set_cons_zero, List.set_cons_succ]
        refine wpAnyH_take (i := 4) (oi := { dst := some 42, op := Op.load 3 (Operand.tmp 8), type := 3, pos := "law.go:46", after := #[{ on := 3, ground := Ground.guard }], guard := some (3, false) }) (v := undef) rfl (by kernel_rfl) (by kernel_rfl) (by kernel_rfl) (fun _ _ _ h => h) (Or.inr ⟨by rfl, rfl⟩) (by assumption) ?_
        try simp only [Act.put, List.setIfInBounds_toArray, List.set_cons_zero, List.set_cons_succ]
        refine wpAnyH_take (i := 5) (oi := { dst := some 43, op := Op.load 34 (Operand.tmp 3), type := 34, pos := "law.go:46", after := #[{ on := 3, ground := Ground.guard }], guard := some (3, false) }) (v := undef) rfl (by kernel_rfl) (by kernel_rfl) (by kernel_rfl) (fun _ _ _ h => h) (Or.inr ⟨by rfl, rfl⟩) (by assumption) ?_
        try simp only [Act.put, List.setIfInBounds_toArray, List.set_cons_zero, List.set_cons_succ]
        refine wpAnyH_take (i := 6) (oi := { dst := some 44, op := Op.call { callee := Callee.builtin Builtin.len, args := #[Operand.tmp 43], argTypes := #[34] }, type := 3, pos := "law.go:46", after := #[{ on := 5, ground := Ground.data }, { on := 3, ground := Ground.guard }], guard := some (3, false) }) (v := undef) rfl (by kernel_rfl) (by kernel_rfl) (by kernel_rfl) (fun _ _ _ h => h) (Or.inr ⟨by rfl, rfl⟩) (by assumption) ?_
        try simp only [Act.put, List.setIfInBounds_toArray, List.set_cons_zero, List.set_cons_succ]
        refine wpAnyH_take (i := 7) (oi := { dst := some 45, op := Op.binOp BinOp.geq 3 (Operand.tmp 42) (Operand.tmp 44) 3, type := 4, pos := "law.go:46", after := #[{ on := 4, ground := Ground.data }, { on := 6, ground := Ground.data }, { on := 3, ground := Ground.guard }], guard := some (3, false) }) (v := undef) rfl (by kernel_rfl) (by kernel_rfl) (by kernel_rfl) (fun _ _ _ h => h) (Or.inr ⟨by rfl, rfl⟩) (by assumption) ?_
        try simp only [Act.put, List.setIfInBounds_toArray, List.set_cons_zero, List.set_cons_succ]
        refine wpAnyH_take (i := 8) (oi := { dst := some 46, op := Op.pick (Operand.tmp 41) (Operand.const (Value.bool true)) (Operand.tmp 45), type := 4, pos := "law.go:46", after := #[{ on := 3, ground := Ground.data }, { on := 7, ground := Ground.data }], guard := none }) (v := ?v8b) rfl (by kernel_rfl) (by kernel_rfl) (by kernel_rfl) (fun _ _ _ h => h) (Or.inl ⟨by rfl, ?hy8b⟩) (by assumption) ?rest8b
        case hy8b => (intro w hSw; (try dsimp only at hSw); go_split_ands; go_simp; with_reducible rfl)
        case' rest8b => try simp only [Act.put, List.setIfInBounds_toArray, List.set_cons_zero, List.set_cons_succ]
        refine wpAnyH_take (i := 9) (oi := { dst := some 47, op := Op.move (Operand.tmp 46), type := 4, pos := "law.go:46", after := #[{ on := 8, ground := Ground.data }, { on := 3, ground := Ground.chain }], guard := none }) (v := ?v9b) rfl (by kernel_rfl) (by kernel_rfl) (by kernel_rfl) (fun _ _ _ h => h) (Or.inl ⟨by rfl, ?hy9b⟩) (by assumption) ?rest9b
        case hy9b => (intro w hSw; (try dsimp only at hSw); go_split_ands; go_simp; with_reducible rfl)
        case' rest9b => try simp only [Act.put, List.setIfInBounds_toArray, List.set_cons_zero, List.set_cons_succ]
        refine wpAnyH_take (i := 10) (oi := { dst := some 48, op := Op.load 23 (Operand.tmp 10), type := 23, pos := "law.go:46", after := #[{ on := 9, ground := Ground.guard }], guard := some (9, false) }) (v := undef) rfl (by kernel_rfl) (by kernel_rfl) (by kernel_rfl) (fun _ _ _ h => h) (Or.inr ⟨by rfl, rfl⟩) (by assumption) ?_
        try simp only [Act.put, List.setIfInBounds_toArray, List.set_cons_zero, List.set_cons_succ]
        refine wpAnyH_take (i := 11) (oi := { dst := some 49, op := Op.load 34 (Operand.tmp 3), type := 34, pos := "law.go:46", after := #[{ on := 9, ground := Ground.guard }], guard := some (9, false) }) (v := undef) rfl (by kernel_rfl) (by kernel_rfl) (by kernel_rfl) (fun _ _ _ h => h) (Or.inr ⟨by rfl, rfl⟩) (by assumption) ?_
        try simp only [Act.put, List.setIfInBounds_toArray, List.set_cons_zero, List.set_cons_succ]
        refine wpAnyH_take (i := 12) (oi := { dst := some 50, op := Op.load 3 (Operand.tmp 8), type := 3, pos := "law.go:46", after := #[{ on := 9, ground := Ground.guard }], guard := some (9, false) }) (v := undef) rfl (by kernel_rfl) (by kernel_rfl) (by kernel_rfl) (fun _ _ _ h => h) (Or.inr ⟨by rfl, rfl⟩) (by assumption) ?_
        try simp only [Act.put, List.setIfInBounds_toArray, List.set_cons_zero, List.set_cons_succ]
        refine wpAnyH_take (i := 13) (oi := { dst := some 51, op := Op.indexAddr 34 (Operand.tmp 49) (Operand.tmp 50), type := 0, pos := "law.go:46", after := #[{ on := 11, ground := Ground.data }, { on := 12, ground := Ground.data }, { on := 9, ground := Ground.guard }], guard := some (9, false) }) (v := undef) rfl (by kernel_rfl) (by kernel_rfl) (by kernel_rfl) (fun _ _ _ h => h) (Or.inr ⟨by rfl, rfl⟩) (by assumption) ?_
        try simp only [Act.put, List.setIfInBounds_toArray, List.set_cons_zero, List.set_cons_succ]
        refine wpAnyH_take (i := 14) (oi := { dst := some 52, op := Op.load 25 (Operand.tmp 51), type := 25, pos := "law.go:46", after := #[{ on := 13, ground := Ground.data }, { on := 9, ground := Ground.guard }], guard := some (9, false) }) (v := undef) rfl (by kernel_rfl) (by kernel_rfl) (by kernel_rfl) (fun _ _ _ h => h) (Or.inr ⟨by rfl, rfl⟩) (by assumption) ?_
        try simp only [Act.put, List.setIfInBounds_toArray, List.set_cons_zero, List.set_cons_succ]
        refine wpAnyH_take (i := 15) (oi := { dst := some 53, op := Op.call { callee := Callee.value (Operand.func 19), args := #[Operand.tmp 52], argTypes := #[25] }, type := 23, pos := "law.go:46", after := #[{ on := 14, ground := Ground.data }, { on := 9, ground := Ground.chain }, { on := 9, ground := Ground.guard }], guard := some (9, false) }) (v := undef) rfl (by kernel_rfl) (by kernel_rfl) (by kernel_rfl) (fun _ _ _ h => h) (Or.inr ⟨by rfl, rfl⟩) (by assumption) ?_
        try simp only [Act.put, List.setIfInBounds_toArray, List.set_cons_zero, List.set_cons_succ]
        refine wpAnyH_take (i := 16) (oi := { dst := some 54, op := Op.binOp BinOp.neq 23 (Operand.tmp 48) (Operand.tmp 53) 23, type := 4, pos := "law.go:46", after := #[{ on := 10, ground := Ground.data }, { on := 15, ground := Ground.data }, { on := 9, ground := Ground.guard }], guard := some (9, false) }) (v := undef) rfl (by kernel_rfl) (by kernel_rfl) (by kernel_rfl) (fun _ _ _ h => h) (Or.inr ⟨by rfl, rfl⟩) (by assumption) ?_
        try simp only [Act.put, List.setIfInBounds_toArray, List.set_cons_zero, List.set_cons_succ]
        refine wpAnyH_take (i := 17) (oi := { dst := some 55, op := Op.pick (Operand.tmp 47) (Operand.const (Value.bool true)) (Operand.tmp 54), type := 4, pos := "law.go:46", after := #[{ on := 9, ground := Ground.data }, { on := 16, ground := Ground.data }], guard := none }) (v := ?v17b) rfl (by kernel_rfl) (by kernel_rfl) (by kernel_rfl) (fun _ _ _ h => h) (Or.inl ⟨by rfl, ?hy17b⟩) (by assumption) ?rest17b
        case hy17b => (intro w hSw; (try dsimp only at hSw); go_split_ands; go_simp; with_reducible rfl)
        case' rest17b => try simp only [Act.put, List.setIfInBounds_toArray, List.set_cons_zero, List.set_cons_succ]
        refine wpAnyH_done (by kernel_rfl) ?_ _
        gi_wp2
        exact ⟨keeps_draw _ _ _ _, pre, x, rfl, HX.out⟩
    case done2 =>
      rintro D2 xs W hD2 rfl ⟨⟨⟨bN, hB⟩, hK⟩, hs3⟩ hK2
      have cN := bN.cell
      have hup : ((up n).length : Int) = (n : Int) := by rw [up_length]
      rw [hup] at cN
      have bL := box_past HL2.out hB
      have cL := bL.cell
      by_cases hm4 : m % 4 = 0
      · obtain ⟨mm, rfl⟩ : ∃ mm, m = 4 * mm := ⟨m / 4, by omega⟩
        have hcast : ((4 * mm : Nat) : Int) = 4 * (mm : Int) := by omega
        try rw [hcast]
        have hmm : mm ≤ 200 := by omega
        go_wp2_with (fail)
        refine (dbytes_y B mm capb G E2 _ (by omega) (Lib.hid (HSB.out.past (HBA2.out.trans (hB.mono HBA2.out.size)))) HG (Lib.hid (HD2.out mm))).mono ?_
        rintro e w6 ⟨g, rfl, hrow, hb6⟩
        have HRow := Lib.hid (rows_of' hrow).1
        have hgl := row_lt' hrow
        clear hrow
        have hB6 := hB.trans (hb6.mono hB.size)
        have bR6 := box_past HR2.out hB6
        have cR := bR6.cell
        have fR := bR6.frozen
        have HB6 := Lib.hid hB6
        have HBR := Lib.hid bR6
        have hK6 : w6.heap[D]? = some (.deferred (some [])) := (hb6.block D (Array.getElem?_eq_some_iff.1 hK).1).trans hK
        have hK26 : w6.heap[D2]? = some (.deferred (some [])) := (hb6.block D2 (Array.getElem?_eq_some_iff.1 hK2).1).trans hK2
        have HK6 := Lib.hid hK6
        have HK26 := Lib.hid hK26
        have HSB6 := Lib.hid (HSB.out.past (HBA2.out.trans (hB6.mono HBA2.out.size)))
        clear hb6 hB6 bR6 hK hK2 hK6 hK26 cN cL bL bN hB hup
        have HSz := Lib.hid hs3
        go_wp2
        go_loopw [13, 14] (fun ix _ wl => ∃ p : Nat, p ≤ mm ∧ ix = .int .i64 p ∧ Hid (Below w6.heap.size w6 wl)) (fun ix _ _ => mm - (intOf ix).toNat)
        case atStart => exact ⟨0, Nat.zero_le _, rfl, Lib.hid (Below.refl _ _)⟩
        case round =>
          obtain ⟨p, hp, rfl, HBl⟩ := hrel
          by_cases hlp : p < mm
          · obtain ⟨b, off, rfl, hb, hc⟩ : ∃ b off, B = some ⟨b, off, none⟩ ∧ b < w6.heap.size ∧ ∀ j, j < 4 * mm → w6.cell? ⟨b, off + j, none⟩ = some (.int .u8 (G j)) := by
              rcases HSB6.out with h | h
              · omega
              · exact h
            have d0 := (HBl.out.cell (p := ⟨b, off + 4 * p, none⟩) hb).trans (hc (4 * p) (by omega))
            have d1 := (HBl.out.cell (p := ⟨b, off + (4 * p + 1), none⟩) hb).trans (hc (4 * p + 1) (by omega))
            have d2 := (HBl.out.cell (p := ⟨b, off + (4 * p + 2), none⟩) hb).trans (hc (4 * p + 2) (by omega))
            have d3 := (HBl.out.cell (p := ⟨b, off + (4 * p + 3), none⟩) hb).trans (hc (4 * p + 3) (by omega))
            have r0 := HG.out (4 * p)
            have r1 := HG.out (4 * p + 1)
            have r2 := HG.out (4 * p + 2)
            have r3 := HG.out (4 * p + 3)
            have i3 : 4 * p + 3 < 4 * mm := by omega
            clear hc
            go_wp2
            go_quiet (fail)
            go_wp2
            obtain ⟨wq, hwq⟩ : ∃ wq, wr.drewN nq = wq := ⟨_, rfl⟩
            have HBq : Hid (Below w6.heap.size w6 wq) := Lib.hid (by rw [← hwq]; exact below_drewN HBl.out _)
            rw [hwq]
            clear hwq
            have x0 := (HBq.out.cell (p := ⟨g, p * 7, none⟩) hgl).trans (HRow.out (p * 7) _ (rowOf_get E2 mm p 0 hlp (by decide)))
            have x1 := (HBq.out.cell (p := ⟨g, p * 7 + 1, none⟩) hgl).trans (HRow.out (p * 7 + 1) _ (rowOf_get E2 mm p 1 hlp (by decide)))
            have x2 := (HBq.out.cell (p := ⟨g, p * 7 + 2, none⟩) hgl).trans (HRow.out (p * 7 + 2) _ (rowOf_get E2 mm p 2 hlp (by decide)))
            have x3 := (HBq.out.cell (p := ⟨g, p * 7 + 3, none⟩) hgl).trans (HRow.out (p * 7 + 3) _ (rowOf_get E2 mm p 3 hlp (by decide)))
            have x4 := (HBq.out.cell (p := ⟨g, p * 7 + 4, none⟩) hgl).trans (HRow.out (p * 7 + 4) _ (rowOf_get E2 mm p 4 hlp (by decide)))
            have x5 := (HBq.out.cell (p := ⟨g, p * 7 + 5, none⟩) hgl).trans (HRow.out (p * 7 + 5) _ (rowOf_get E2 mm p 5 hlp (by decide)))
            have x6 := (HBq.out.cell (p := ⟨g, p * 7 + 6, none⟩) hgl).trans (HRow.out (p * 7 + 6) _ (rowOf_get E2 mm p 6 hlp (by decide)))
            have HRp := Lib.hid (HRY.out p)
            have hgq : g < wq.heap.size := Nat.lt_of_lt_of_le hgl HBq.out.size
            have HQ : Hid (Below wq.heap.size wq wq.drew) := Lib.hid (Below.refl _ _).drew
            have hp7 : p * 7 + 6 < mm * 7 := by omega
            clear d0 d1 d2 d3 r0 r1 r2 r3
            go_region_held3 (fun w' => w'.cell? ⟨g, p * 7, none⟩ = some (.int .i64 (E2 p).o) ∧ w'.cell? ⟨g, p * 7 + 1, none⟩ = some (.int .i64 (E2 p).d) ∧ w'.cell? ⟨g, p * 7 + 2, none⟩ = some (.int .i64 (E2 p).n) ∧ w'.cell? ⟨g, p * 7 + 3, none⟩ = some (.int .i64 (E2 p).m) ∧ w'.cell? ⟨g, p * 7 + 4, none⟩ = some (.int .i64 (E2 p).a) ∧ w'.cell? ⟨g, p * 7 + 5, none⟩ = some (.int .i64 (E2 p).c) ∧ w'.cell? ⟨g, p * 7 + 6, none⟩ = some (.int .i64 (E2 p).i) ∧ Hid (Below wq.heap.size wq w')) (first | exact ⟨x0, x1, x2, x3, x4, x5, x6, HQ⟩ | exact keepR hgq (by assumption) (by assumption)) (first | (go_at_call 19; refine (HRp.out _).mono ?_; rintro r w9 ⟨rfl, hb9⟩))
            rename_i hH
            obtain ⟨_, _, _, _, _, _, _, hk⟩ := hH
            have HB9 := Lib.hid (HBq.out.trans (hk.out.mono HBq.out.size))
            clear hk x0 x1 x2 x3 x4 x5 x6 HQ
            go_wp2
            go_roundw
            case rel => exact ⟨p + 1, by omega, by go_num, HB9⟩
            case measure => simp [intOf]; omega
          · obtain rfl : mm = p := by omega
            have hbRr := box_past HBR.out HBl.out
            have cR' := hbRr.cell
            have fR' := hbRr.frozen
            have hKr : wr.heap[D]? = some (.deferred (some [])) := (HBl.out.block D (Array.getElem?_eq_some_iff.1 HK6.out).1).trans HK6.out
            have hK2r : wr.heap[D2]? = some (.deferred (some [])) := (HBl.out.block D2 (Array.getElem?_eq_some_iff.1 HK26.out).1).trans HK26.out
            have HB6l := Lib.hid (HB6.out.trans (HBl.out.mono HB6.out.size))
            have HKr := Lib.hid hKr
            have HK2r := Lib.hid hK2r
            have HBRr := Lib.hid hbRr
            clear hbRr hKr hK2r
            go_wp2
            have hbR : Boxed (wr.setCell ⟨w.heap.size + 1 + 1, 0, none⟩ (.bool true)) (w.heap.size + 1 + 1) 4 (.bool true) := HBRr.out.set _
            have hK' := (KeepsOthers.setCell wr ⟨w.heap.size + 1 + 1, 0, none⟩ (.bool true)).same D _ HKr.out rfl
            have hK2' := (KeepsOthers.setCell wr ⟨w.heap.size + 1 + 1, 0, none⟩ (.bool true)).same D2 _ HK2r.out rfl
            have hBw := (HBA2.out.trans (HB6l.out.mono HBA2.out.size)).setCell (p := ⟨w.heap.size + 1 + 1, 0, none⟩) (by show w.heap.size ≤ w.heap.size + 1 + 1; omega) (.bool true)
            refine ⟨by simp, .inl ⟨_, _, rfl, run_takeDeferred hK2', ?_⟩⟩
            have hK3 : ((wr.setCell ⟨w.heap.size + 1 + 1, 0, none⟩ (.bool true)).putObj D2 (.deferred none)).heap[D]? = some (.deferred (some [])) := (World.putObj_heap_other (by omega)).trans hK'
            refine ⟨by simp, .inl ⟨_, _, rfl, run_takeDeferred hK3, ?_⟩⟩
            have e1 := hbR.kept (grownBy_putObj' _ D2 (.deferred none)) (fun e => by injection e with e; omega)
            have e2 := e1.kept (grownBy_putObj' _ D (.deferred none)) (fun e => by injection e with e; omega)
            have hc5 := e2.cell
            have hb1 := hBw.grown (grownBy_putObj' _ D2 (.deferred none)) hBw.size (fun k e => by injection e with e; omega)
            refine ⟨.bool true, ?_, rfl, hb1.grown (grownBy_putObj' _ D (.deferred none)) hb1.size (fun k e => by injection e with e; omega)⟩
            simp [results, Try.f7, go_sem, hc5]
      · skip
        have hm4' : ((m : Int) % 4 == 0) = false := by simpa using (show ¬ (m : Int) % 4 = 0 by omega)
        go_wp2_with (fail)
        refine (dbytes_n B m capb _ (by omega) hm4).mono ?_
        rintro e w6 ⟨rfl, hb6⟩
        have hB6 := hB.trans (hb6.mono hB.size)
        have bR6 := box_past HR2.out hB6
        have cR := bR6.cell
        have fR := bR6.frozen
        have HB6 := Lib.hid hB6
        have HBR := Lib.hid bR6
        have hK6 : w6.heap[D]? = some (.deferred (some [])) := (hb6.block D (Array.getElem?_eq_some_iff.1 hK).1).trans hK
        have hK26 : w6.heap[D2]? = some (.deferred (some [])) := (hb6.block D2 (Array.getElem?_eq_some_iff.1 hK2).1).trans hK2
        have HK6 := Lib.hid hK6
        have HK26 := Lib.hid hK26
        clear hb6 hB6 bR6 hK hK2 hK6 hK26 cN cL bL bN hB hup
        go_wp2
        have hbR : Boxed (w6.setCell ⟨w.heap.size + 1 + 1, 0, none⟩ (.bool true)) (w.heap.size + 1 + 1) 4 (.bool true) := HBR.out.set _
        have hK' := (KeepsOthers.setCell w6 ⟨w.heap.size + 1 + 1, 0, none⟩ (.bool true)).same D _ HK6.out rfl
        have hK2' := (KeepsOthers.setCell w6 ⟨w.heap.size + 1 + 1, 0, none⟩ (.bool true)).same D2 _ HK26.out rfl
        have hBw := (HBA2.out.trans (HB6.out.mono HBA2.out.size)).setCell (p := ⟨w.heap.size + 1 + 1, 0, none⟩) (by show w.heap.size ≤ w.heap.size + 1 + 1; omega) (.bool true)
        refine ⟨by simp, .inl ⟨_, _, rfl, run_takeDeferred hK2', ?_⟩⟩
        have hK3 : ((w6.setCell ⟨w.heap.size + 1 + 1, 0, none⟩ (.bool true)).putObj D2 (.deferred none)).heap[D]? = some (.deferred (some [])) := (World.putObj_heap_other (by omega)).trans hK'
        refine ⟨by simp, .inl ⟨_, _, rfl, run_takeDeferred hK3, ?_⟩⟩
        have e1 := hbR.kept (grownBy_putObj' _ D2 (.deferred none)) (fun e => by injection e with e; omega)
        have e2 := e1.kept (grownBy_putObj' _ D (.deferred none)) (fun e => by injection e with e; omega)
        have hc5 := e2.cell
        have hb1 := hBw.grown (grownBy_putObj' _ D2 (.deferred none)) hBw.size (fun k e => by injection e with e; omega)
        refine ⟨.bool true, ?_, rfl, hb1.grown (grownBy_putObj' _ D (.deferred none)) hb1.size (fun k e => by injection e with e; omega)⟩
        simp [results, Try.f7, go_sem, hc5]
end Go.Proofs.Ythgpolddbadfmaa
