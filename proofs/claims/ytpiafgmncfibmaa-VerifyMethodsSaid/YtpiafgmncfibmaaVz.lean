import Derived.BigGuardPart
import Derived.LoopIn
import Derived.LoopNIn
import Derived.OwnWalkIn
import Derived.OrdersIn
import Derived.RangeFuncBound
import Derived.RangeFuncBox
import Derived.RangeFuncCalls
import Derived.RangeFuncLeaves
import Derived.RangeFuncNested
import Derived.Shelf.RegionOpen
import Derived.TacticsInMore
import Derived.Laws.BitsLemmas
import Derived.IntWalk
import Derived.Laws.BitsAllLaws
import Derived.Deep.DrawnRows
import Derived.Test.YtpiafgmncfibmaaVy
import Derived.Test.YtpiafgmncfibmaaRows
import Derived.WalkKit
import Derived.ProofKit
import Derived.OpenShut
import Derived.Deep.QuietTactic
import Derived.BigQuiet
import Derived.Outline
import Derived.WalkSmall
import Derived.WalkLawsBesides
import Derived.WalkSpells
import Derived.BigGuardPart
import Derived.RegionTactic
import Derived.Deep.RegionHeld3
import Derived.Lib.Hide
import Derived.Deep.MidRow
import Derived.Below
import Derived.Deep.RegionWith
import Derived.Deep.OwnRows
import Derived.Deep.AppendLies
import Derived.Deep.RegionLaw
import Derived.Deep.CutBlock
import Derived.Deep.DeepCutAuto
namespace Go.Proofs.Ytpiafgmncfibmaa.Vf
open Go.ChangeShapes Go.WideShapes Go.ChangeAt Go.RowKit
set_option linter.unusedVariables false
open Go.Shelf
attribute [local go_sem] Oper.semAt_some
/-- No operation of these defers. -/
def noDefer (ops : Array Oper) : Bool := ops.all fun o => match o.op with | .defer _ => false | _ => true
theorem noDefer_spec {ops : Array Oper} (h : noDefer ops = true) {i : Nat} {o : Oper} (ho : ops[i]? = some o) (c : Call) : o.op ≠ .defer c := fun e => by
  have := Array.all_eq_true_iff_forall_mem.1 h o (Array.mem_of_getElem? ho)
  rw [e] at this
  exact Bool.noConfusion this
theorem wpOp_round {P : Program} {n l i : Nat} {ops : Array Oper} {Q : Exit → Act → World → Prop} (hd : noDefer ops = true) (hL : ¬ LetsOut Q)
    {K : Act → World → Prop} {a : Act} {w : World} (h : wpOp P ops Q i K a w) : wpOpIn (Fence.wide.inRound l) n P ops Q i K a w := by
  unfold wpOp at h
  unfold wpOpIn
  split
  · rename_i ho
    simpa only [ho] using h
  · rename_i o ho
    simp only [ho] at h
    split
    · rename_i hw
      simp only [hw, if_true] at h
      rcases h with h | ⟨_, h⟩
      · refine ⟨fun _ _ => trivial, ?_⟩
        rw [Oper.semAt_eq _ _ _ (noDefer_spec hd ho)]
        unfold Oper.wp at h
        generalize (execOp a.eval o).run P w = r at *
        cases r with
        | ok x w' =>
          cases x <;> simp only [Oper.upon] at h
          case value v => exact h
          case skip => exact h
          case defer d => exact h
          case enter f args => exact ⟨fun e => Bool.noConfusion e, CallsIn.inRound l (callsIn_wide.2 h)⟩
          case row row args => exact ⟨fun e => Bool.noConfusion e, fun c cs _ => let ⟨v, w2, r, s⟩ := h c cs; ⟨v, w2, r, stepsIn_wide.2 s⟩⟩
        | halt x w' =>
          cases x <;> simp only [Oper.upon] at h
          case panic v => exact h
      · exact absurd h hL
    · rename_i hw
      simp only [hw] at h
      exact ⟨fun _ _ => trivial, h⟩
theorem wpAny_round {P : Program} {n l : Nat} {md : Region.Mode} {ops : Array Oper} {Q : Exit → Act → World → Prop} (hd : noDefer ops = true) (hL : ¬ LetsOut Q) :
    ∀ (fuel : Nat) (listed : Array Bool) (a : Act) (w : World), wpAny P md ops Q fuel listed a w → wpAnyIn (Fence.wide.inRound l) n P md ops Q fuel listed a w
  | 0, _, _, _, h => h
  | fuel + 1, _, _, _, h => ⟨h.1, fun i hi => wpOpIn_mono (fun a' w' h' => wpAny_round hd hL fuel _ a' w' h') (wpOp_round hd hL (h.2 i hi))⟩
/-- The beginning: a condition is shown of the world behind the draw, and holds all through the region. -/
theorem region_round {P : Program} {n l id : Nat} {ops : Array Oper} {Q : Exit → Act → World → Prop} {S : World → Prop} {a : Act} {w : World} (hm : P.follows .mixedOrders = true) (hd : noDefer ops = true) (hL : ¬ LetsOut Q) (hS : S w.drew)
    (h : S w.drew → wpAnyH P .any ops Q S ops.size (Array.replicate ops.size false) a w.drew) : (Code.region id ops true).wpIn (Fence.wide.inRound l) n P Q a w :=
  wpIn_region_any hm (wpAny_round hd hL _ _ _ _ (wpAny_of_held _ _ _ _ (h hS)))
theorem range4 {N : Nat} {P : Program} {n : Nat} {g : Operand} {p q r : Tmp} {assign body : Code} {Q : Exit → Act → World → Prop} {a : Act} {w : World} (h1 : 1 ≤ n) {gf : Nat} {lb : Array Value} (hg : a.eval g = .func (.func gf) #[] lb) (eg : ∀ args w, (callFunc gf args).run P w = .ok (.enter gf args) w)
    {E : Fin N → Array Value} {Kp : World → World → Prop} {S Sp : List (Fin N) → Prop} {w0 : World} (hseq : SeqStopsK Fence.wide (n - 1) P gf lb (fun k : Fin N => #[.int .i64 (k.val : Nat), .agg (E k)]) Kp S Sp N w0)
    (hKt : ∀ {A B C : World}, Kp A B → Kp B C → Kp A C) (hKb : ∀ (W : World) (l : Nat) (o o' : Obj), w.heap.size ≤ l → W.heap[l]? = some o → o.isCells = false → o.isWalk = false → Kp W (W.putObj l o')) (hKa : ∀ (W : World) (o : Obj), Kp W (W.alloc o)) (hb0 : Below w0.heap.size w0 w)
    (I : List (Fin N) → World → Prop) (Ix : Code → List (Fin N) → World → Prop) (hI : OwnFrom w.heap.size I) (hIx : ∀ c, OwnFrom w.heap.size (Ix c)) (hIs : ∀ pre W, I pre W → w.heap.size ≤ W.heap.size) (h0 : I [] w) (ex : Array Value → Nat → Array Value)
    (hassign : ∀ (l : Nat) (x : Fin N) (W : World) (K : Act → World → Prop), K { tmps := (ex ((a.tmps.setIfInBounds p (.int .i64 (x.val : Nat))).setIfInBounds q (.agg (E x))) x.val).setIfInBounds r (.pointer (some ⟨W.heap.size, 0, none⟩)), defers := [] } (W.alloc (.cells (E x) 74)) →
      assign.wpIn (Fence.wide.inRound l) (n - 1 - 1) P (Exit.then K (fun _ _ _ => False)) { tmps := (a.tmps.setIfInBounds p (.int .i64 (x.val : Nat))).setIfInBounds q (.agg (E x)), defers := [] } W)
    (hbody : ∀ (l : Nat) (pre : List (Fin N)) (x : Fin N) (b8 : Nat) (W : World), I pre W → w.heap.size ≤ b8 → W.heap[b8]? = some (.cells (E x) 74 (0, 0)) → pre.length < N → body.wpIn (Fence.wide.inRound l) (n - 1 - 1) P (ownPostG w.heap.size Kp I Ix (pre ++ [x]) W) { tmps := (ex ((a.tmps.setIfInBounds p (.int .i64 (x.val : Nat))).setIfInBounds q (.agg (E x))) x.val).setIfInBounds r (.pointer (some ⟨b8, 0, none⟩)), defers := [] } W)
    (hdone : ∀ (D : Nat) (xs : List (Fin N)) (W : World), w.heap.size ≤ D → S xs → I xs W → W.heap[D]? = some (.deferred (some [])) → Q .normal { a with defers := { target := .collected D, args := #[] } :: a.defers } W)
    (hstop : ∀ (D : Nat) (c : Code) (pre : List (Fin N)) (W : World), w.heap.size ≤ D → Sp pre → Ix c pre W → W.heap[D]? = some (.deferred (some [])) → c.wpIn Fence.wide n P Q { a with defers := { target := .collected D, args := #[] } :: a.defers } W) :
    (Code.rangeFunc g #[p, q] assign body).wpIn Fence.wide n P Q a w :=
  wpIn_rangeFunc_ownH rfl h1 hg trivial eg hseq hKt hKb hb0 (fun _ => rfl) I Ix hI hIx h0
    (fun x a' W => ∃ b8, w.heap.size ≤ b8 ∧ a' = { tmps := (ex ((a.tmps.setIfInBounds p (.int .i64 (x.val : Nat))).setIfInBounds q (.agg (E x))) x.val).setIfInBounds r (.pointer (some ⟨b8, 0, none⟩)), defers := [] } ∧ W.heap[b8]? = some (.cells (E x) 74 (0, 0)))
    (fun x a' _ W W' row hs hgr hr => by
      obtain ⟨b8, h8, ha, hc⟩ := hs
      refine ⟨b8, h8, ha, (hgr.block b8 (Array.getElem?_eq_some_iff.1 hc).1 (fun e => ?_)).trans hc⟩
      obtain ⟨_, o, ho, hc'⟩ := hr b8 e.symm
      rw [hc] at ho
      cases ho
      cases hc')
    (fun l pre x W K hi hK => by
      have h := hassign l x W K (hK _ _ ⟨by rw [World.size_alloc]; omega, fun k o _ hk _ => (Below.heap_alloc _ _ _ (Array.getElem?_eq_some_iff.1 hk).1).trans hk⟩ (hKa W _) (hI.alloc _ hi) ⟨W.heap.size, hIs pre W hi, rfl, World.alloc_heap_new W _⟩)
      simpa using h)
    (fun l pre x a' W _ _ hi hax hlt => by
      obtain ⟨b8, h8, rfl, hc⟩ := hax
      exact hbody l pre x b8 W hi h8 hc hlt)
    hdone hstop
theorem wp_narrow {P : Program} {c : Code} {K : Act → World → Prop} {Q : Exit → Act → World → Prop} {a : Act} {w : World} (h : c.wp P (Exit.then K (fun _ _ _ => False)) a w) : c.wp P (Exit.then K Q) a w :=
  wp_mono h (fun e a w he => by
    cases e
    case normal => exact he
    all_goals exact False.elim he)
theorem below_set4 {W V : World} {t : Nat} (h : Below W.heap.size W V) (ht : W.heap.size ≤ t) (a b c d : Value) : Below W.heap.size W ((((V.setCell ⟨t, 0, none⟩ a).setCell ⟨t, 1, none⟩ b).setCell ⟨t, 2, none⟩ c).setCell ⟨t, 3, none⟩ d) := (((h.setCell (p := ⟨t, 0, none⟩) ht a).setCell (p := ⟨t, 1, none⟩) ht b).setCell (p := ⟨t, 2, none⟩) ht c).setCell (p := ⟨t, 3, none⟩) ht d
theorem bx_own {w w' : World} {b e B : Nat} {C : Array Value} {row : Option Nat} (h : Bx w b C e) (hg : w.grownBy w' row) (hr : ∀ r, row = some r → B ≤ r ∧ ∃ o, w.heap[r]? = some o ∧ o.isCells = false) : Bx w' b C e :=
  (hg.block b h.lt (fun q => by
    obtain ⟨_, o, ho, hc⟩ := hr b q.symm
    unfold Bx at h
    rw [h] at ho
    injection ho with ho
    subst ho
    cases hc)).trans h
/-- The end of what has been read. -/
def lastE (D : Nat → Nat) (l : List Nat) : Nat := match l.getLast? with
  | some x => nxt D x
  | none => 0
theorem lastE_snoc (D : Nat → Nat) (l : List Nat) (x : Nat) : lastE D (l ++ [x]) = nxt D x := by unfold lastE; simp
theorem begs_end (n : Nat) (D : Nat → Nat) : ∀ (f k : Nat) (pre : List Nat), lastE D pre = k → lastE D (pre ++ begs n D f k) = endP n D f k
  | 0, k, pre, h => by unfold begs endP; simpa using h
  | f + 1, k, pre, h => by
    unfold begs endP
    by_cases hk : k < n
    · rw [if_pos hk, if_pos hk]
      by_cases hr : rdE n D k = 0
      · rw [if_pos hr, if_pos hr]
        have := begs_end n D f (k + szK (kindO (D k))) (pre ++ [k]) (lastE_snoc D pre k)
        rw [List.append_assoc] at this
        exact this
      · rw [if_neg hr, if_neg hr, List.append_nil]; exact h
    · rw [if_neg hk, if_neg hk, List.append_nil]; exact h
def Fl.n0 : Fl := ⟨fun _ => ⟨[], 0⟩, fun _ => false, fun _ => false⟩
def inL (l : List Nat) (k : Nat) : Bool := decide (k ∈ l)
/-- What a deferred block's or a walk's change leaves. -/
theorem FlC.own {K : Fk} {w w' : World} {O : Nat → Bool} {X : Fx} {row : Option Nat} (h : FlC K w O Fl.n0 X 0) (hg : w.grownBy w' row) (hr : ∀ r, row = some r → K.w0.heap.size ≤ r ∧ ∃ o, w.heap[r]? = some o ∧ o.isCells = false) : FlC K w' O Fl.n0 X 0 := by
  have hb : ∀ b C e t, w.heap[b]? = some (Obj.cells C e t) → w'.heap[b]? = w.heap[b]? := fun b C e t hb => hg.block b (Array.getElem?_eq_some_iff.1 hb).1 (fun q => by
    obtain ⟨_, o, ho, hc⟩ := hr b q.symm
    rw [hb] at ho
    injection ho with ho
    subst ho
    cases hc)
  obtain ⟨Co, ho, ho2⟩ := h.o
  obtain ⟨Cs, hs, hs2⟩ := h.s
  obtain ⟨Ch, hh, hh2⟩ := h.h
  obtain ⟨Cg, hgg, hg2⟩ := h.g
  exact ⟨(hb _ _ _ _ h.f).trans h.f, ⟨Co, (hb _ _ _ _ ho).trans ho, ho2⟩, ⟨Cs, (hb _ _ _ _ hs).trans hs, hs2⟩, ⟨Ch, (hb _ _ _ _ hh).trans hh, hh2⟩, ⟨Cg, (hb _ _ _ _ hgg).trans hgg, hg2⟩, fun i hi => Ints.nil _ _, h.tc, h.tf, h.tl, h.t0, h.t1,
    h.b.grown hg h.b.size (fun r hq => (hr r hq).1), Nat.le_trans h.hi hg.size, h.lo⟩
/-- One more bytecode is known. -/
theorem FlC.setO {K : Fk} {w : World} {l : List Nat} {X : Fx} (h : FlC K w (inL l) Fl.n0 X 0) (hK : FkOk K) {k : Nat} (hk : k < K.n) :
    FlC K ((((w.setCell ⟨K.ro, k * 4, none⟩ (.int .i64 (K.D k : Nat))).setCell ⟨K.ro, k * 4 + 1, none⟩ (.int .i64 (opA K.D k))).setCell ⟨K.ro, k * 4 + 2, none⟩ (.int .i64 (opB K.D k))).setCell ⟨K.ro, k * 4 + 3, none⟩ (.int .i64 (szK (kindO (K.D k)) : Nat))) (inL (l ++ [k])) Fl.n0 X 0 := by
  obtain ⟨e1, e2, e3, e4, e5, e6, e7, e8, e9⟩ := h.nfo
  refine ⟨(((h.f.far e1 _ _).far e1 _ _).far e1 _ _).far e1 _ _, ?_, (((h.s.far (Ne.symm e5) _ _).far (Ne.symm e5) _ _).far (Ne.symm e5) _ _).far (Ne.symm e5) _ _, (((h.h.far (Ne.symm e6) _ _).far (Ne.symm e6) _ _).far (Ne.symm e6) _ _).far (Ne.symm e6) _ _, (((h.g.far (Ne.symm e7) _ _).far (Ne.symm e7) _ _).far (Ne.symm e7) _ _).far (Ne.symm e7) _ _,
    fun i hi => Ints.nil _ _, h.tc, h.tf, h.tl, h.t0, h.t1, (((h.b.setCell (p := ⟨K.ro, k * 4, none⟩) hK.o0 _).setCell (p := ⟨K.ro, k * 4 + 1, none⟩) hK.o0 _).setCell (p := ⟨K.ro, k * 4 + 2, none⟩) hK.o0 _).setCell (p := ⟨K.ro, k * 4 + 3, none⟩) hK.o0 _, by simpa [World.setCell] using h.hi, h.lo⟩
  refine RowS.ext (RowS.set (RowS.set (RowS.set (RowS.set (k := k) (j := 0) h.o hk (by omega) (.int .i64 (K.D k : Nat))) (k := k) (j := 1) hk (by omega) (.int .i64 (opA K.D k))) (k := k) (j := 2) hk (by omega) (.int .i64 (opB K.D k))) (k := k) (j := 3) hk (by omega) (.int .i64 (szK (kindO (K.D k)) : Nat))) (fun i j hi hj => ?_)
  unfold set2 opF inL
  by_cases hik : i = k
  · subst hik
    have : j = 0 ∨ j = 1 ∨ j = 2 ∨ j = 3 := by omega
    rcases this with rfl | rfl | rfl | rfl <;> simp [ret4F]
  · simp [hik]
theorem FlC.out0 {K : Fk} {w : World} {O : Nat → Bool} {X : Fx} {g : Nat} (h : FlC K w O Fl.n0 X 0) (hK : FkOk K) (hg : K.hi ≤ g) (k : Nat) (v : Value) : FlC K (w.setCell ⟨g, k, none⟩ v) O Fl.n0 X 0 := by
  have := hK.f1; have := hK.o1; have := hK.q1; have := hK.h1; have := hK.g1; have := hK.f0
  exact ⟨h.f.far (by omega) _ _, h.o.far (by omega) _ _, h.s.far (by omega) _ _, h.h.far (by omega) _ _, h.g.far (by omega) _ _, fun i hi => Ints.nil _ _, h.tc, h.tf, h.tl, h.t0, h.t1, h.b.setCell (p := ⟨g, k, none⟩) (by show K.w0.heap.size ≤ g; omega) _, by simpa [World.setCell] using h.hi, h.lo⟩
/-- What stands while bytecodes are laid down. -/
def RdI (K : Fk) (X : Fx) (te tb B : Nat) (pre : List (Fin K.n)) (W : World) : Prop := Bx W te #[.int .i64 (lastE K.D (pre.map Fin.val) : Nat)] 3 ∧ Bx W tb #[.pointer (some ⟨K.f, 0, none⟩)] 112 ∧ FlC K W (inL (pre.map Fin.val)) Fl.n0 X 0 ∧ B ≤ W.heap.size
theorem RdI.own (K : Fk) (X : Fx) (te tb B : Nat) (hB : K.w0.heap.size ≤ B) : OwnFrom B (RdI K X te tb B) := fun pre W W' row hs hg hr => ⟨bx_own hs.1 hg hr, bx_own hs.2.1 hg hr, hs.2.2.1.own hg (fun r q => ⟨Nat.le_trans hB (hr r q).1, (hr r q).2⟩), Nat.le_trans hs.2.2.2 hg.size⟩
structure RdS (K : Fk) (X : Fx) (te tb ep D : Nat) (V : World) : Prop where
  f : FlC K V (inL (begs K.n K.D K.n 0)) Fl.n0 X 0
  e : Bx V te #[.int .i64 (ep : Nat)] 3
  b : Bx V tb #[.pointer (some ⟨K.f, 0, none⟩)] 112
  d : V.heap[D]? = some (.deferred (some []))
theorem RdS.below {K : Fk} {X : Fx} {te tb ep D : Nat} {V V' : World} (h : RdS K X te tb ep D V) (hb : Below V.heap.size V V') : RdS K X te tb ep D V' := ⟨h.f.below hb, h.e.below hb, h.b.below hb, (hb.block D (Array.getElem?_eq_some_iff.1 h.d).1).trans h.d⟩
/-- What readOps leaves. -/
def rdR (n : Nat) (D : Nat → Nat) : Nat × Int := if endP n D n 0 < n then (endP n D n 0, rdE n D (endP n D n 0)) else (0, 0)
theorem RdS.fin {K : Fk} {X : Fx} {te tb ep D : Nat} {V : World} (h : RdS K X te tb ep D V) (hD : K.w0.heap.size ≤ D) (o : Obj) : FlC K (V.putObj D o) (inL (begs K.n K.D K.n 0)) Fl.n0 X 0 :=
  h.f.own (grownBy_putObj' V D o) (fun r q => by injection q with q; subst q; exact ⟨hD, _, h.d, rfl⟩)
def RdP (K : Fk) (w : World) (X : Fx) (e : Ending) (w' : World) : Prop := e = .returned (.tuple #[.int .i64 ((rdR K.n K.D).1 : Nat), .int .i64 (rdR K.n K.D).2]) ∧ FlC K w' (inL (begs K.n K.D K.n 0)) Fl.n0 X 0 ∧ Below K.w0.heap.size K.w0 w'
set_option maxRecDepth 100000 in
set_option maxHeartbeats 8000000 in
theorem readOps_c (K : Fk) (hK : FkOk K) (X : Fx) (w : World) (h : FlC K w (inL []) Fl.n0 X 0) (hc : CodeIn K.w0 (K.A.cda K.m) K.n (K.A.cdc K.m) K.D) : Calls Try.prog 93 #[.pointer (some ⟨K.f, 0, none⟩)] w (RdP K w X) := by
  have HF := Lib.hid h
  have HK := Lib.hid hK
  have n1 := hK.n1
  have n0 := hK.n0
  have HC := Lib.hid hc
  have hro : K.ro < w.heap.size := h.o.lt
  clear h hK hc
  refine (callsIn_wide (n := 6)).1 ?_
  refine callsIn_of_wp_marks Try.func93 rfl trivial ?_ rfl
  simp only [Try.ntmps93, List.size_toArray, List.length_cons, List.length_nil, Nat.reduceAdd, Nat.reduceSub, Array.replicate_succ, Array.replicate_zero, List.push_toArray, List.append_toArray, List.nil_append, List.cons_append]
  refine wpIn_wide.2 ?_
  obtain ⟨W1, hW1⟩ : ∃ q, q = (w.alloc (.cells #[.pointer (some ⟨K.f, 0, none⟩)] 112)).alloc (.cells #[.int .i64 0] 3) := ⟨_, rfl⟩
  have HW1 : Hid (Bx W1 w.heap.size #[.pointer (some ⟨K.f, 0, none⟩)] 112 ∧ Bx W1 (w.heap.size + 1) #[.int .i64 0] 3 ∧ Below w.heap.size w W1) := Lib.hid (by
    rw [hW1]
    refine ⟨(Bx.new w _ _).alloc _, ?_, ((Below.refl _ _).alloc (Nat.le_refl _) _).alloc (by simp) _⟩
    have := Bx.new (w.alloc (.cells #[.pointer (some ⟨K.f, 0, none⟩)] 112)) #[.int .i64 0] 3
    rw [World.size_alloc] at this
    exact this)
  have HE := Lib.hid hW1
  clear hW1
  have HF1 : Hid (FlC K W1 (inL []) Fl.n0 X 0) := Lib.hid (HF.out.below HW1.out.2.2)
  have f4 : W1.cell? ⟨K.f, 4, none⟩ = some (.slice (K.A.cda K.m) K.n (K.A.cdc K.m)) := HF1.out.f.cell 4
  have x0 : W1.cell? ⟨w.heap.size, 0, none⟩ = some (.pointer (some ⟨K.f, 0, none⟩)) := HW1.out.1.cell 0
  have hs1 : w.heap.size + 1 < W1.heap.size := HW1.out.2.1.lt
  have HAll := Lib.hid (all_c K.ro (w.heap.size + 1) (K.A.cda K.m) K.n (K.A.cdc K.m) K.D W1 (HC.out.kept (Kept.of HF1.out.b)) ⟨by omega, by omega⟩)
  go_upto_region 2 with fail
  rw [← HE.out]
  go_wp2_with fail
  refine HAll.out.mono ?_
  rintro e w2 ⟨A2, c2, bx, rfl, hbx, hcode, hb2⟩
  have HB2 := Lib.hid hb2
  have HX2 := Lib.hid hbx
  have HC2 := Lib.hid hcode
  have hs2 : W1.heap.size ≤ w2.heap.size := hb2.size
  clear f4 x0 hb2 hbx hcode
  go_wp2
  refine (wpIn_wide (n := 6)).1 ?_
  obtain ⟨te, hte⟩ : ∃ te, te = w.heap.size + 1 := ⟨_, rfl⟩
  obtain ⟨tb, htb⟩ : ∃ tb, tb = w.heap.size := ⟨_, rfl⟩
  have HN : Hid (tb < te ∧ te < w2.heap.size ∧ K.hi ≤ tb ∧ K.ro < tb ∧ K.f < tb ∧ K.w0.heap.size ≤ tb) := Lib.hid (by
    have h1 := HF.out.hi; have h2 := HK.out.o1; have h3 := HK.out.f1; have h4 := HF.out.b.size
    exact ⟨by omega, by omega, by omega, by omega, by omega, by omega⟩)
  have HX1 : Hid (Bx w2 tb #[.pointer (some ⟨K.f, 0, none⟩)] 112 ∧ Bx w2 te #[.int .i64 0] 3 ∧ FlC K w2 (inL []) Fl.n0 X 0) := Lib.hid (by rw [hte, htb]; exact ⟨HW1.out.1.below HB2.out, HW1.out.2.1.below HB2.out, HF1.out.below HB2.out⟩)
  rw [← hte] at HC2
  rw [← hte, ← htb]
  clear hte htb HW1 HE HAll HF1 hs1 hs2 HB2
  refine range4 (r := 6) (by decide) (gf := 126) (lb := #[.pointer (some ⟨bx, 0, none⟩)]) rfl (fun args w => rfl) (E := fun x => ops4 K.D x.val)
    (all1_stops K.ro te bx A2 K.n c2 K.D w2 HC2.out ⟨by have := HN.out; omega, HN.out.2.1⟩ HX2.out) (fun h k => KpZ.t h k) (fun W l o o' _ h1 h2 _ => KpZ.put W l o o' h1 h2) (KpZ.alloc _ _) (Below.refl _ _)
    (RdI K X te tb w2.heap.size)
    (fun _ _ _ => False)
    (RdI.own K X te tb w2.heap.size (by have := HN.out; omega))
    (fun _ _ _ _ _ hs _ _ => hs) (fun _ _ h => h.2.2.2) ⟨HX1.out.2.1, HX1.out.1, HX1.out.2.2, Nat.le_refl _⟩ (fun t x => t.setIfInBounds 5 (.int .i64 x)) ?assign ?body ?done ?stop
  case assign =>
    intro l x W KK hKK
    simp only [List.setIfInBounds_toArray, List.set_cons_succ, List.set_cons_zero, ops4, ret4] at hKK ⊢
    gi_wp2
    exact hKK
  case body =>
    rintro l pre x b8 W ⟨he, hbb, hfl, hsz⟩ h8 h8c hlt
    simp only [List.setIfInBounds_toArray, List.set_cons_succ, List.set_cons_zero]
    obtain ⟨k, hk⟩ := x
    have HE := Lib.hid he
    have HBb := Lib.hid hbb
    have HFl := Lib.hid hfl
    have H8 : Hid (Bx W b8 #[.int .i64 (K.D k : Nat), .int .i64 (opA K.D k), .int .i64 (opB K.D k), .int .i64 (szK (kindO (K.D k)) : Nat)] 74) := Lib.hid h8c
    have hki : (k : Int) < K.n := by omega
    have hbz := szK_bd (kindO (K.D k))
    clear he hbb hfl h8c
    refine wpIn_block ?_
    refine wpIn_seq ?_

    refine region_round (S := (fun w' => w'.cell? ⟨tb, 0, none⟩ = some (.pointer (some ⟨K.f, 0, none⟩)) ∧ w'.cell? ⟨K.f, 5, none⟩ = some (.slice (some ⟨K.ro, 0, none⟩) K.n K.n) ∧ w'.cell? ⟨b8, 0, none⟩ = some (.int .i64 (K.D k : Nat)) ∧ w'.cell? ⟨b8, 1, none⟩ = some (.int .i64 (opA K.D k)) ∧ w'.cell? ⟨b8, 2, none⟩ = some (.int .i64 (opB K.D k)) ∧ w'.cell? ⟨b8, 3, none⟩ = some (.int .i64 (szK (kindO (K.D k)) : Nat)))) (by kernel_rfl) (by kernel_rfl) (by rintro ⟨_, _, h⟩; exact h) ⟨HBb.out.cell 0, HFl.out.f.cell 5, H8.out.cell 0, H8.out.cell 1, H8.out.cell 2, H8.out.cell 3⟩ (fun hHeld => ?_)
    refine wpAnyH_take (i := 0) (oi := { dst := some 16, op := Go.Op.load 112 (Go.Operand.tmp 1), type := 112, pos := "verify.go:82", after := #[], guard := none }) (v := ?_) rfl (by kernel_rfl) (by kernel_rfl) (by kernel_rfl) (fun _ _ _ h => h) (Or.inl ⟨by rfl, ?_⟩) (by assumption) ?_
    rotate_left
    · (intro w0 hSw; (try dsimp only at hSw); go_split_ands; go_simp; with_reducible rfl)
    try simp only [Act.put, List.setIfInBounds_toArray, List.set_cons_zero, List.set_cons_succ]
    refine wpAnyH_take (i := 1) (oi := { dst := some 17, op := Go.Op.nilCheck (Go.Operand.tmp 16), type := 0, pos := "verify.go:82", after := #[{ on := 0, ground := Go.Ground.data }], guard := none }) (v := ?_) rfl (by kernel_rfl) (by kernel_rfl) (by kernel_rfl) (fun _ _ _ h => h) (Or.inl ⟨by rfl, ?_⟩) (by assumption) ?_
    rotate_left
    · (intro w0 hSw; (try dsimp only at hSw); go_split_ands; go_simp; with_reducible rfl)
    try simp only [Act.put, List.setIfInBounds_toArray, List.set_cons_zero, List.set_cons_succ]
    refine wpAnyH_take (i := 2) (oi := { dst := some 18, op := Go.Op.fieldAddr 120 (Go.Operand.tmp 17) 3, type := 0, pos := "verify.go:82", after := #[{ on := 1, ground := Go.Ground.data }], guard := none }) (v := ?_) rfl (by kernel_rfl) (by kernel_rfl) (by kernel_rfl) (fun _ _ _ h => h) (Or.inl ⟨by rfl, ?_⟩) (by assumption) ?_
    rotate_left
    · (intro w0 hSw; (try dsimp only at hSw); go_split_ands; go_simp; with_reducible rfl)
    try simp only [Act.put, List.setIfInBounds_toArray, List.set_cons_zero, List.set_cons_succ]
    refine wpAnyH_take (i := 3) (oi := { dst := some 19, op := Go.Op.load 118 (Go.Operand.tmp 18), type := 118, pos := "verify.go:82", after := #[{ on := 2, ground := Go.Ground.data }], guard := none }) (v := ?_) rfl (by kernel_rfl) (by kernel_rfl) (by kernel_rfl) (fun _ _ _ h => h) (Or.inl ⟨by rfl, ?_⟩) (by assumption) ?_
    rotate_left
    · (intro w0 hSw; (try dsimp only at hSw); go_split_ands; go_simp; with_reducible rfl)
    try simp only [Act.put, List.setIfInBounds_toArray, List.set_cons_zero, List.set_cons_succ]
    refine wpAnyH_take (i := 4) (oi := { dst := some 20, op := Go.Op.move (Go.Operand.tmp 5), type := 3, pos := "verify.go:82", after := #[], guard := none }) (v := ?_) rfl (by kernel_rfl) (by kernel_rfl) (by kernel_rfl) (fun _ _ _ h => h) (Or.inl ⟨by rfl, ?_⟩) (by assumption) ?_
    rotate_left
    · (intro w0 hSw; (try dsimp only at hSw); go_split_ands; go_simp; with_reducible rfl)
    try simp only [Act.put, List.setIfInBounds_toArray, List.set_cons_zero, List.set_cons_succ]
    refine wpAnyH_take (i := 5) (oi := { dst := some 21, op := Go.Op.load 74 (Go.Operand.tmp 6), type := 74, pos := "verify.go:82", after := #[], guard := none }) (v := ?_) rfl (by kernel_rfl) (by kernel_rfl) (by kernel_rfl) (fun _ _ _ h => h) (Or.inl ⟨by rfl, ?_⟩) (by assumption) ?_
    rotate_left
    · (intro w0 hSw; (try dsimp only at hSw); go_split_ands; go_simp; with_reducible rfl)
    try simp only [Act.put, List.setIfInBounds_toArray, List.set_cons_zero, List.set_cons_succ]
    refine wpAnyH_take (i := 6) (oi := { dst := some 22, op := Go.Op.indexAddr 118 (Go.Operand.tmp 19) (Go.Operand.tmp 20), type := 0, pos := "verify.go:82", after := #[{ on := 3, ground := Go.Ground.data }, { on := 4, ground := Go.Ground.data }, { on := 0, ground := Go.Ground.phase }, { on := 1, ground := Go.Ground.phase }, { on := 2, ground := Go.Ground.phase }, { on := 3, ground := Go.Ground.phase }, { on := 4, ground := Go.Ground.phase }, { on := 5, ground := Go.Ground.phase }], guard := none }) (v := ?_) rfl (by kernel_rfl) (by kernel_rfl) (by kernel_rfl) (fun _ _ _ h => h) (Or.inl ⟨by rfl, ?_⟩) (by assumption) ?_
    rotate_left
    · (intro w0 hSw; (try dsimp only at hSw); go_split_ands; go_simp; with_reducible rfl)
    try simp only [Act.put, List.setIfInBounds_toArray, List.set_cons_zero, List.set_cons_succ]
    have HFd : Hid (FlC K W.drew (inL (pre.map Fin.val)) Fl.n0 X 0) := Lib.hid (HFl.out.below (Below.refl _ _).drew)
    have z0 : W.cell? ⟨K.ro, k * 4, none⟩ = some (opF (inL (pre.map Fin.val)) K.D k 0) := HFd.out.o.cell (j := 0) hk (by omega)
    have y0 : W.frozen? ⟨K.ro, k * 4, none⟩ = false := HFd.out.o.frz _
    have z1 : W.cell? ⟨K.ro, k * 4 + 1, none⟩ = some (opF (inL (pre.map Fin.val)) K.D k 1) := HFd.out.o.cell (j := 1) hk (by omega)
    have y1 : W.frozen? ⟨K.ro, k * 4 + 1, none⟩ = false := HFd.out.o.frz _
    have z2 : W.cell? ⟨K.ro, k * 4 + 2, none⟩ = some (opF (inL (pre.map Fin.val)) K.D k 2) := HFd.out.o.cell (j := 2) hk (by omega)
    have y2 : W.frozen? ⟨K.ro, k * 4 + 2, none⟩ = false := HFd.out.o.frz _
    have z3 : W.cell? ⟨K.ro, k * 4 + 3, none⟩ = some (opF (inL (pre.map Fin.val)) K.D k 3) := HFd.out.o.cell (j := 3) hk (by omega)
    have y3 : W.frozen? ⟨K.ro, k * 4 + 3, none⟩ = false := HFd.out.o.frz _
    obtain ⟨W4, hW4⟩ : ∃ q, q = ((((W.setCell ⟨K.ro, k * 4, none⟩ (.int .i64 (K.D k : Nat))).setCell ⟨K.ro, k * 4 + 1, none⟩ (.int .i64 (opA K.D k))).setCell ⟨K.ro, k * 4 + 2, none⟩ (.int .i64 (opB K.D k))).setCell ⟨K.ro, k * 4 + 3, none⟩ (.int .i64 (szK (kindO (K.D k)) : Nat))).drew := ⟨_, rfl⟩
    have HW4 : Hid (FlC K W4 (inL (pre.map Fin.val ++ [k])) Fl.n0 X 0 ∧ Bx W4 te #[.int .i64 (lastE K.D (pre.map Fin.val) : Nat)] 3 ∧ Bx W4 tb #[.pointer (some ⟨K.f, 0, none⟩)] 112 ∧ Bx W4 b8 #[.int .i64 (K.D k : Nat), .int .i64 (opA K.D k), .int .i64 (opB K.D k), .int .i64 (szK (kindO (K.D k)) : Nat)] 74 ∧ W.heap.size ≤ W4.heap.size ∧ KpZ K.ro te W W4 ∧ W.grownBy W4 (some K.ro)) := Lib.hid (by
      rw [hW4]
      have hn := HN.out
      have hq8 : b8 ≠ K.ro := by omega
      refine ⟨(HFl.out.setO HK.out hk).below (Below.refl _ _).drew, (((HE.out.far (by omega) _ _).far (by omega) _ _).far (by omega) _ _).far (by omega) _ _, (((HBb.out.far (by omega) _ _).far (by omega) _ _).far (by omega) _ _).far (by omega) _ _, (((H8.out.far hq8 _ _).far hq8 _ _).far hq8 _ _).far hq8 _ _, by simp [World.setCell, World.drew], ?_, ?_⟩
      · exact (((KpZ.set1 _ _ _).t (KpZ.set1 _ _ _)).t ((KpZ.set1 _ _ _).t (KpZ.set1 _ _ _))).t (KpZ.below (Below.refl _ _).drew)
      · exact ⟨rfl, rfl, rfl, by simp [World.setCell, World.drew], fun q hq hne => (Below.heap_setCell _ _ _ _ (fun e => hne (by rw [e]))).trans ((Below.heap_setCell _ _ _ _ (fun e => hne (by rw [e]))).trans ((Below.heap_setCell _ _ _ _ (fun e => hne (by rw [e]))).trans (Below.heap_setCell _ _ _ _ (fun e => hne (by rw [e])))))⟩)
    have HW4e := Lib.hid hW4
    clear hW4
    refine wpAnyH_ready (rs := [7]) (by kernel_rfl) (by simp) ?_
    refine AllReadyH.cons (o := { dst := none, op := Go.Op.store 74 (Go.Operand.tmp 22) (Go.Operand.tmp 21), type := 0, pos := "verify.go:82", after := #[{ on := 6, ground := Go.Ground.data }, { on := 5, ground := Go.Ground.data }, { on := 0, ground := Go.Ground.phase }, { on := 1, ground := Go.Ground.phase }, { on := 2, ground := Go.Ground.phase }, { on := 3, ground := Go.Ground.phase }, { on := 4, ground := Go.Ground.phase }, { on := 5, ground := Go.Ground.phase }], guard := none }) rfl (fun KK hKK => ?_) AllReadyH.nil
    clear hHeld
    go_simp
    rw [← HW4e.out]
    refine hKK.out _ _ ⟨HW4.out.2.2.1.cell 0, HW4.out.1.f.cell 5, HW4.out.2.2.2.1.cell 0, HW4.out.2.2.2.1.cell 1, HW4.out.2.2.2.1.cell 2, HW4.out.2.2.2.1.cell 3⟩ (fun hHeld => ?_)
    clear hKK KK hHeld z0 z1 z2 z3 y0 y1 y2 y3
    try simp only [Act.put, List.setIfInBounds_toArray, List.set_cons_zero, List.set_cons_succ]
    refine wpAnyH_done (by kernel_rfl) ?_ _
    have x3 : W4.cell? ⟨b8, 3, none⟩ = some (.int .i64 (szK (kindO (K.D k)) : Nat)) := HW4.out.2.2.2.1.cell 3
    have xe : W4.cell? ⟨te, 0, none⟩ = some (.int .i64 (lastE K.D (pre.map Fin.val) : Nat)) := HW4.out.2.1.cell 0
    have ye : W4.frozen? ⟨te, 0, none⟩ = false := HW4.out.2.1.frz 0
    have hsum : (k : Int) + (szK (kindO (K.D k)) : Nat) = ((nxt K.D k : Nat) : Int) := by unfold nxt; omega
    have hsum2 : IntKind.i64.wrap ((k : Int) + (szK (kindO (K.D k)) : Nat)) = ((nxt K.D k : Nat) : Int) := by rw [hsum, IntKind.wrap_i64]; unfold nxt; omega
    clear HFd HFl H8
    gi_wp2
    have hn := HN.out
    have hm : (pre ++ [(⟨k, hk⟩ : Fin K.n)]).map Fin.val = pre.map Fin.val ++ [k] := by simp
    refine ⟨⟨by simpa [World.setCell] using HW4.out.2.2.2.2.1, fun q o hq ho hoc => ?_⟩, HW4.out.2.2.2.2.2.1.t (KpZ.set2 _ _ _), ?_, ?_, ?_, ?_⟩
    · exact (Below.heap_setCell _ _ _ _ (by show q ≠ te; omega)).trans ((HW4.out.2.2.2.2.2.2.block q (Array.getElem?_eq_some_iff.1 ho).1 (fun e => by injection e with e; omega)).trans ho)
    · rw [hm, lastE_snoc]; exact HW4.out.2.1.set 0 _
    · exact HW4.out.2.2.1.far (by omega) _ _
    · rw [hm]; exact HW4.out.1.out0 HK.out (by omega) _ _
    · have h9 := HW4.out.2.2.2.2.1; simp only [World.setCell] at *; simpa using Nat.le_trans hsz h9
  case stop =>
    rintro D c pre W _ _ h _
    exact h.elim
  case done =>
    rintro D xs W hD hxs ⟨he, hbb, hfl, hsz⟩ hK
    have hend : lastE K.D (xs.map Fin.val) = endP K.n K.D K.n 0 := by
      rw [hxs]
      have := begs_end K.n K.D K.n 0 [] rfl
      simpa using this
    have HFl : Hid (FlC K W (inL (begs K.n K.D K.n 0)) Fl.n0 X 0) := Lib.hid (hxs ▸ hfl)
    rw [hend] at he
    have HE := Lib.hid he
    have HBb := Lib.hid hbb
    have HKd := Lib.hid hK
    obtain ⟨ep, hep⟩ : ∃ ep, endP K.n K.D K.n 0 = ep := ⟨_, rfl⟩
    rw [hep] at HE
    have HEp := Lib.hid hep
    clear he hbb hfl hend hep hxs hK
    have xe : W.cell? ⟨te, 0, none⟩ = some (.int .i64 ep) := HE.out.cell 0
    have xb : W.cell? ⟨tb, 0, none⟩ = some (.pointer (some ⟨K.f, 0, none⟩)) := HBb.out.cell 0
    have f4 : W.cell? ⟨K.f, 4, none⟩ = some (.slice (K.A.cda K.m) K.n (K.A.cdc K.m)) := HFl.out.f.cell 4
    by_cases hlt : ep < K.n
    · have d1 : decide ((ep : Int) < (K.n : Int)) = true := decide_eq_true (by omega)
      have d2 : decide (ep < K.n) = true := decide_eq_true hlt
      go_wp2_with fail
      go_quiet (fail)
      obtain ⟨V1, hV1⟩ : ∃ q, q = W.drewN nq := ⟨_, rfl⟩
      have HS1 : Hid (RdS K X te tb ep D V1) := Lib.hid (hV1 ▸ (⟨HFl.out, HE.out, HBb.out, HKd.out⟩ : RdS K X te tb ep D W).below (below_drewN (Below.refl _ _) _))
      rw [← hV1]
      have HDl : Hid (K.w0.heap.size ≤ D) := Lib.hid (by have := HN.out; omega)
      clear hV1 xe xb f4
      go_upto_region 8 with fail
      go_cut [8] from 34 to 43 (fun s8 wx => s8 = .int .i64 (rdE K.n K.D ep) ∧ RdS K X te tb ep D wx)
      case first =>
        have HHO : Hid (∀ V, RdS K X te tb ep D V → V.cell? ⟨tb, 0, none⟩ = some (.pointer (some ⟨K.f, 0, none⟩)) ∧ V.cell? ⟨K.f, 4, none⟩ = some (.slice (K.A.cda K.m) K.n (K.A.cdc K.m)) ∧ V.cell? ⟨te, 0, none⟩ = some (.int .i64 ep)) := Lib.hid fun V h => ⟨h.b.cell 0, h.f.f.cell 4, h.e.cell 0⟩
        have HCr : Hid (∀ V, RdS K X te tb ep D V → Calls Try.prog 31 #[.slice (K.A.cda K.m) K.n (K.A.cdc K.m), .int .i64 ep] V fun e w' => e = .returned (.tuple #[.agg (rdC K.n K.D ep), .int .i64 (rdE K.n K.D ep)]) ∧ Below V.heap.size V w') := Lib.hid fun V h => cread_c _ K.n _ K.D ep V (HC.out.kept (Kept.of h.f.b)) hlt
        have HBd : Hid (RdS K X te tb ep D V1.drew) := Lib.hid (HS1.out.below (Below.refl _ _).drew)
        have hrc : ∃ q0 q1 q2 q3 : Int, rdC K.n K.D ep = #[.int .i64 q0, .int .i64 q1, .int .i64 q2, .int .i64 q3] := by
          unfold rdC
          split
          · exact ⟨_, _, _, _, rfl⟩
          · exact ⟨_, _, _, _, rfl⟩
        obtain ⟨q0, q1, q2, q3, hrc⟩ := hrc
        rw [hrc] at HCr
        clear HS1 hrc
        refine wp_narrow ?_
        refine region_e 11 (fun w' => w'.cell? ⟨tb, 0, none⟩ = some (.pointer (some ⟨K.f, 0, none⟩)) ∧ w'.cell? ⟨K.f, 4, none⟩ = some (.slice (K.A.cda K.m) K.n (K.A.cdc K.m)) ∧ w'.cell? ⟨te, 0, none⟩ = some (.int .i64 ep)) (by kernel_rfl) (HHO.out _ HBd.out) (fun hHeld => ?_)
        generalize V1.drew = u0 at hHeld HBd ⊢
        refine AnyE.take2 (i := 0) [] (oi := { dst := some 35, op := Go.Op.load 112 (Go.Operand.tmp 1), type := 112, pos := "verify.go:86", after := #[], guard := none }) (v := ?_) rfl (by kernel_rfl) (by kernel_rfl) (by kernel_rfl) (by kernel_rfl) (fun _ _ _ h => h) (Or.inl ⟨by rfl, ?_⟩) (by assumption) ?_
        rotate_left
        · (intro w0 hSw; (try dsimp only at hSw); go_split_ands; go_simp; with_reducible rfl)
        try simp only [Act.put, List.setIfInBounds_toArray, List.set_cons_zero, List.set_cons_succ]
        refine AnyE.take2 (i := 1) [] (oi := { dst := some 36, op := Go.Op.nilCheck (Go.Operand.tmp 35), type := 0, pos := "verify.go:86", after := #[{ on := 0, ground := Go.Ground.data }], guard := none }) (v := ?_) rfl (by kernel_rfl) (by kernel_rfl) (by kernel_rfl) (by kernel_rfl) (fun _ _ _ h => h) (Or.inl ⟨by rfl, ?_⟩) (by assumption) ?_
        rotate_left
        · (intro w0 hSw; (try dsimp only at hSw); go_split_ands; go_simp; with_reducible rfl)
        try simp only [Act.put, List.setIfInBounds_toArray, List.set_cons_zero, List.set_cons_succ]
        refine AnyE.take2 (i := 2) [] (oi := { dst := some 37, op := Go.Op.fieldAddr 120 (Go.Operand.tmp 36) 2, type := 0, pos := "verify.go:86", after := #[{ on := 1, ground := Go.Ground.data }], guard := none }) (v := ?_) rfl (by kernel_rfl) (by kernel_rfl) (by kernel_rfl) (by kernel_rfl) (fun _ _ _ h => h) (Or.inl ⟨by rfl, ?_⟩) (by assumption) ?_
        rotate_left
        · (intro w0 hSw; (try dsimp only at hSw); go_split_ands; go_simp; with_reducible rfl)
        try simp only [Act.put, List.setIfInBounds_toArray, List.set_cons_zero, List.set_cons_succ]
        refine AnyE.take2 (i := 3) [] (oi := { dst := some 38, op := Go.Op.load 29 (Go.Operand.tmp 37), type := 29, pos := "verify.go:86", after := #[{ on := 2, ground := Go.Ground.data }], guard := none }) (v := ?_) rfl (by kernel_rfl) (by kernel_rfl) (by kernel_rfl) (by kernel_rfl) (fun _ _ _ h => h) (Or.inl ⟨by rfl, ?_⟩) (by assumption) ?_
        rotate_left
        · (intro w0 hSw; (try dsimp only at hSw); go_split_ands; go_simp; with_reducible rfl)
        try simp only [Act.put, List.setIfInBounds_toArray, List.set_cons_zero, List.set_cons_succ]
        refine AnyE.take2 (i := 4) [] (oi := { dst := some 39, op := Go.Op.load 3 (Go.Operand.tmp 4), type := 3, pos := "verify.go:86", after := #[], guard := none }) (v := ?_) rfl (by kernel_rfl) (by kernel_rfl) (by kernel_rfl) (by kernel_rfl) (fun _ _ _ h => h) (Or.inl ⟨by rfl, ?_⟩) (by assumption) ?_
        rotate_left
        · (intro w0 hSw; (try dsimp only at hSw); go_split_ands; go_simp; with_reducible rfl)
        try simp only [Act.put, List.setIfInBounds_toArray, List.set_cons_zero, List.set_cons_succ]
        refine AnyE.ready (rs := [5, 9]) (by kernel_rfl) (by simp) ?_
        refine AllE.cons (o := { dst := some 40, op := Go.Op.call { callee := Go.Callee.value (Go.Operand.func 31), args := #[Go.Operand.tmp 38, Go.Operand.tmp 39], argTypes := #[29, 3] }, type := 75, pos := "verify.go:86", after := #[{ on := 3, ground := Go.Ground.data }, { on := 4, ground := Go.Ground.data }], guard := none }) rfl (fun KK hKK => ?_) (AllE.cons (o := { dst := some 7, op := Go.Op.alloc 74, type := 0, pos := "verify.go:86", after := #[], guard := none }) rfl (fun KK hKK => ?_) AllE.nil)
        · go_simp
          go_at_call 31
          refine (HCr.out _ HBd.out).mono ?_
          rintro e u1 ⟨rfl, hb5⟩
          have HB5 := Lib.hid hb5
          clear hb5
          have HBu := Lib.hid (HBd.out.below HB5.out)
          refine hKK.out _ _ (HHO.out _ HBu.out) (fun hHeld => ?_)
          clear hKK KK
          try simp only [Act.put, List.setIfInBounds_toArray, List.set_cons_zero, List.set_cons_succ]
          refine AnyE.take2 (i := 6) [] (oi := { dst := some 34, op := Go.Op.move (Go.Operand.tmp 40), type := 75, pos := "verify.go:86", after := #[{ on := 5, ground := Go.Ground.data }], guard := none }) (v := ?_) rfl (by kernel_rfl) (by kernel_rfl) (by kernel_rfl) (by kernel_rfl) (fun _ _ _ h => h) (Or.inl ⟨by rfl, ?_⟩) (by assumption) ?_
          rotate_left
          · (intro w0 hSw; (try dsimp only at hSw); go_split_ands; go_simp; with_reducible rfl)
          try simp only [Act.put, List.setIfInBounds_toArray, List.set_cons_zero, List.set_cons_succ]
          refine AnyE.take2 (i := 7) [] (oi := { dst := some 41, op := Go.Op.extract (Go.Operand.tmp 34) 0, type := 74, pos := "verify.go:86", after := #[{ on := 6, ground := Go.Ground.data }], guard := none }) (v := ?_) rfl (by kernel_rfl) (by kernel_rfl) (by kernel_rfl) (by kernel_rfl) (fun _ _ _ h => h) (Or.inl ⟨by rfl, ?_⟩) (by assumption) ?_
          rotate_left
          · (intro w0 hSw; (try dsimp only at hSw); go_split_ands; go_simp; with_reducible rfl)
          try simp only [Act.put, List.setIfInBounds_toArray, List.set_cons_zero, List.set_cons_succ]
          refine AnyE.take2 (i := 8) [] (oi := { dst := some 42, op := Go.Op.extract (Go.Operand.tmp 34) 1, type := 30, pos := "verify.go:86", after := #[{ on := 6, ground := Go.Ground.data }, { on := 10, ground := Go.Ground.gcOnly Go.Departure.lateStores }], guard := none }) (v := ?_) rfl (by kernel_rfl) (by kernel_rfl) (by kernel_rfl) (by kernel_rfl) (fun _ _ _ h => h) (Or.inl ⟨by rfl, ?_⟩) (by assumption) ?_
          rotate_left
          · (intro w0 hSw; (try dsimp only at hSw); go_split_ands; go_simp; with_reducible rfl)
          try simp only [Act.put, List.setIfInBounds_toArray, List.set_cons_zero, List.set_cons_succ]
          refine AnyE.ready (rs := [9]) (by kernel_rfl) (by simp) ?_
          refine AllE.cons (o := { dst := some 7, op := Go.Op.alloc 74, type := 0, pos := "verify.go:86", after := #[], guard := none }) rfl (fun KK hKK => ?_) AllE.nil
          go_simp
          obtain ⟨V, t7, hV, ht, hC, hb3⟩ : ∃ V t7, V = World.alloc u1 (.cells #[.int .i64 0, .int .i64 0, .int .i64 0, .int .i64 0] 74) ∧ t7 = u1.heap.size ∧ Bx V t7 #[.int .i64 0, .int .i64 0, .int .i64 0, .int .i64 0] 74 ∧ Below u1.heap.size u1 V := ⟨_, _, rfl, rfl, Bx.new _ _ _, (Below.refl _ _).alloc (Nat.le_refl _) _⟩
          rw [← hV, ← ht]
          have HCx := Lib.hid hC
          have HV := Lib.hid (And.intro hb3 ht)
          clear hC hV hb3 ht
          have HCu := HCx
          refine hKK.out _ _ (HHO.out _ (HBu.out.below HV.out.1)) (fun hHeld => ?_)
          clear hKK KK
          try simp only [Act.put, List.setIfInBounds_toArray, List.set_cons_zero, List.set_cons_succ]
          have z0 : V.cell? ⟨t7, 0, none⟩ = some (.int .i64 0) := HCu.out.cell 0
          have y0 : V.frozen? ⟨t7, 0, none⟩ = false := HCu.out.frz 0
          have z1 : V.cell? ⟨t7, 1, none⟩ = some (.int .i64 0) := HCu.out.cell 1
          have y1 : V.frozen? ⟨t7, 1, none⟩ = false := HCu.out.frz 1
          have z2 : V.cell? ⟨t7, 2, none⟩ = some (.int .i64 0) := HCu.out.cell 2
          have y2 : V.frozen? ⟨t7, 2, none⟩ = false := HCu.out.frz 2
          have z3 : V.cell? ⟨t7, 3, none⟩ = some (.int .i64 0) := HCu.out.cell 3
          have y3 : V.frozen? ⟨t7, 3, none⟩ = false := HCu.out.frz 3
          refine AnyE.ready (rs := [10]) (by kernel_rfl) (by simp) ?_
          refine AllE.cons (o := { dst := none, op := Go.Op.store 74 (Go.Operand.tmp 7) (Go.Operand.tmp 41), type := 0, pos := "verify.go:86", after := #[{ on := 9, ground := Go.Ground.data }, { on := 7, ground := Go.Ground.data }, { on := 5, ground := Go.Ground.chain }, { on := 0, ground := Go.Ground.phase }, { on := 1, ground := Go.Ground.phase }, { on := 2, ground := Go.Ground.phase }, { on := 3, ground := Go.Ground.phase }, { on := 4, ground := Go.Ground.phase }, { on := 5, ground := Go.Ground.phase }, { on := 6, ground := Go.Ground.phase }, { on := 7, ground := Go.Ground.phase }, { on := 8, ground := Go.Ground.textOnly Go.Departure.lateStores }, { on := 9, ground := Go.Ground.phase }], guard := none }) rfl (fun KK hKK => ?_) AllE.nil
          go_simp
          clear z0 z1 z2 z3 y0 y1 y2 y3
          have HQ : Hid (RdS K X te tb ep D ((((V.setCell ⟨t7, 0, none⟩ (.int .i64 q0)).setCell ⟨t7, 1, none⟩ (.int .i64 q1)).setCell ⟨t7, 2, none⟩ (.int .i64 q2)).setCell ⟨t7, 3, none⟩ (.int .i64 q3))) := Lib.hid (HBu.out.below (below_set4 HV.out.1 (Nat.le_of_eq HV.out.2.symm) _ _ _ _))
          generalize ((((V.setCell ⟨t7, 0, none⟩ (.int .i64 q0)).setCell ⟨t7, 1, none⟩ (.int .i64 q1)).setCell ⟨t7, 2, none⟩ (.int .i64 q2)).setCell ⟨t7, 3, none⟩ (.int .i64 q3)) = u9 at HQ ⊢
          refine hKK.out _ _ (HHO.out _ HQ.out) (fun hHeld => ?_)
          clear hKK KK
          try simp only [Act.put, List.setIfInBounds_toArray, List.set_cons_zero, List.set_cons_succ]
          refine AnyE.ready (rs := [11]) (by kernel_rfl) (by simp) ?_
          refine AllE.last (o := { dst := some 8, op := Go.Op.assign (Go.Operand.tmp 42), type := 30, pos := "verify.go:86", after := #[{ on := 8, ground := Go.Ground.data }, { on := 10, ground := Go.Ground.chain }, { on := 0, ground := Go.Ground.phase }, { on := 1, ground := Go.Ground.phase }, { on := 2, ground := Go.Ground.phase }, { on := 3, ground := Go.Ground.phase }, { on := 4, ground := Go.Ground.phase }, { on := 5, ground := Go.Ground.phase }, { on := 6, ground := Go.Ground.phase }, { on := 7, ground := Go.Ground.phase }, { on := 8, ground := Go.Ground.phase }, { on := 9, ground := Go.Ground.phase }, { on := 10, ground := Go.Ground.phase }], guard := none }) rfl (by kernel_rfl) (fun KK hKK => ?_)
          go_simp
          refine hKK.out _ _ ?_
          clear hKK KK
          try simp only [Act.put, List.setIfInBounds_toArray, List.set_cons_zero, List.set_cons_succ]
          go_wp2_with fail
          go_meet
          case rel => exact ⟨rfl, HQ.out⟩
        · go_simp
          obtain ⟨V, t7, hV, ht, hC, hb3⟩ : ∃ V t7, V = World.alloc u0 (.cells #[.int .i64 0, .int .i64 0, .int .i64 0, .int .i64 0] 74) ∧ t7 = u0.heap.size ∧ Bx V t7 #[.int .i64 0, .int .i64 0, .int .i64 0, .int .i64 0] 74 ∧ Below u0.heap.size u0 V := ⟨_, _, rfl, rfl, Bx.new _ _ _, (Below.refl _ _).alloc (Nat.le_refl _) _⟩
          rw [← hV, ← ht]
          have HCx := Lib.hid hC
          have HV := Lib.hid (And.intro hb3 ht)
          clear hC hV hb3 ht
          refine hKK.out _ _ (HHO.out _ (HBd.out.below HV.out.1)) (fun hHeld => ?_)
          clear hKK KK
          try simp only [Act.put, List.setIfInBounds_toArray, List.set_cons_zero, List.set_cons_succ]
          refine AnyE.ready (rs := [5]) (by kernel_rfl) (by simp) ?_
          refine AllE.cons (o := { dst := some 40, op := Go.Op.call { callee := Go.Callee.value (Go.Operand.func 31), args := #[Go.Operand.tmp 38, Go.Operand.tmp 39], argTypes := #[29, 3] }, type := 75, pos := "verify.go:86", after := #[{ on := 3, ground := Go.Ground.data }, { on := 4, ground := Go.Ground.data }], guard := none }) rfl (fun KK hKK => ?_) AllE.nil
          go_simp
          go_at_call 31
          refine (HCr.out _ (HBd.out.below HV.out.1)).mono ?_
          rintro e u1 ⟨rfl, hb5⟩
          have HB5 := Lib.hid hb5
          clear hb5
          have HCu := Lib.hid (HCx.out.below HB5.out)
          refine hKK.out _ _ (HHO.out _ ((HBd.out.below HV.out.1).below HB5.out)) (fun hHeld => ?_)
          clear hKK KK
          try simp only [Act.put, List.setIfInBounds_toArray, List.set_cons_zero, List.set_cons_succ]
          refine AnyE.take2 (i := 6) [] (oi := { dst := some 34, op := Go.Op.move (Go.Operand.tmp 40), type := 75, pos := "verify.go:86", after := #[{ on := 5, ground := Go.Ground.data }], guard := none }) (v := ?_) rfl (by kernel_rfl) (by kernel_rfl) (by kernel_rfl) (by kernel_rfl) (fun _ _ _ h => h) (Or.inl ⟨by rfl, ?_⟩) (by assumption) ?_
          rotate_left
          · (intro w0 hSw; (try dsimp only at hSw); go_split_ands; go_simp; with_reducible rfl)
          try simp only [Act.put, List.setIfInBounds_toArray, List.set_cons_zero, List.set_cons_succ]
          refine AnyE.take2 (i := 7) [] (oi := { dst := some 41, op := Go.Op.extract (Go.Operand.tmp 34) 0, type := 74, pos := "verify.go:86", after := #[{ on := 6, ground := Go.Ground.data }], guard := none }) (v := ?_) rfl (by kernel_rfl) (by kernel_rfl) (by kernel_rfl) (by kernel_rfl) (fun _ _ _ h => h) (Or.inl ⟨by rfl, ?_⟩) (by assumption) ?_
          rotate_left
          · (intro w0 hSw; (try dsimp only at hSw); go_split_ands; go_simp; with_reducible rfl)
          try simp only [Act.put, List.setIfInBounds_toArray, List.set_cons_zero, List.set_cons_succ]
          refine AnyE.take2 (i := 8) [] (oi := { dst := some 42, op := Go.Op.extract (Go.Operand.tmp 34) 1, type := 30, pos := "verify.go:86", after := #[{ on := 6, ground := Go.Ground.data }, { on := 10, ground := Go.Ground.gcOnly Go.Departure.lateStores }], guard := none }) (v := ?_) rfl (by kernel_rfl) (by kernel_rfl) (by kernel_rfl) (by kernel_rfl) (fun _ _ _ h => h) (Or.inl ⟨by rfl, ?_⟩) (by assumption) ?_
          rotate_left
          · (intro w0 hSw; (try dsimp only at hSw); go_split_ands; go_simp; with_reducible rfl)
          try simp only [Act.put, List.setIfInBounds_toArray, List.set_cons_zero, List.set_cons_succ]
          have z0 : u1.cell? ⟨t7, 0, none⟩ = some (.int .i64 0) := HCu.out.cell 0
          have y0 : u1.frozen? ⟨t7, 0, none⟩ = false := HCu.out.frz 0
          have z1 : u1.cell? ⟨t7, 1, none⟩ = some (.int .i64 0) := HCu.out.cell 1
          have y1 : u1.frozen? ⟨t7, 1, none⟩ = false := HCu.out.frz 1
          have z2 : u1.cell? ⟨t7, 2, none⟩ = some (.int .i64 0) := HCu.out.cell 2
          have y2 : u1.frozen? ⟨t7, 2, none⟩ = false := HCu.out.frz 2
          have z3 : u1.cell? ⟨t7, 3, none⟩ = some (.int .i64 0) := HCu.out.cell 3
          have y3 : u1.frozen? ⟨t7, 3, none⟩ = false := HCu.out.frz 3
          refine AnyE.ready (rs := [10]) (by kernel_rfl) (by simp) ?_
          refine AllE.cons (o := { dst := none, op := Go.Op.store 74 (Go.Operand.tmp 7) (Go.Operand.tmp 41), type := 0, pos := "verify.go:86", after := #[{ on := 9, ground := Go.Ground.data }, { on := 7, ground := Go.Ground.data }, { on := 5, ground := Go.Ground.chain }, { on := 0, ground := Go.Ground.phase }, { on := 1, ground := Go.Ground.phase }, { on := 2, ground := Go.Ground.phase }, { on := 3, ground := Go.Ground.phase }, { on := 4, ground := Go.Ground.phase }, { on := 5, ground := Go.Ground.phase }, { on := 6, ground := Go.Ground.phase }, { on := 7, ground := Go.Ground.phase }, { on := 8, ground := Go.Ground.textOnly Go.Departure.lateStores }, { on := 9, ground := Go.Ground.phase }], guard := none }) rfl (fun KK hKK => ?_) AllE.nil
          go_simp
          clear z0 z1 z2 z3 y0 y1 y2 y3
          have HQ : Hid (RdS K X te tb ep D ((((u1.setCell ⟨t7, 0, none⟩ (.int .i64 q0)).setCell ⟨t7, 1, none⟩ (.int .i64 q1)).setCell ⟨t7, 2, none⟩ (.int .i64 q2)).setCell ⟨t7, 3, none⟩ (.int .i64 q3))) := Lib.hid (HBd.out.below (below_set4 (HV.out.1.trans (HB5.out.mono HV.out.1.size)) (Nat.le_of_eq HV.out.2.symm) _ _ _ _))
          generalize ((((u1.setCell ⟨t7, 0, none⟩ (.int .i64 q0)).setCell ⟨t7, 1, none⟩ (.int .i64 q1)).setCell ⟨t7, 2, none⟩ (.int .i64 q2)).setCell ⟨t7, 3, none⟩ (.int .i64 q3)) = u9 at HQ ⊢
          refine hKK.out _ _ (HHO.out _ HQ.out) (fun hHeld => ?_)
          clear hKK KK
          try simp only [Act.put, List.setIfInBounds_toArray, List.set_cons_zero, List.set_cons_succ]
          refine AnyE.ready (rs := [11]) (by kernel_rfl) (by simp) ?_
          refine AllE.last (o := { dst := some 8, op := Go.Op.assign (Go.Operand.tmp 42), type := 30, pos := "verify.go:86", after := #[{ on := 8, ground := Go.Ground.data }, { on := 10, ground := Go.Ground.chain }, { on := 0, ground := Go.Ground.phase }, { on := 1, ground := Go.Ground.phase }, { on := 2, ground := Go.Ground.phase }, { on := 3, ground := Go.Ground.phase }, { on := 4, ground := Go.Ground.phase }, { on := 5, ground := Go.Ground.phase }, { on := 6, ground := Go.Ground.phase }, { on := 7, ground := Go.Ground.phase }, { on := 8, ground := Go.Ground.phase }, { on := 9, ground := Go.Ground.phase }, { on := 10, ground := Go.Ground.phase }], guard := none }) rfl (by kernel_rfl) (fun KK hKK => ?_)
          go_simp
          refine hKK.out _ _ ?_
          clear hKK KK
          try simp only [Act.put, List.setIfInBounds_toArray, List.set_cons_zero, List.set_cons_succ]
          go_wp2_with fail
          go_meet
          case rel => exact ⟨rfl, HQ.out⟩
      case rest =>
        obtain ⟨rfl, hq⟩ := hcut
        have HQ := Lib.hid hq
        have xe : wc.cell? ⟨te, 0, none⟩ = some (.int .i64 ep) := hq.e.cell 0
        have HRd : Hid (rdR K.n K.D = (ep, rdE K.n K.D ep)) := Lib.hid (by unfold rdR; rw [HEp.out, if_pos hlt])
        clear hq HS1
        go_wp2_with fail
        refine ⟨by simp, .inl ⟨_, _, rfl, run_takeDeferred HQ.out.d, ?_⟩⟩
        refine ⟨_, results_tmp2 rfl _ _ _, ?_, HQ.out.fin HDl.out _, (HQ.out.fin HDl.out _).b⟩
        rw [HRd.out]
        rfl
    · have d1 : decide ((ep : Int) < (K.n : Int)) = false := decide_eq_false (by omega)
      have d2 : decide (ep < K.n) = false := decide_eq_false hlt
      go_wp2_with fail
      go_quiet (fail)
      go_wp2_with fail
      have HDl : Hid (K.w0.heap.size ≤ D) := Lib.hid (by have := HN.out; omega)
      have HQ : Hid (RdS K X te tb ep D (W.drewN nq)) := Lib.hid ((⟨HFl.out, HE.out, HBb.out, HKd.out⟩ : RdS K X te tb ep D W).below (below_drewN (Below.refl _ _) _))
      have HRd : Hid (rdR K.n K.D = (0, 0)) := Lib.hid (by unfold rdR; rw [HEp.out, if_neg hlt])
      refine ⟨by simp, .inl ⟨_, _, rfl, run_takeDeferred HQ.out.d, ?_⟩⟩
      refine ⟨_, results_tmp2 rfl _ _ _, ?_, HQ.out.fin HDl.out _, (HQ.out.fin HDl.out _).b⟩
      rw [HRd.out]
      rfl
end Go.Proofs.Ytpiafgmncfibmaa.Vf
