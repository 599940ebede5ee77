import Derived.Test.YtgdlcnngplfjnaaDoorYy
import Derived.BigGuardPart
import Derived.LoopIn
import Derived.LoopNIn
import Derived.OwnWalkIn
import Derived.OrdersIn
import Derived.RangeFuncBound
import Derived.RangeFuncBox
import Derived.RangeFuncCalls
import Derived.RangeFuncLeaves
import Derived.RangeFuncNested
import Derived.Shelf.RegionOpen
import Derived.TacticsInMore
import Derived.Laws.BitsLemmas
import Derived.IntWalk
import Derived.Laws.BitsAllLaws
import Derived.Deep.DrawnRows
import Derived.WalkKit
import Derived.ProofKit
import Derived.OpenShut
import Derived.Deep.QuietTactic
import Derived.BigQuiet
import Derived.Outline
import Derived.WalkSmall
import Derived.WalkLawsBesides
import Derived.WalkSpells
import Derived.BigGuardPart
import Derived.RegionTactic
import Derived.Deep.RegionHeld3
import Derived.Lib.Hide
import Derived.Deep.MidRow
import Derived.Below
import Derived.Deep.RegionWith
import Derived.Deep.OwnRows
import Derived.Deep.AppendLies
import Derived.Deep.RegionLaw
import Derived.Deep.CutBlock
import Derived.Deep.DeepCutAuto
namespace Go.Proofs.YtgdlcnngplfjnaaDoor.Vf
open Go.ChangeShapes Go.WideShapes Go.ChangeAt Go.RowKit
set_option linter.unusedVariables false
open Go.Shelf
attribute [local go_sem] Oper.semAt_some
/-- No operation of these defers. -/
def noDefer (ops : Array Oper) : Bool := ops.all fun o => match o.op with | .defer _ => false | _ => true
theorem noDefer_spec {ops : Array Oper} (h : noDefer ops = true) {i : Nat} {o : Oper} (ho : ops[i]? = some o) (c : Call) : o.op ≠ .defer c := fun e => by
  have := Array.all_eq_true_iff_forall_mem.1 h o (Array.mem_of_getElem? ho)
  rw [e] at this
  exact Bool.noConfusion this
theorem wpOp_round {P : Program} {n l i : Nat} {ops : Array Oper} {Q : Exit → Act → World → Prop} (hd : noDefer ops = true) (hL : ¬ LetsOut Q)
    {K : Act → World → Prop} {a : Act} {w : World} (h : wpOp P ops Q i K a w) : wpOpIn (Fence.wide.inRound l) n P ops Q i K a w := by
  unfold wpOp at h
  unfold wpOpIn
  split
  · rename_i ho
    simpa only [ho] using h
  · rename_i o ho
    simp only [ho] at h
    split
    · rename_i hw
      simp only [hw, if_true] at h
      rcases h with h | ⟨_, h⟩
      · refine ⟨fun _ _ => trivial, ?_⟩
        rw [Oper.semAt_eq _ _ _ (noDefer_spec hd ho)]
        unfold Oper.wp at h
        generalize (execOp a.eval o).run P w = r at *
        cases r with
        | ok x w' =>
          cases x <;> simp only [Oper.upon] at h
          case value v => exact h
          case skip => exact h
          case defer d => exact h
          case enter f args => exact ⟨fun e => Bool.noConfusion e, CallsIn.inRound l (callsIn_wide.2 h)⟩
          case row row args => exact ⟨fun e => Bool.noConfusion e, fun c cs _ => let ⟨v, w2, r, s⟩ := h c cs; ⟨v, w2, r, stepsIn_wide.2 s⟩⟩
        | halt x w' =>
          cases x <;> simp only [Oper.upon] at h
          case panic v => exact h
      · exact absurd h hL
    · rename_i hw
      simp only [hw] at h
      exact ⟨fun _ _ => trivial, h⟩
theorem wpAny_round {P : Program} {n l : Nat} {md : Region.Mode} {ops : Array Oper} {Q : Exit → Act → World → Prop} (hd : noDefer ops = true) (hL : ¬ LetsOut Q) :
    ∀ (fuel : Nat) (listed : Array Bool) (a : Act) (w : World), wpAny P md ops Q fuel listed a w → wpAnyIn (Fence.wide.inRound l) n P md ops Q fuel listed a w
  | 0, _, _, _, h => h
  | fuel + 1, _, _, _, h => ⟨h.1, fun i hi => wpOpIn_mono (fun a' w' h' => wpAny_round hd hL fuel _ a' w' h') (wpOp_round hd hL (h.2 i hi))⟩
/-- The beginning: a condition is shown of the world behind the draw, and holds all through the region. -/
theorem region_round {P : Program} {n l id : Nat} {ops : Array Oper} {Q : Exit → Act → World → Prop} {S : World → Prop} {a : Act} {w : World} (hm : P.follows .mixedOrders = true) (hd : noDefer ops = true) (hL : ¬ LetsOut Q) (hS : S w.drew)
    (h : S w.drew → wpAnyH P .any ops Q S ops.size (Array.replicate ops.size false) a w.drew) : (Code.region id ops true).wpIn (Fence.wide.inRound l) n P Q a w :=
  wpIn_region_any hm (wpAny_round hd hL _ _ _ _ (wpAny_of_held _ _ _ _ (h hS)))
theorem range4 {N : Nat} {P : Program} {n : Nat} {g : Operand} {p q r : Tmp} {assign body : Code} {Q : Exit → Act → World → Prop} {a : Act} {w : World} (h1 : 1 ≤ n) {gf : Nat} {lb : Array Value} (hg : a.eval g = .func (.func gf) #[] lb) (eg : ∀ args w, (callFunc gf args).run P w = .ok (.enter gf args) w)
    {E : Fin N → Array Value} {Kp : World → World → Prop} {S Sp : List (Fin N) → Prop} {w0 : World} (hseq : SeqStopsK Fence.wide (n - 1) P gf lb (fun k : Fin N => #[.int .i64 (k.val : Nat), .agg (E k)]) Kp S Sp N w0)
    (hKt : ∀ {A B C : World}, Kp A B → Kp B C → Kp A C) (hKb : ∀ (W : World) (l : Nat) (o o' : Obj), w.heap.size ≤ l → W.heap[l]? = some o → o.isCells = false → o.isWalk = false → Kp W (W.putObj l o')) (hKa : ∀ (W : World) (o : Obj), Kp W (W.alloc o)) (hb0 : Below w0.heap.size w0 w)
    (I : List (Fin N) → World → Prop) (Ix : Code → List (Fin N) → World → Prop) (hI : OwnFrom w.heap.size I) (hIx : ∀ c, OwnFrom w.heap.size (Ix c)) (hIs : ∀ pre W, I pre W → w.heap.size ≤ W.heap.size) (h0 : I [] w) (ex : Array Value → Nat → Array Value)
    (hassign : ∀ (l : Nat) (x : Fin N) (W : World) (K : Act → World → Prop), K { tmps := (ex ((a.tmps.setIfInBounds p (.int .i64 (x.val : Nat))).setIfInBounds q (.agg (E x))) x.val).setIfInBounds r (.pointer (some ⟨W.heap.size, 0, none⟩)), defers := [] } (W.alloc (.cells (E x) 25)) →
      assign.wpIn (Fence.wide.inRound l) (n - 1 - 1) P (Exit.then K (fun _ _ _ => False)) { tmps := (a.tmps.setIfInBounds p (.int .i64 (x.val : Nat))).setIfInBounds q (.agg (E x)), defers := [] } W)
    (hbody : ∀ (l : Nat) (pre : List (Fin N)) (x : Fin N) (b8 : Nat) (W : World), I pre W → w.heap.size ≤ b8 → W.heap[b8]? = some (.cells (E x) 25 (0, 0)) → pre.length < N → body.wpIn (Fence.wide.inRound l) (n - 1 - 1) P (ownPostG w.heap.size Kp I Ix (pre ++ [x]) W) { tmps := (ex ((a.tmps.setIfInBounds p (.int .i64 (x.val : Nat))).setIfInBounds q (.agg (E x))) x.val).setIfInBounds r (.pointer (some ⟨b8, 0, none⟩)), defers := [] } W)
    (hdone : ∀ (D : Nat) (xs : List (Fin N)) (W : World), w.heap.size ≤ D → S xs → I xs W → W.heap[D]? = some (.deferred (some [])) → Q .normal { a with defers := { target := .collected D, args := #[] } :: a.defers } W)
    (hstop : ∀ (D : Nat) (c : Code) (pre : List (Fin N)) (W : World), w.heap.size ≤ D → Sp pre → Ix c pre W → W.heap[D]? = some (.deferred (some [])) → c.wpIn Fence.wide n P Q { a with defers := { target := .collected D, args := #[] } :: a.defers } W) :
    (Code.rangeFunc g #[p, q] assign body).wpIn Fence.wide n P Q a w :=
  wpIn_rangeFunc_ownH rfl h1 hg trivial eg hseq hKt hKb hb0 (fun _ => rfl) I Ix hI hIx h0
    (fun x a' W => ∃ b8, w.heap.size ≤ b8 ∧ a' = { tmps := (ex ((a.tmps.setIfInBounds p (.int .i64 (x.val : Nat))).setIfInBounds q (.agg (E x))) x.val).setIfInBounds r (.pointer (some ⟨b8, 0, none⟩)), defers := [] } ∧ W.heap[b8]? = some (.cells (E x) 25 (0, 0)))
    (fun x a' _ W W' row hs hgr hr => by
      obtain ⟨b8, h8, ha, hc⟩ := hs
      refine ⟨b8, h8, ha, (hgr.block b8 (Array.getElem?_eq_some_iff.1 hc).1 (fun e => ?_)).trans hc⟩
      obtain ⟨_, o, ho, hc'⟩ := hr b8 e.symm
      rw [hc] at ho
      cases ho
      cases hc')
    (fun l pre x W K hi hK => by
      have h := hassign l x W K (hK _ _ ⟨by rw [World.size_alloc]; omega, fun k o _ hk _ => (Below.heap_alloc _ _ _ (Array.getElem?_eq_some_iff.1 hk).1).trans hk⟩ (hKa W _) (hI.alloc _ hi) ⟨W.heap.size, hIs pre W hi, rfl, World.alloc_heap_new W _⟩)
      simpa using h)
    (fun l pre x a' W _ _ hi hax hlt => by
      obtain ⟨b8, h8, rfl, hc⟩ := hax
      exact hbody l pre x b8 W hi h8 hc hlt)
    hdone hstop
theorem wp_narrow {P : Program} {c : Code} {K : Act → World → Prop} {Q : Exit → Act → World → Prop} {a : Act} {w : World} (h : c.wp P (Exit.then K (fun _ _ _ => False)) a w) : c.wp P (Exit.then K Q) a w :=
  wp_mono h (fun e a w he => by
    cases e
    case normal => exact he
    all_goals exact False.elim he)
theorem below_set4 {W V : World} {t : Nat} (h : Below W.heap.size W V) (ht : W.heap.size ≤ t) (a b c d : Value) : Below W.heap.size W ((((V.setCell ⟨t, 0, none⟩ a).setCell ⟨t, 1, none⟩ b).setCell ⟨t, 2, none⟩ c).setCell ⟨t, 3, none⟩ d) := (((h.setCell (p := ⟨t, 0, none⟩) ht a).setCell (p := ⟨t, 1, none⟩) ht b).setCell (p := ⟨t, 2, none⟩) ht c).setCell (p := ⟨t, 3, none⟩) ht d
theorem bx_own {w w' : World} {b e B : Nat} {C : Array Value} {row : Option Nat} (h : Bx w b C e) (hg : w.grownBy w' row) (hr : ∀ r, row = some r → B ≤ r ∧ ∃ o, w.heap[r]? = some o ∧ o.isCells = false) : Bx w' b C e :=
  (hg.block b h.lt (fun q => by
    obtain ⟨_, o, ho, hc⟩ := hr b q.symm
    unfold Bx at h
    rw [h] at ho
    injection ho with ho
    subst ho
    cases hc)).trans h
def rdR (n : Nat) (D : Nat → Nat) : Nat × Int := if endP n D n 0 < n then (endP n D n 0, rdE n D (endP n D n 0)) else (0, 0)
end Go.Proofs.YtgdlcnngplfjnaaDoor.Vf
