import Derived.WalkKit
import Derived.ProofKit
import Derived.OpenShut
import Derived.Deep.QuietTactic
import Derived.BigQuiet
import Derived.Outline
import Derived.WalkSmall
import Derived.WalkLawsBesides
import Derived.WalkSpells
import Derived.BigGuardPart
import Derived.RegionTactic
import Derived.Deep.RegionHeld3
import Derived.Lib.Hide
import Derived.Deep.MidRow
import Derived.Below
import Derived.Deep.RegionWith
import Derived.Deep.OwnRows
import Derived.Deep.AppendLies
import Derived.Deep.RegionLaw
import Derived.Laws.BitsAllLaws
import Derived.Laws.BitsLemmas
import Derived.Deep.CutBlock
import Derived.Deep.DeepCutAuto
import Derived.Deep.CutRange
import Derived.RangeFuncNested
import Derived.RangeFuncBound
import Derived.RangeFuncCalls
import Derived.RangeFuncLeaves
import Derived.RangeFuncBox
import Derived.Shelf.Abstract
import Derived.Shelf.RegionOpen
import Derived.OwnWalkIn
import Derived.TacticsInMore
import Derived.LoopNIn
import Derived.LoopIn
import Derived.Test.YtnbpgoacooddjaaWl
import Derived.Scope
namespace Go.Proofs.Ytnbpgoacooddjaa
open Go.ChangeShapes Go.WideShapes Go.ChangeAt Go.RowKit Go.Shelf
set_option linter.unusedVariables false
attribute [local go_sem] Oper.semAt_some
/-- Those of the first k that are not done. -/
def und (F : Nat → WI) : Nat → List Int
  | 0 => []
  | k + 1 => if (F k).dn then und F k else und F k ++ [(k : Int)]
theorem und_length (F : Nat → WI) : ∀ k, (und F k).length ≤ k
  | 0 => Nat.le_refl _
  | k + 1 => by
    have := und_length F k
    unfold und
    split
    · omega
    · simp; omega
theorem mem_und (F : Nat → WI) (x : Int) : ∀ k, x ∈ und F k ↔ ∃ j : Nat, j < k ∧ (F j).dn = false ∧ x = j
  | 0 => by simp [und]
  | k + 1 => by
    unfold und
    have ih := mem_und F x k
    split
    · rename_i h
      rw [ih]
      constructor
      · rintro ⟨j, h1, h2, h3⟩; exact ⟨j, by omega, h2, h3⟩
      · rintro ⟨j, h1, h2, h3⟩
        refine ⟨j, ?_, h2, h3⟩
        rcases Nat.lt_or_ge j k with h4 | h4
        · exact h4
        · obtain rfl : j = k := by omega
          rw [h] at h2; cases h2
    · rename_i h
      rw [List.mem_append, ih]
      constructor
      · rintro (⟨j, h1, h2, h3⟩ | h1)
        · exact ⟨j, by omega, h2, h3⟩
        · exact ⟨k, by omega, by simpa using h, by simpa using h1⟩
      · rintro ⟨j, h1, h2, h3⟩
        rcases Nat.lt_or_ge j k with h4 | h4
        · exact .inl ⟨j, h4, h2, h3⟩
        · obtain rfl : j = k := by omega
          exact .inr (by simp [h3])
/-- A block stays as it is. -/
def KpB (ub b : Nat) (W W' : World) : Prop := Fr.KpI ub W W' ∧ Fr.KpI b W W'
set_option maxRecDepth 100000 in
set_option maxHeartbeats 4000000 in
theorem undone_stops (F : Nat → WI) (b off i cap ub : Nat) (w : World) (HW : WnC w b off i F) (hu : Boxed w ub 22 (.slice (some ⟨b, off, none⟩) i cap)) (hi : i ≤ 1000000) :
    SeqStopsK Fence.wide 4 Try.prog 153 #[.pointer (some ⟨ub, 0, none⟩)] (fun x : Int => #[.int .i64 x]) (KpB ub b) (fun xs => xs = und F i) (fun pre => ∃ k : Nat, k < i ∧ (F k).dn = false ∧ pre = und F k ++ [(k : Int)]) (i + 1) w := fun l J Jx W hW hJ hJx hY h0 => by
  have HW0 := Lib.hid (HW.below hW)
  have hu0 : W.cell? ⟨ub, 0, none⟩ = some (.slice (some ⟨b, off, none⟩) i cap) := (hW.cell (p := ⟨ub, 0, none⟩) hu.lt).trans hu.cell
  have hul : ub < W.heap.size := Nat.lt_of_lt_of_le hu.lt hW.size
  refine callsIn_of_wp Try.func153 rfl trivial ?_ rfl
  simp only [Try.ntmps153, List.size_toArray, List.length_cons, List.length_nil, Nat.reduceAdd, Nat.reduceSub, Array.replicate_succ, Array.replicate_zero, List.push_toArray, List.append_toArray, List.nil_append, List.cons_append]
  clear hu
  gi_wp2
  gi_loopw [6] (fun s6 wr => ∃ k : Nat, k ≤ i ∧ s6 = .int .i64 k ∧ J (und F k) wr ∧ WnC wr b off i F ∧ wr.cell? ⟨ub, 0, none⟩ = some (.slice (some ⟨b, off, none⟩) i cap) ∧ ub < wr.heap.size) (fun s6 _ => i - (intOf s6).toNat)
  case atStart => exact ⟨0, by omega, rfl, h0, HW0.out, hu0, hul⟩
  case round =>
    obtain ⟨k, hk, rfl, hJs, hWk, huk, hul2⟩ := hrel
    have HWk := Lib.hid hWk
    clear hWk hu0
    by_cases hlt : k < i
    · have cd := HWk.out.dn k hlt
      have gk : (k : Int) < i := by omega
      cases hd : (F k).dn
      · rw [hd] at cd
        obtain ⟨fn, tmps, assign, body, hy, hR⟩ := hY (und F k) k wr hJs (by have := und_length F k; omega)
        have hE : und F (k + 1) = und F k ++ [(k : Int)] := by rw [und, if_neg (by rw [hd]; decide)]
        have HE := Lib.hid hE
        have HD := Lib.hid hd
        clear hE hd
        gi_wp2
        refine hR.mono ?_
        rintro e W3 (⟨rfl, hJ3, hk3⟩ | ⟨rfl, hJx3⟩)
        · have hW3 : WnC W3 b off i F := ⟨(hk3.2 HWk.out.1).1, fun j hj q v hv => ((hk3.2 HWk.out.1).2 _).trans (HWk.out.2 j hj q v hv)⟩
          have hu3 := ((hk3.1 hul2).2 0).trans huk
          have hl3 := (hk3.1 hul2).1
          gi_wp2
          go_roundw
          case rel => exact ⟨k + 1, by omega, by simp, by rw [HE.out]; exact hJ3, hW3, hu3, hl3⟩
          case measure => simp [intOf]; omega
        · gi_wp2
          refine bodyPost_ret (results_none rfl _ _ _) rfl ?_
          exact ⟨⟨_, rfl⟩, .inr ⟨_, ⟨k, hlt, HD.out, rfl⟩, hJx3⟩⟩
      · rw [hd] at cd
        have hE : und F (k + 1) = und F k := by rw [und, if_pos hd]
        have HE := Lib.hid hE
        clear hE hd
        gi_wp2_with (first | (refine Fr.wpListIn_skipW (by rfl) ?_; simp only [Act.put, List.setIfInBounds_toArray, List.set_cons_succ, List.set_cons_zero]))
        go_roundw
        case rel => exact ⟨k + 1, by omega, by simp, by rw [HE.out]; exact hJs, HWk.out, huk, hul2⟩
        case measure => simp [intOf]; omega
    · have hki : k = i := by omega
      have HK := Lib.hid hki
      have gk : ¬ (k : Int) < i := by omega
      clear hki
      gi_wp2
      go_end0
      first | exact ⟨⟨_, rfl⟩, .inl ⟨_, rfl, HK.out ▸ hJs⟩⟩ | exact ⟨⟨_, rfl⟩, .inl (HK.out ▸ hJs)⟩
end Go.Proofs.Ytnbpgoacooddjaa
namespace Go.Proofs.Ytnbpgoacooddjaa
open Go.ChangeShapes Go.WideShapes Go.ChangeAt Go.RowKit Go.Shelf
set_option linter.unusedVariables false
theorem ld136 (v : Value) : Instr.loadAt 136 v = ldAt 136 v := rfl
theorem st136 (p v : Value) : Instr.storeAt 136 p v = stAt 136 p v := rfl
theorem built136 (b off n cap g m : Nat) (r : Rg) (I : WI) (tp : Option Int) (fw : Bool) : Try.prog.built 136 [(0, .agg (vwA b off n cap r g m)), (1, .agg I.ins), (2, .agg (touchA tp fw))] = some (trA (vwA b off n cap r g m) I tp fw) := by kernel_rfl
theorem exec_build136 (ev : Operand → Value) (d : Option Tmp) (ty : TypeId) (ps : String) (af : Array Edge) (b off n cap g m : Nat) (r : Rg) (I : WI) (tp : Option Int) (fw : Bool) (x y z : Operand) (hx : ev x = .agg (vwA b off n cap r g m)) (hy : ev y = .agg I.ins) (hz : ev z = .agg (touchA tp fw)) (w : World) :
    (execOp ev { dst := d, op := .build 136 #[(0, x), (1, y), (2, z)], type := ty, pos := ps, after := af, guard := none }).run Try.prog w = .ok (.value (.agg (trA (vwA b off n cap r g m) I tp fw))) w := by
  unfold execOp
  have := run_build (P := Try.prog) w 136 #[(0, .agg (vwA b off n cap r g m)), (1, .agg I.ins), (2, .agg (touchA tp fw))] _ (built136 b off n cap g m r I tp fw)
  simp only [Sem.run_bind, List.map_toArray, List.map_cons, List.map_nil, hx, hy, hz, this, Result.andThen_ok, Sem.run_pure]
theorem trA_one (b off n cap g m : Nat) (r : Rg) (I : WI) (tp : Option Int) (fw : Bool) : (trA (vwA b off n cap r g m) I tp fw).all (·.oneCell') = true := by
  unfold trA
  rw [Array.all_append, Array.all_append, vwA_one]
  simp [WI.ins, touchA, Value.oneCell']
theorem st_tr {w : World} {x : Nat} {C : Array Value} {b off n cap g m : Nat} {r : Rg} {I : WI} {tp : Option Int} {fw : Bool} (h : rowAt w x = some C) (hs : C.size = 48) : (stAt 136 (.pointer (some ⟨x, 0, none⟩)) (.agg (trA (vwA b off n cap r g m) I tp fw))).run Try.prog w = .ok () (w.setCells x 0 (trA (vwA b off n cap r g m) I tp fw).toList) := by
  have hz := trA_size (vwA_size b off n cap r g m) I tp fw
  refine run_storeAt_mid w x 0 136 (trA (vwA b off n cap r g m) I tp fw) (fun j hj => ?_) (by rw [hz]; exact info136) (trA_one _ _ _ _ _ _ _ _ _ _)
  rw [hz] at hj
  rw [Nat.zero_add]
  refine ⟨?_, rowAt_frz h j⟩
  rw [rowAt_cell h j, Array.getElem?_eq_getElem (by omega)]
  rfl
theorem trA_all (b off n cap g m : Nat) (r : Rg) (I : WI) (tp : Option Int) (fw : Bool) : (trA (vwA b off n cap r g m) I tp fw).extract 0 (0 + 48) = trA (vwA b off n cap r g m) I tp fw := by
  have hz := trA_size (vwA_size b off n cap r g m) I tp fw
  generalize trA (vwA b off n cap r g m) I tp fw = X at hz ⊢
  rw [Nat.zero_add, ← hz]
  exact Array.extract_size
theorem tr_all {w : World} {x b off n cap g m : Nat} {r : Rg} {I : WI} {tp : Option Int} {fw : Bool} (h : rowAt w x = some (trA (vwA b off n cap r g m) I tp fw)) : (ldAt 136 (.pointer (some ⟨x, 0, none⟩))).run Try.prog w = .ok (.agg (trA (vwA b off n cap r g m) I tp fw)) w := by
  have hz := trA_size (vwA_size b off n cap r g m) I tp fw
  show (Instr.loadAt 136 _).run Try.prog w = _
  rw [load_row Try.underlying136 rfl info136, h]
  simp only []
  rw [if_pos (by rw [hz]; omega)]
  rw [trA_all]
set_option maxHeartbeats 1000000 in
theorem undone_c (sl : Value) (w : World) (hsl : sl.oneCell' = true) : Calls Try.prog 73 #[sl] w fun e w' => e = .returned (.func (.func 153) #[] #[.pointer (some ⟨w.heap.size, 0, none⟩)]) ∧ Boxed w' w.heap.size 22 sl ∧ Below w.heap.size w w' := by
  go_enter Try.func73, Try.ntmps73
  go_wp2
  refine ⟨rfl, .func (.func 153) #[] #[.pointer (some ⟨w.heap.size, 0, none⟩)], ?_, rfl, Boxed.new w 22 sl, (Below.refl _ _).alloc (Nat.le_refl _) _⟩
  simp [results, Try.f73, go_sem]
theorem keepsFrom_below {B : Nat} {W W' : World} (h : Below W.heap.size W W') : KeepsFrom B W W' := ⟨h.size, fun k o _ ho _ => (h.block k (Array.getElem?_eq_some_iff.1 ho).1).trans ho⟩
theorem built142 (w : World) : (Instr.build 142 #[(0, .func (.func 74) #[] #[]), (1, .func (.func 75) #[] #[]), (2, .func (.func 76) #[] #[])]).run Try.prog w = .ok (.agg #[.func (.func 74) #[] #[], .func (.func 75) #[] #[], .func (.func 76) #[] #[]]) w :=
  run_build (P := Try.prog) w 142 _ _ (by kernel_rfl)
theorem idx142_0 (w : World) : (Instr.index 142 (.agg #[.func (.func 74) #[] #[], .func (.func 75) #[] #[], .func (.func 76) #[] #[]]) (.int .i64 0)).run Try.prog w = .ok (.func (.func 74) #[] #[]) w := by kernel_rfl
theorem idx142_1 (w : World) : (Instr.index 142 (.agg #[.func (.func 74) #[] #[], .func (.func 75) #[] #[], .func (.func 76) #[] #[]]) (.int .i64 1)).run Try.prog w = .ok (.func (.func 75) #[] #[]) w := by kernel_rfl
theorem idx142_2 (w : World) : (Instr.index 142 (.agg #[.func (.func 74) #[] #[], .func (.func 75) #[] #[], .func (.func 76) #[] #[]]) (.int .i64 2)).run Try.prog w = .ok (.func (.func 76) #[] #[]) w := by kernel_rfl
theorem range_may {P : Program} {n : Nat} {α : Type} {g : Operand} {p q : Tmp} {assign body : Code} {Q : Exit → Act → World → Prop} {a : Act} {w : World} (h1 : 1 ≤ n) {gf : Nat} {lb : Array Value} (hg : a.eval g = .func (.func gf) #[] lb) (eg : ∀ args w, (callFunc gf args).run P w = .ok (.enter gf args) w)
    {enc : α → Value} {Kp : World → World → Prop} {S Sp : List α → Prop} {N : Nat} {w0 : World} (hseq : SeqStopsK Fence.wide (n - 1) P gf lb (fun x => #[enc x]) Kp S Sp N w0)
    (hKt : ∀ {A B C : World}, Kp A B → Kp B C → Kp A C) (hKb : ∀ (W : World) (l : Nat) (o o' : Obj), w.heap.size ≤ l → W.heap[l]? = some o → o.isCells = false → o.isWalk = false → Kp W (W.putObj l o')) (hb0 : Below w0.heap.size w0 w)
    (I : List α → World → Prop) (Ix : Code → List α → World → Prop) (hI : OwnFrom w.heap.size I) (hIx : ∀ c, OwnFrom w.heap.size (Ix c)) (h0 : I [] w)
    (hassign : ∀ (l : Nat) (x : α) (W : World) (K : Act → World → Prop), K { tmps := (a.tmps.setIfInBounds p (enc x)).setIfInBounds q (enc x), defers := [] } W →
      assign.wpIn (Fence.wide.inRound l) (n - 1 - 1) P (Exit.then K (fun _ _ _ => False)) { tmps := a.tmps.setIfInBounds p (enc x), defers := [] } W)
    (hbody : ∀ (l : Nat) (pre : List α) (x : α) (W : World), I pre W → pre.length < N → body.wpIn (Fence.wide.inRound l) (n - 1 - 1) P (ownPostG w.heap.size Kp I Ix (pre ++ [x]) W) { tmps := (a.tmps.setIfInBounds p (enc x)).setIfInBounds q (enc x), defers := [] } W)
    (hdone : ∀ (D : Nat) (xs : List α) (W : World), w.heap.size ≤ D → S xs → I xs W → W.heap[D]? = some (.deferred (some [])) → Q .normal { a with defers := { target := .collected D, args := #[] } :: a.defers } W)
    (hstop : ∀ (D : Nat) (c : Code) (pre : List α) (W : World), w.heap.size ≤ D → Sp pre → Ix c pre W → W.heap[D]? = some (.deferred (some [])) → c.wpIn Fence.wide n P Q { a with defers := { target := .collected D, args := #[] } :: a.defers } W) :
    (Code.rangeFunc g #[p] assign body).wpIn Fence.wide n P Q a w :=
  wpIn_rangeFunc_ownG rfl h1 hg trivial eg hseq hKt hKb hb0 (fun _ => rfl) I Ix hI hIx h0 (fun x => { tmps := (a.tmps.setIfInBounds p (enc x)).setIfInBounds q (enc x), defers := [] })
    (fun l x W K hK => by simpa using hassign l x W K hK) hbody hdone hstop
end Go.Proofs.Ytnbpgoacooddjaa
namespace Go.Proofs.Ytnbpgoacooddjaa
open Go.ChangeShapes Go.WideShapes Go.ChangeAt Go.RowKit Go.Shelf
set_option linter.unusedVariables false
attribute [local go_sem] Oper.semAt_some
/-- Those of the first k that are not done, bound by i. -/
def undT (F : Nat → WI) (i : Nat) : Nat → List (Fin i)
  | 0 => []
  | k + 1 => if h : k < i then (if (F k).dn then undT F i k else undT F i k ++ [⟨k, h⟩]) else undT F i k
theorem undT_length (F : Nat → WI) (i : Nat) : ∀ k, (undT F i k).length ≤ k
  | 0 => Nat.le_refl _
  | k + 1 => by
    have := undT_length F i k
    unfold undT
    split
    · split
      · omega
      · simp; omega
    · omega
theorem undT_map (F : Nat → WI) (i : Nat) : ∀ k, k ≤ i → (undT F i k).map (fun x => (x.val : Int)) = und F k
  | 0, _ => rfl
  | k + 1, h => by
    have ih := undT_map F i k (by omega)
    rw [undT, und, dif_pos (by omega)]
    split
    · exact ih
    · rw [List.map_append, ih]; rfl
set_option maxRecDepth 100000 in
set_option maxHeartbeats 4000000 in
theorem undone_fin (F : Nat → WI) (b off i cap ub : Nat) (w : World) (HW : WnC w b off i F) (hu : Boxed w ub 22 (.slice (some ⟨b, off, none⟩) i cap)) (hi : i ≤ 1000000) :
    SeqStopsK Fence.wide 4 Try.prog 153 #[.pointer (some ⟨ub, 0, none⟩)] (fun x : Fin i => #[.int .i64 (x.val : Int)]) (KpB ub b) (fun xs => xs = undT F i i) (fun pre => ∃ (k : Nat) (h : k < i), (F k).dn = false ∧ pre = undT F i k ++ [⟨k, h⟩]) (i + 1) w := fun l J Jx W hW hJ hJx hY h0 => by
  have HW0 := Lib.hid (HW.below hW)
  have hu0 : W.cell? ⟨ub, 0, none⟩ = some (.slice (some ⟨b, off, none⟩) i cap) := (hW.cell (p := ⟨ub, 0, none⟩) hu.lt).trans hu.cell
  have hul : ub < W.heap.size := Nat.lt_of_lt_of_le hu.lt hW.size
  refine callsIn_of_wp Try.func153 rfl trivial ?_ rfl
  simp only [Try.ntmps153, List.size_toArray, List.length_cons, List.length_nil, Nat.reduceAdd, Nat.reduceSub, Array.replicate_succ, Array.replicate_zero, List.push_toArray, List.append_toArray, List.nil_append, List.cons_append]
  clear hu
  gi_wp2
  gi_loopw [6] (fun s6 wr => ∃ k : Nat, k ≤ i ∧ s6 = .int .i64 k ∧ J (undT F i k) wr ∧ WnC wr b off i F ∧ wr.cell? ⟨ub, 0, none⟩ = some (.slice (some ⟨b, off, none⟩) i cap) ∧ ub < wr.heap.size) (fun s6 _ => i - (intOf s6).toNat)
  case atStart => exact ⟨0, by omega, rfl, h0, HW0.out, hu0, hul⟩
  case round =>
    obtain ⟨k, hk, rfl, hJs, hWk, huk, hul2⟩ := hrel
    have HWk := Lib.hid hWk
    clear hWk hu0
    by_cases hlt : k < i
    · have cd := HWk.out.dn k hlt
      have gk : (k : Int) < i := by omega
      cases hd : (F k).dn
      · rw [hd] at cd
        obtain ⟨fn, tmps, assign, body, hy, hR⟩ := hY (undT F i k) ⟨k, hlt⟩ wr hJs (by have := undT_length F i k; omega)
        have hE : undT F i (k + 1) = undT F i k ++ [⟨k, hlt⟩] := by rw [undT, dif_pos hlt, if_neg (by rw [hd]; decide)]
        have HE := Lib.hid hE
        have HD := Lib.hid hd
        clear hE hd
        gi_wp2
        refine hR.mono ?_
        rintro e W3 (⟨rfl, hJ3, hk3⟩ | ⟨rfl, hJx3⟩)
        · have hW3 : WnC W3 b off i F := ⟨(hk3.2 HWk.out.1).1, fun j hj q v hv => ((hk3.2 HWk.out.1).2 _).trans (HWk.out.2 j hj q v hv)⟩
          have hu3 := ((hk3.1 hul2).2 0).trans huk
          have hl3 := (hk3.1 hul2).1
          gi_wp2
          go_roundw
          case rel => exact ⟨k + 1, by omega, by simp, by rw [HE.out]; exact hJ3, hW3, hu3, hl3⟩
          case measure => simp [intOf]; omega
        · gi_wp2
          refine bodyPost_ret (results_none rfl _ _ _) rfl ?_
          exact ⟨⟨_, rfl⟩, .inr ⟨_, ⟨k, hlt, HD.out, rfl⟩, hJx3⟩⟩
      · rw [hd] at cd
        have hE : undT F i (k + 1) = undT F i k := by rw [undT, dif_pos hlt, if_pos hd]
        have HE := Lib.hid hE
        clear hE hd
        gi_wp2_with (first | (refine Fr.wpListIn_skipW (by rfl) ?_; simp only [Act.put, List.setIfInBounds_toArray, List.set_cons_succ, List.set_cons_zero]))
        go_roundw
        case rel => exact ⟨k + 1, by omega, by simp, by rw [HE.out]; exact hJs, HWk.out, huk, hul2⟩
        case measure => simp [intOf]; omega
    · have hki : k = i := by omega
      have HK := Lib.hid hki
      have gk : ¬ (k : Int) < i := by omega
      clear hki
      gi_wp2
      go_end0
      first | exact ⟨⟨_, rfl⟩, .inl ⟨_, rfl, HK.out ▸ hJs⟩⟩ | exact ⟨⟨_, rfl⟩, .inl (HK.out ▸ hJs)⟩
end Go.Proofs.Ytnbpgoacooddjaa
