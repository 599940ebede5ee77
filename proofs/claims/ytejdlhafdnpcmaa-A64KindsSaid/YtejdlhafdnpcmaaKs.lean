import Derived.Test.YtejdlhafdnpcmaaOps
namespace Go.Proofs.Ytejdlhafdnpcmaa
open Go.RowKit Go.Shelf
set_option linter.unusedVariables false
attribute [local go_sem] Oper.semAt_some
theorem box_past {W W' : World} {B : Nat} {t : TypeId} {v : Value} (h : Boxed W B t v) (hb : Below W.heap.size W W') : Boxed W' B t v :=
  h.kept (row := none) ⟨hb.os, hb.tape, hb.output, hb.size, fun k hk _ => hb.block k hk⟩ (by simp)
theorem ops_make (w : World) : Calls Try.prog 28 #[] w fun e w' => e = .returned (.func (.func 49) #[] #[]) ∧ w' = w := by
  go_enter Try.func28, Try.ntmps28
  go_wp2
  go_ret
  exact ⟨rfl, rfl⟩
theorem range_one {P : Program} {n : Nat} {α : Type} {g : Operand} {p : Tmp} {body : Code} {Q : Exit → Act → World → Prop} {a : Act} {w : World} (h1 : 1 ≤ n) {gf : Nat} {lb : Array Value} (hg : a.eval g = .func (.func gf) #[] lb) (eg : ∀ args w, (callFunc gf args).run P w = .ok (.enter gf args) w)
    {enc : α → Value} {Kp : World → World → Prop} {S Sp : List α → Prop} {N : Nat} {w0 : World} (hseq : SeqStopsK Fence.wide (n - 1) P gf lb (fun x => #[enc x]) Kp S Sp N w0)
    (hKt : ∀ {A B C : World}, Kp A B → Kp B C → Kp A C) (hKb : ∀ (W : World) (l : Nat) (o o' : Obj), w.heap.size ≤ l → W.heap[l]? = some o → o.isCells = false → o.isWalk = false → Kp W (W.putObj l o')) (hb0 : Below w0.heap.size w0 w)
    (I : List α → World → Prop) (Ix : Code → List α → World → Prop) (hI : OwnFrom w.heap.size I) (hIx : ∀ c, OwnFrom w.heap.size (Ix c)) (h0 : I [] w)
    (hbody : ∀ (l : Nat) (pre : List α) (x : α) (W : World), I pre W → pre.length < N → body.wpIn (Fence.wide.inRound l) (n - 1 - 1) P (ownPostG w.heap.size Kp I Ix (pre ++ [x]) W) { tmps := a.tmps.setIfInBounds p (enc x), defers := [] } W)
    (hdone : ∀ (D : Nat) (xs : List α) (W : World), w.heap.size ≤ D → S xs → I xs W → W.heap[D]? = some (.deferred (some [])) → Q .normal { a with defers := { target := .collected D, args := #[] } :: a.defers } W)
    (hstop : ∀ (D : Nat) (c : Code) (pre : List α) (W : World), w.heap.size ≤ D → Sp pre → Ix c pre W → W.heap[D]? = some (.deferred (some [])) → c.wpIn Fence.wide n P Q { a with defers := { target := .collected D, args := #[] } :: a.defers } W) :
    (Code.rangeFunc g #[p] .skip body).wpIn Fence.wide n P Q a w :=
  wpIn_rangeFunc_ownG rfl h1 hg trivial eg hseq hKt hKb hb0 (fun _ => rfl) I Ix hI hIx h0 (fun x => { tmps := a.tmps.setIfInBounds p (enc x), defers := [] })
    (fun l x W K hK => by
      refine wpIn_skip ?_
      simp only [Exit.then]
      simpa using hK) hbody hdone hstop
theorem range_as {P : Program} {n : Nat} {α : Type} {g : Operand} {p q : Tmp} {assign body : Code} {Q : Exit → Act → World → Prop} {a : Act} {w : World} (h1 : 1 ≤ n) {gf : Nat} {lb : Array Value} (hg : a.eval g = .func (.func gf) #[] lb) (eg : ∀ args w, (callFunc gf args).run P w = .ok (.enter gf args) w)
    {enc : α → Value} {Kp : World → World → Prop} {S Sp : List α → Prop} {N : Nat} {w0 : World} (hseq : SeqStopsK Fence.wide (n - 1) P gf lb (fun x => #[enc x]) Kp S Sp N w0)
    (hKt : ∀ {A B C : World}, Kp A B → Kp B C → Kp A C) (hKb : ∀ (W : World) (l : Nat) (o o' : Obj), w.heap.size ≤ l → W.heap[l]? = some o → o.isCells = false → o.isWalk = false → Kp W (W.putObj l o')) (hb0 : Below w0.heap.size w0 w)
    (I : List α → World → Prop) (Ix : Code → List α → World → Prop) (hI : OwnFrom w.heap.size I) (hIx : ∀ c, OwnFrom w.heap.size (Ix c)) (h0 : I [] w)
    (hassign : ∀ (l : Nat) (x : α) (W : World) (K : Act → World → Prop), K { tmps := (a.tmps.setIfInBounds p (enc x)).setIfInBounds q (enc x), defers := [] } W →
      assign.wpIn (Fence.wide.inRound l) (n - 1 - 1) P (Exit.then K (fun _ _ _ => False)) { tmps := a.tmps.setIfInBounds p (enc x), defers := [] } W)
    (hbody : ∀ (l : Nat) (pre : List α) (x : α) (W : World), I pre W → pre.length < N → body.wpIn (Fence.wide.inRound l) (n - 1 - 1) P (ownPostG w.heap.size Kp I Ix (pre ++ [x]) W) { tmps := (a.tmps.setIfInBounds p (enc x)).setIfInBounds q (enc x), defers := [] } W)
    (hdone : ∀ (D : Nat) (xs : List α) (W : World), w.heap.size ≤ D → S xs → I xs W → W.heap[D]? = some (.deferred (some [])) → Q .normal { a with defers := { target := .collected D, args := #[] } :: a.defers } W)
    (hstop : ∀ (D : Nat) (c : Code) (pre : List α) (W : World), w.heap.size ≤ D → Sp pre → Ix c pre W → W.heap[D]? = some (.deferred (some [])) → c.wpIn Fence.wide n P Q { a with defers := { target := .collected D, args := #[] } :: a.defers } W) :
    (Code.rangeFunc g #[p] assign body).wpIn Fence.wide n P Q a w :=
  wpIn_rangeFunc_ownG rfl h1 hg trivial eg hseq hKt hKb hb0 (fun _ => rfl) I Ix hI hIx h0 (fun x => { tmps := (a.tmps.setIfInBounds p (enc x)).setIfInBounds q (enc x), defers := [] })
    (fun l x W K hK => by simpa using hassign l x W K hK) hbody hdone hstop
theorem own_mark {β : Type} (D B : Nat) (h : D < B) : OwnFrom B (fun (_ : β) (W : World) => W.heap[D]? = some (.deferred (some []))) := fun _ W W' row hs hg hr =>
  (hg.block D (Array.getElem?_eq_some_iff.1 hs).1 (fun e => by have := (hr D e.symm).1; omega)).trans hs
set_option maxRecDepth 100000 in
set_option maxHeartbeats 4000000 in
theorem kinds_y (op stop : Int) (bM bL bS bB bK : Bool) (w : World) (h0 : 0 ≤ op) (h1 : op ≤ 42) (h18 : ∀ w, Calls Try.prog 18 #[.int .i64 op] w fun e w' => e = .returned (.bool bM) ∧ w' = w) (h19 : ∀ w, Calls Try.prog 19 #[.int .i64 op] w fun e w' => e = .returned (.bool bM) ∧ w' = w) (h20 : ∀ w, Calls Try.prog 20 #[.int .i64 op] w fun e w' => e = .returned (.bool bL) ∧ w' = w) (h21 : ∀ w, Calls Try.prog 21 #[.int .i64 op] w fun e w' => e = .returned (.bool bL) ∧ w' = w) (h22 : ∀ w, Calls Try.prog 22 #[.int .i64 op] w fun e w' => e = .returned (.bool bS) ∧ w' = w) (h23 : ∀ w, Calls Try.prog 23 #[.int .i64 op] w fun e w' => e = .returned (.bool bS) ∧ w' = w) (h24 : ∀ w, Calls Try.prog 24 #[.int .i64 op] w fun e w' => e = .returned (.bool bB) ∧ w' = w) (h25 : ∀ w, Calls Try.prog 25 #[.int .i64 op] w fun e w' => e = .returned (.bool bB) ∧ w' = w) (h26 : ∀ w, Calls Try.prog 26 #[.int .i64 op] w fun e w' => e = .returned (.bool bK) ∧ w' = w) (h27 : ∀ w, Calls Try.prog 27 #[.int .i64 op] w fun e w' => e = .returned (.bool bK) ∧ w' = w) (h17 : ∀ w, Calls Try.prog 17 #[.int .i64 op] w fun e w' => e = .returned (.string (nmI op)) ∧ Below w.heap.size w w') :
    Calls Try.prog 4 #[.int .i64 op, .int .i64 stop] w fun e w' => e = .returned (.bool true) ∧ Below w.heap.size w w' := by
  have H17 := Lib.hid h17
  have H18 := Lib.hid h18
  have H19 := Lib.hid h19
  have H20 := Lib.hid h20
  have H21 := Lib.hid h21
  have H22 := Lib.hid h22
  have H23 := Lib.hid h23
  have H24 := Lib.hid h24
  have H25 := Lib.hid h25
  have H26 := Lib.hid h26
  have H27 := Lib.hid h27
  clear h17 h18 h19 h20 h21 h22 h23 h24 h25 h26 h27
  refine (callsIn_wide (n := 5)).1 ?_
  refine callsIn_of_wp_marks Try.func4 rfl trivial ?_ rfl
  simp only [Try.ntmps4, List.size_toArray, List.length_cons, List.length_nil, Nat.reduceAdd, Nat.reduceSub, Array.replicate_succ, Array.replicate_zero, List.push_toArray, List.append_toArray, List.nil_append, List.cons_append]
  gi_wp2_with (fail)
  refine ⟨trivial, ?_⟩
  refine (callsIn_wide.2 (known_c _)).mono ?_
  rintro e w1 ⟨rfl, hb1⟩
  have hbA : Below w.heap.size w w1 := (((Below.refl _ _).alloc (Nat.le_refl _) _).alloc (by simp) _).trans (hb1.mono (by simp; omega))
  have bS1 : Boxed w1 w.heap.size 3 (.int .i64 stop) := box_past ((Boxed.new w 3 (.int .i64 stop)).alloc (.cells #[.bool false] 4)) hb1
  have bR1 : Boxed w1 (w.heap.size + 1) 4 (.bool false) := by
    have := box_past (Boxed.new (w.alloc (.cells #[.int .i64 stop] 3)) 4 (.bool false)) hb1
    rwa [World.size_alloc] at this
  clear hb1
  gi_wp2_with (first | (refine ⟨trivial, ?_⟩; gi_at_call 16; refine (callsIn_wide.2 (name_any op _)).mono ?_; rintro e w' ⟨rfl, hw⟩; obtain rfl := hw.symm))
  refine ⟨trivial, ?_⟩
  refine (callsIn_wide.2 (H17.out _)).mono ?_
  rintro e w2 ⟨rfl, hb2⟩
  have hbB : Below w.heap.size w w2 := hbA.trans (hb2.mono hbA.size)
  have bS2 := box_past bS1 hb2
  have bR2 := box_past bR1 hb2
  have hs1 := bR2.lt
  clear hb2 hbA bS1 bR1
  gi_wp2_with (first | (refine ⟨trivial, ?_⟩; gi_at_call 18; refine (callsIn_wide.2 (H18.out _)).mono ?_; rintro e w' ⟨rfl, hw⟩; obtain rfl := hw.symm) | (refine ⟨trivial, ?_⟩; gi_at_call 19; refine (callsIn_wide.2 (H19.out _)).mono ?_; rintro e w' ⟨rfl, hw⟩; obtain rfl := hw.symm) | (refine ⟨trivial, ?_⟩; gi_at_call 20; refine (callsIn_wide.2 (H20.out _)).mono ?_; rintro e w' ⟨rfl, hw⟩; obtain rfl := hw.symm) | (refine ⟨trivial, ?_⟩; gi_at_call 21; refine (callsIn_wide.2 (H21.out _)).mono ?_; rintro e w' ⟨rfl, hw⟩; obtain rfl := hw.symm) | (refine ⟨trivial, ?_⟩; gi_at_call 22; refine (callsIn_wide.2 (H22.out _)).mono ?_; rintro e w' ⟨rfl, hw⟩; obtain rfl := hw.symm) | (refine ⟨trivial, ?_⟩; gi_at_call 23; refine (callsIn_wide.2 (H23.out _)).mono ?_; rintro e w' ⟨rfl, hw⟩; obtain rfl := hw.symm) | (refine ⟨trivial, ?_⟩; gi_at_call 24; refine (callsIn_wide.2 (H24.out _)).mono ?_; rintro e w' ⟨rfl, hw⟩; obtain rfl := hw.symm) | (refine ⟨trivial, ?_⟩; gi_at_call 25; refine (callsIn_wide.2 (H25.out _)).mono ?_; rintro e w' ⟨rfl, hw⟩; obtain rfl := hw.symm) | (refine ⟨trivial, ?_⟩; gi_at_call 26; refine (callsIn_wide.2 (H26.out _)).mono ?_; rintro e w' ⟨rfl, hw⟩; obtain rfl := hw.symm) | (refine ⟨trivial, ?_⟩; gi_at_call 27; refine (callsIn_wide.2 (H27.out _)).mono ?_; rintro e w' ⟨rfl, hw⟩; obtain rfl := hw.symm) | (refine ⟨trivial, ?_⟩; gi_at_call 28; refine (callsIn_wide.2 (ops_make _)).mono ?_; rintro e w' ⟨rfl, hw⟩; obtain rfl := hw.symm))
  obtain ⟨bn, hbn⟩ : ∃ bn, bn = w2.heap.size := ⟨_, rfl⟩
  obtain ⟨W0, hW0⟩ : ∃ W0, w2.alloc (.cells #[.int .i64 0] 3) = W0 := ⟨_, rfl⟩
  have bN0 : Boxed W0 bn 3 (.int .i64 0) := by rw [← hW0, hbn]; exact Boxed.new w2 3 (.int .i64 0)
  have bS0 : Boxed W0 w.heap.size 3 (.int .i64 stop) := by rw [← hW0]; exact bS2.alloc _
  have bR0 : Boxed W0 (w.heap.size + 1) 4 (.bool false) := by rw [← hW0]; exact bR2.alloc _
  have hB0 : Below w.heap.size w W0 := by rw [← hW0]; exact hbB.alloc hbB.size _
  have hsz : W0.heap.size = bn + 1 := by rw [← hW0, hbn]; simp
  have hbl : w.heap.size + 1 < bn := by rw [hbn]; exact hs1
  rw [hW0, ← hbn]
  have HB0 := Lib.hid hB0
  clear hbB bS2 bR2 hs1 hW0 hbn hB0
  refine range_one (by decide) (gf := 49) (lb := #[]) rfl (fun args w => rfl) (ops_stops W0) (fun _ _ => trivial) (fun _ _ _ _ _ _ _ _ => trivial) (Below.refl _ _)
    (fun pre W => (Boxed W bn 3 (.int .i64 pre.length) ∧ Boxed W w.heap.size 3 (.int .i64 stop) ∧ Boxed W (w.heap.size + 1) 4 (.bool false)) ∧ Below w.heap.size w W)
    (fun c pre W => c = .exit 0 ∧ (Boxed W bn 3 (.int .i64 pre.length) ∧ Boxed W w.heap.size 3 (.int .i64 stop) ∧ Boxed W (w.heap.size + 1) 4 (.bool false)) ∧ Below w.heap.size w W)
    (OwnFrom.and (Own.from (fun s X Y row hs hg hr => ⟨boxed_own bn 3 (fun _ : List Int => .int .i64 s.length) s X Y row hs.1 hg hr, boxed_own w.heap.size 3 (fun _ : List Int => .int .i64 stop) s X Y row hs.2.1 hg hr, boxed_own (w.heap.size + 1) 4 (fun _ : List Int => .bool false) s X Y row hs.2.2 hg hr⟩) _) (ownFrom_below (Nat.le_refl _) (by omega)))
    (fun c => OwnFrom.and (ownFrom_pure _ (fun _ => c = .exit 0)) (OwnFrom.and (Own.from (fun s X Y row hs hg hr => ⟨boxed_own bn 3 (fun _ : List Int => .int .i64 s.length) s X Y row hs.1 hg hr, boxed_own w.heap.size 3 (fun _ : List Int => .int .i64 stop) s X Y row hs.2.1 hg hr, boxed_own (w.heap.size + 1) 4 (fun _ : List Int => .bool false) s X Y row hs.2.2 hg hr⟩) _) (ownFrom_below (Nat.le_refl _) (by omega))))
    ⟨⟨bN0, bS0, bR0⟩, HB0.out⟩ ?body ?done ?stop
  case body =>
    rintro l pre x W ⟨⟨bN, bS, bR⟩, hB⟩ hlt
    simp only [List.setIfInBounds_toArray, List.set_cons_succ, List.set_cons_zero]
    have cN := bN.cell
    have fN := bN.frozen
    have cS := bS.cell
    have hB' := Lib.hid (hB.setCell (p := ⟨bn, 0, none⟩) (by omega : w.heap.size ≤ bn) (.int .i64 ((pre ++ [x]).length : Nat)))
    have bN' := Lib.hid (bN.set (.int .i64 ((pre ++ [x]).length : Nat)))
    have bS' := Lib.hid (bS.other (by omega : w.heap.size ≠ bn) (.int .i64 ((pre ++ [x]).length : Nat)))
    have bR' := Lib.hid (bR.other (by omega : w.heap.size + 1 ≠ bn) (.int .i64 ((pre ++ [x]).length : Nat)))
    have hl : ((pre ++ [x]).length : Int) = pre.length + 1 := by simp
    rw [hl] at hB' bN' bS' bR'
    have cN' := bN'.out.cell
    have cS' := bS'.out.cell
    have HL := Lib.hid hl
    clear hl
    gi_wp2
    · exact ⟨(KeepsOthers.setCell _ _ _).from _, rfl, ⟨by rw [HL.out]; exact bN'.out, bS'.out, bR'.out⟩, hB'.out⟩
    · exact ⟨(KeepsOthers.setCell _ _ _).from _, trivial, ⟨by rw [HL.out]; exact bN'.out, bS'.out, bR'.out⟩, hB'.out⟩
  case done =>
    rintro D xs W hD hS ⟨⟨bN, bS, bR⟩, hB⟩ hK
    have cN := bN.cell
    have fN := bN.frozen
    have bN1 := Lib.hid (bN.set (.int .i64 0))
    have bR1 := Lib.hid (bR.other (by omega : w.heap.size + 1 ≠ bn) (.int .i64 0))
    have hB1 := Lib.hid (hB.setCell (p := ⟨bn, 0, none⟩) (by omega : w.heap.size ≤ bn) (.int .i64 0))
    have hK1 := Lib.hid ((KeepsOthers.setCell W ⟨bn, 0, none⟩ (.int .i64 0)).same D _ hK rfl)
    have hsD : D < (W.setCell ⟨bn, 0, none⟩ (.int .i64 0)).heap.size := (Array.getElem?_eq_some_iff.1 hK1.out).1
    gi_wp2
    obtain ⟨W1, hW1⟩ : ∃ W1, W.setCell ⟨bn, 0, none⟩ (.int .i64 0) = W1 := ⟨_, rfl⟩
    rw [hW1] at hsD
    rw [hW1] at bN1 bR1 hB1 hK1
    try rw [hW1]
    clear cN fN bN bS bR hB hK hW1
    refine range_as (q := 7) (by decide) (gf := 49) (lb := #[]) rfl (fun args w => rfl) (ops_stops W1) (fun _ _ => trivial) (fun _ _ _ _ _ _ _ _ => trivial) (Below.refl _ _)
      (fun pre W => ((Boxed W bn 3 (.int .i64 pre.length) ∧ Boxed W (w.heap.size + 1) 4 (.bool false)) ∧ Below w.heap.size w W) ∧ W.heap[D]? = some (.deferred (some [])))
      (fun c pre W => ∃ p x, pre = p ++ [x] ∧ x ≠ (p.length : Int))
      (OwnFrom.and (OwnFrom.and (Own.from (fun s X Y row hs hg hr => ⟨boxed_own bn 3 (fun _ : List Int => .int .i64 s.length) s X Y row hs.1 hg hr, boxed_own (w.heap.size + 1) 4 (fun _ : List Int => .bool false) s X Y row hs.2 hg hr⟩) _) (ownFrom_below (Nat.le_refl _) (by have := hB1.out.size; omega))) (own_mark D _ hsD))
      (fun c => ownFrom_pure _ _)
      ⟨⟨⟨bN1.out, bR1.out⟩, hB1.out⟩, hK1.out⟩ ?assign2 ?body2 ?done2 ?stop2
    case assign2 =>
      intro l x W K hK
      simp only [List.setIfInBounds_toArray, List.set_cons_succ, List.set_cons_zero] at hK ⊢
      gi_wp2
      exact hK
    case body2 =>
      rintro l pre x W ⟨⟨⟨bN, bR⟩, hB⟩, hK⟩ hlt
      simp only [List.setIfInBounds_toArray, List.set_cons_succ, List.set_cons_zero]
      have cN := bN.cell
      have fN := bN.frozen
      by_cases hx : x = (pre.length : Int)
      · have hl : ((pre ++ [x]).length : Int) = pre.length + 1 := by simp
        have HL := Lib.hid hl
        have hxb : (x != (pre.length : Int)) = false := by simpa using hx
        have hB' := Lib.hid (hB.setCell (p := ⟨bn, 0, none⟩) (by omega : w.heap.size ≤ bn) (.int .i64 ((pre.length : Int) + 1)))
        have bN' := Lib.hid (bN.set (.int .i64 ((pre.length : Int) + 1)))
        have bR' := Lib.hid (bR.other (by omega : w.heap.size + 1 ≠ bn) (.int .i64 ((pre.length : Int) + 1)))
        have hK' := Lib.hid ((KeepsOthers.setCell W ⟨bn, 0, none⟩ (.int .i64 ((pre.length : Int) + 1))).same D _ hK rfl)
        clear hl hx hB bR hK
        gi_wp2
        exact ⟨(KeepsOthers.setCell _ _ _).from _, trivial, ⟨⟨by rw [HL.out]; exact bN'.out, bR'.out⟩, hB'.out⟩, hK'.out⟩
      · have hxb : (x != (pre.length : Int)) = true := by simpa using hx
        have cR := bR.cell
        have fR := bR.frozen
        have HX := Lib.hid hx
        clear hx
        gi_wp2
        exact ⟨(KeepsOthers.setCell _ _ _).from _, pre, x, rfl, HX.out⟩
    case done2 =>
      rintro D2 xs W hD2 rfl ⟨⟨⟨bN, bR⟩, hB⟩, hK⟩ hK2
      have cN := bN.cell
      have hup : ((up 43).length : Int) = 43 := by rw [up_length]; rfl
      rw [hup] at cN
      have cR := bR.cell
      have fR := bR.frozen
      have bR' := Lib.hid (bR.set (.bool true))
      have hB' := Lib.hid (hB.setCell (p := ⟨w.heap.size + 1, 0, none⟩) (by simp : w.heap.size ≤ w.heap.size + 1) (.bool true))
      have hK' := Lib.hid ((KeepsOthers.setCell W ⟨w.heap.size + 1, 0, none⟩ (.bool true)).same D _ hK rfl)
      have hK2' := Lib.hid ((KeepsOthers.setCell W ⟨w.heap.size + 1, 0, none⟩ (.bool true)).same D2 _ hK2 rfl)
      clear hK hK2 bR hB bN hup
      gi_wp2
      refine ⟨by simp, .inl ⟨_, _, rfl, run_takeDeferred hK2'.out, ?_⟩⟩
      have hK3 : ((W.setCell ⟨w.heap.size + 1, 0, none⟩ (.bool true)).putObj D2 (.deferred none)).heap[D]? = some (.deferred (some [])) := (World.putObj_heap_other (by omega)).trans hK'.out
      refine ⟨by simp, .inl ⟨_, _, rfl, run_takeDeferred hK3, ?_⟩⟩
      have hs2 := hB1.out.size
      have hs0' := HB0.out.size
      have e1 := bR'.out.kept (grownBy_putObj' _ D2 (.deferred none)) (fun e => by injection e with e; omega)
      have e2 := e1.kept (grownBy_putObj' _ D (.deferred none)) (fun e => by injection e with e; omega)
      have hc5 := e2.cell
      refine ⟨.bool true, ?_, rfl, (hB'.out.trans (belowK_b (w := w) (Nat.le_refl _) _ D2 _ _ (by omega) hK2'.out rfl rfl)).trans (belowK_b (w := w) (Nat.le_refl _) _ D _ _ (by omega) hK3 rfl rfl)⟩
      simp [results, Try.f4, go_sem, hc5]
    case stop2 =>
      rintro D2 c pre W hD2 ⟨k, hk⟩ ⟨p, x, hp, hx⟩ hK2
      rw [hk] at hp
      obtain ⟨h1, h2⟩ := List.append_inj' hp rfl
      simp only [List.cons.injEq, and_true] at h2
      exact absurd (by rw [← h2, ← h1, up_length]) hx
  case stop =>
    rintro D c pre W hD hSp ⟨rfl, ⟨bN, bS, bR⟩, hB⟩ hK
    have cN := bN.cell
    have fN := bN.frozen
    have bN1 := Lib.hid (bN.set (.int .i64 0))
    have bR1 := Lib.hid (bR.other (by omega : w.heap.size + 1 ≠ bn) (.int .i64 0))
    have hB1 := Lib.hid (hB.setCell (p := ⟨bn, 0, none⟩) (by omega : w.heap.size ≤ bn) (.int .i64 0))
    have hK1 := Lib.hid ((KeepsOthers.setCell W ⟨bn, 0, none⟩ (.int .i64 0)).same D _ hK rfl)
    have hsD : D < (W.setCell ⟨bn, 0, none⟩ (.int .i64 0)).heap.size := (Array.getElem?_eq_some_iff.1 hK1.out).1
    gi_wp2
    obtain ⟨W1, hW1⟩ : ∃ W1, W.setCell ⟨bn, 0, none⟩ (.int .i64 0) = W1 := ⟨_, rfl⟩
    rw [hW1] at hsD
    rw [hW1] at bN1 bR1 hB1 hK1
    try rw [hW1]
    clear cN fN bN bS bR hB hK hW1
    refine range_as (q := 7) (by decide) (gf := 49) (lb := #[]) rfl (fun args w => rfl) (ops_stops W1) (fun _ _ => trivial) (fun _ _ _ _ _ _ _ _ => trivial) (Below.refl _ _)
      (fun pre W => ((Boxed W bn 3 (.int .i64 pre.length) ∧ Boxed W (w.heap.size + 1) 4 (.bool false)) ∧ Below w.heap.size w W) ∧ W.heap[D]? = some (.deferred (some [])))
      (fun c pre W => ∃ p x, pre = p ++ [x] ∧ x ≠ (p.length : Int))
      (OwnFrom.and (OwnFrom.and (Own.from (fun s X Y row hs hg hr => ⟨boxed_own bn 3 (fun _ : List Int => .int .i64 s.length) s X Y row hs.1 hg hr, boxed_own (w.heap.size + 1) 4 (fun _ : List Int => .bool false) s X Y row hs.2 hg hr⟩) _) (ownFrom_below (Nat.le_refl _) (by have := hB1.out.size; omega))) (own_mark D _ hsD))
      (fun c => ownFrom_pure _ _)
      ⟨⟨⟨bN1.out, bR1.out⟩, hB1.out⟩, hK1.out⟩ ?assign3 ?body3 ?done3 ?stop3
    case assign3 =>
      intro l x W K hK
      simp only [List.setIfInBounds_toArray, List.set_cons_succ, List.set_cons_zero] at hK ⊢
      gi_wp2
      exact hK
    case body3 =>
      rintro l pre x W ⟨⟨⟨bN, bR⟩, hB⟩, hK⟩ hlt
      simp only [List.setIfInBounds_toArray, List.set_cons_succ, List.set_cons_zero]
      have cN := bN.cell
      have fN := bN.frozen
      by_cases hx : x = (pre.length : Int)
      · have hl : ((pre ++ [x]).length : Int) = pre.length + 1 := by simp
        have HL := Lib.hid hl
        have hxb : (x != (pre.length : Int)) = false := by simpa using hx
        have hB' := Lib.hid (hB.setCell (p := ⟨bn, 0, none⟩) (by omega : w.heap.size ≤ bn) (.int .i64 ((pre.length : Int) + 1)))
        have bN' := Lib.hid (bN.set (.int .i64 ((pre.length : Int) + 1)))
        have bR' := Lib.hid (bR.other (by omega : w.heap.size + 1 ≠ bn) (.int .i64 ((pre.length : Int) + 1)))
        have hK' := Lib.hid ((KeepsOthers.setCell W ⟨bn, 0, none⟩ (.int .i64 ((pre.length : Int) + 1))).same D _ hK rfl)
        clear hl hx hB bR hK
        gi_wp2
        exact ⟨(KeepsOthers.setCell _ _ _).from _, trivial, ⟨⟨by rw [HL.out]; exact bN'.out, bR'.out⟩, hB'.out⟩, hK'.out⟩
      · have hxb : (x != (pre.length : Int)) = true := by simpa using hx
        have cR := bR.cell
        have fR := bR.frozen
        have HX := Lib.hid hx
        clear hx
        gi_wp2
        exact ⟨(KeepsOthers.setCell _ _ _).from _, pre, x, rfl, HX.out⟩
    case done3 =>
      rintro D2 xs W hD2 rfl ⟨⟨⟨bN, bR⟩, hB⟩, hK⟩ hK2
      have cN := bN.cell
      have hup : ((up 43).length : Int) = 43 := by rw [up_length]; rfl
      rw [hup] at cN
      have cR := bR.cell
      have fR := bR.frozen
      have bR' := Lib.hid (bR.set (.bool true))
      have hB' := Lib.hid (hB.setCell (p := ⟨w.heap.size + 1, 0, none⟩) (by simp : w.heap.size ≤ w.heap.size + 1) (.bool true))
      have hK' := Lib.hid ((KeepsOthers.setCell W ⟨w.heap.size + 1, 0, none⟩ (.bool true)).same D _ hK rfl)
      have hK2' := Lib.hid ((KeepsOthers.setCell W ⟨w.heap.size + 1, 0, none⟩ (.bool true)).same D2 _ hK2 rfl)
      clear hK hK2 bR hB bN hup
      gi_wp2
      refine ⟨by simp, .inl ⟨_, _, rfl, run_takeDeferred hK2'.out, ?_⟩⟩
      have hK3 : ((W.setCell ⟨w.heap.size + 1, 0, none⟩ (.bool true)).putObj D2 (.deferred none)).heap[D]? = some (.deferred (some [])) := (World.putObj_heap_other (by omega)).trans hK'.out
      refine ⟨by simp, .inl ⟨_, _, rfl, run_takeDeferred hK3, ?_⟩⟩
      have hs2 := hB1.out.size
      have hs0' := HB0.out.size
      have e1 := bR'.out.kept (grownBy_putObj' _ D2 (.deferred none)) (fun e => by injection e with e; omega)
      have e2 := e1.kept (grownBy_putObj' _ D (.deferred none)) (fun e => by injection e with e; omega)
      have hc5 := e2.cell
      refine ⟨.bool true, ?_, rfl, (hB'.out.trans (belowK_b (w := w) (Nat.le_refl _) _ D2 _ _ (by omega) hK2'.out rfl rfl)).trans (belowK_b (w := w) (Nat.le_refl _) _ D _ _ (by omega) hK3 rfl rfl)⟩
      simp [results, Try.f4, go_sem, hc5]
    case stop3 =>
      rintro D2 c pre W hD2 ⟨k, hk⟩ ⟨p, x, hp, hx⟩ hK2
      rw [hk] at hp
      obtain ⟨h1, h2⟩ := List.append_inj' hp rfl
      simp only [List.cons.injEq, and_true] at h2
      exact absurd (by rw [← h2, ← h1, up_length]) hx
set_option maxRecDepth 100000 in
set_option maxHeartbeats 4000000 in
theorem kinds_a (op stop : Int) (w : World) (h0 : op < 0)  (h17 : ∀ w, Calls Try.prog 17 #[.int .i64 op] w fun e w' => e = .returned (.string (nmI op)) ∧ Below w.heap.size w w') :
    Calls Try.prog 4 #[.int .i64 op, .int .i64 stop] w fun e w' => e = .returned (.bool true) ∧ Below w.heap.size w w' := by
  have H17 := Lib.hid h17
  clear h17
  refine (callsIn_wide (n := 5)).1 ?_
  refine callsIn_of_wp_marks Try.func4 rfl trivial ?_ rfl
  simp only [Try.ntmps4, List.size_toArray, List.length_cons, List.length_nil, Nat.reduceAdd, Nat.reduceSub, Array.replicate_succ, Array.replicate_zero, List.push_toArray, List.append_toArray, List.nil_append, List.cons_append]
  gi_wp2_with (fail)
  refine ⟨trivial, ?_⟩
  refine (callsIn_wide.2 (known_c _)).mono ?_
  rintro e w1 ⟨rfl, hb1⟩
  have hbA : Below w.heap.size w w1 := (((Below.refl _ _).alloc (Nat.le_refl _) _).alloc (by simp) _).trans (hb1.mono (by simp; omega))
  have bS1 : Boxed w1 w.heap.size 3 (.int .i64 stop) := box_past ((Boxed.new w 3 (.int .i64 stop)).alloc (.cells #[.bool false] 4)) hb1
  have bR1 : Boxed w1 (w.heap.size + 1) 4 (.bool false) := by
    have := box_past (Boxed.new (w.alloc (.cells #[.int .i64 stop] 3)) 4 (.bool false)) hb1
    rwa [World.size_alloc] at this
  clear hb1
  gi_wp2_with (first | (refine ⟨trivial, ?_⟩; gi_at_call 16; refine (callsIn_wide.2 (name_any op _)).mono ?_; rintro e w' ⟨rfl, hw⟩; obtain rfl := hw.symm))
  refine ⟨trivial, ?_⟩
  refine (callsIn_wide.2 (H17.out _)).mono ?_
  rintro e w2 ⟨rfl, hb2⟩
  have hbB : Below w.heap.size w w2 := hbA.trans (hb2.mono hbA.size)
  have bS2 := box_past bS1 hb2
  have bR2 := box_past bR1 hb2
  have hs1 := bR2.lt
  clear hb2 hbA bS1 bR1
  gi_wp2_with (first | (refine wpListIn_skipW (by rfl) ?_; simp only [Act.put, List.setIfInBounds_toArray, List.set_cons_succ, List.set_cons_zero]) | (refine ⟨trivial, ?_⟩; gi_at_call 28; refine (callsIn_wide.2 (ops_make _)).mono ?_; rintro e w' ⟨rfl, hw⟩; obtain rfl := hw.symm))
  obtain ⟨bn, hbn⟩ : ∃ bn, bn = w2.heap.size := ⟨_, rfl⟩
  obtain ⟨W0, hW0⟩ : ∃ W0, w2.alloc (.cells #[.int .i64 0] 3) = W0 := ⟨_, rfl⟩
  have bN0 : Boxed W0 bn 3 (.int .i64 0) := by rw [← hW0, hbn]; exact Boxed.new w2 3 (.int .i64 0)
  have bS0 : Boxed W0 w.heap.size 3 (.int .i64 stop) := by rw [← hW0]; exact bS2.alloc _
  have bR0 : Boxed W0 (w.heap.size + 1) 4 (.bool false) := by rw [← hW0]; exact bR2.alloc _
  have hB0 : Below w.heap.size w W0 := by rw [← hW0]; exact hbB.alloc hbB.size _
  have hsz : W0.heap.size = bn + 1 := by rw [← hW0, hbn]; simp
  have hbl : w.heap.size + 1 < bn := by rw [hbn]; exact hs1
  rw [hW0, ← hbn]
  have HB0 := Lib.hid hB0
  clear hbB bS2 bR2 hs1 hW0 hbn hB0
  refine range_one (by decide) (gf := 49) (lb := #[]) rfl (fun args w => rfl) (ops_stops W0) (fun _ _ => trivial) (fun _ _ _ _ _ _ _ _ => trivial) (Below.refl _ _)
    (fun pre W => (Boxed W bn 3 (.int .i64 pre.length) ∧ Boxed W w.heap.size 3 (.int .i64 stop) ∧ Boxed W (w.heap.size + 1) 4 (.bool false)) ∧ Below w.heap.size w W)
    (fun c pre W => c = .exit 0 ∧ (Boxed W bn 3 (.int .i64 pre.length) ∧ Boxed W w.heap.size 3 (.int .i64 stop) ∧ Boxed W (w.heap.size + 1) 4 (.bool false)) ∧ Below w.heap.size w W)
    (OwnFrom.and (Own.from (fun s X Y row hs hg hr => ⟨boxed_own bn 3 (fun _ : List Int => .int .i64 s.length) s X Y row hs.1 hg hr, boxed_own w.heap.size 3 (fun _ : List Int => .int .i64 stop) s X Y row hs.2.1 hg hr, boxed_own (w.heap.size + 1) 4 (fun _ : List Int => .bool false) s X Y row hs.2.2 hg hr⟩) _) (ownFrom_below (Nat.le_refl _) (by omega)))
    (fun c => OwnFrom.and (ownFrom_pure _ (fun _ => c = .exit 0)) (OwnFrom.and (Own.from (fun s X Y row hs hg hr => ⟨boxed_own bn 3 (fun _ : List Int => .int .i64 s.length) s X Y row hs.1 hg hr, boxed_own w.heap.size 3 (fun _ : List Int => .int .i64 stop) s X Y row hs.2.1 hg hr, boxed_own (w.heap.size + 1) 4 (fun _ : List Int => .bool false) s X Y row hs.2.2 hg hr⟩) _) (ownFrom_below (Nat.le_refl _) (by omega))))
    ⟨⟨bN0, bS0, bR0⟩, HB0.out⟩ ?body ?done ?stop
  case body =>
    rintro l pre x W ⟨⟨bN, bS, bR⟩, hB⟩ hlt
    simp only [List.setIfInBounds_toArray, List.set_cons_succ, List.set_cons_zero]
    have cN := bN.cell
    have fN := bN.frozen
    have cS := bS.cell
    have hB' := Lib.hid (hB.setCell (p := ⟨bn, 0, none⟩) (by omega : w.heap.size ≤ bn) (.int .i64 ((pre ++ [x]).length : Nat)))
    have bN' := Lib.hid (bN.set (.int .i64 ((pre ++ [x]).length : Nat)))
    have bS' := Lib.hid (bS.other (by omega : w.heap.size ≠ bn) (.int .i64 ((pre ++ [x]).length : Nat)))
    have bR' := Lib.hid (bR.other (by omega : w.heap.size + 1 ≠ bn) (.int .i64 ((pre ++ [x]).length : Nat)))
    have hl : ((pre ++ [x]).length : Int) = pre.length + 1 := by simp
    rw [hl] at hB' bN' bS' bR'
    have cN' := bN'.out.cell
    have cS' := bS'.out.cell
    have HL := Lib.hid hl
    clear hl
    gi_wp2
    · exact ⟨(KeepsOthers.setCell _ _ _).from _, rfl, ⟨by rw [HL.out]; exact bN'.out, bS'.out, bR'.out⟩, hB'.out⟩
    · exact ⟨(KeepsOthers.setCell _ _ _).from _, trivial, ⟨by rw [HL.out]; exact bN'.out, bS'.out, bR'.out⟩, hB'.out⟩
  case done =>
    rintro D xs W hD hS ⟨⟨bN, bS, bR⟩, hB⟩ hK
    have cN := bN.cell
    have fN := bN.frozen
    have bN1 := Lib.hid (bN.set (.int .i64 0))
    have bR1 := Lib.hid (bR.other (by omega : w.heap.size + 1 ≠ bn) (.int .i64 0))
    have hB1 := Lib.hid (hB.setCell (p := ⟨bn, 0, none⟩) (by omega : w.heap.size ≤ bn) (.int .i64 0))
    have hK1 := Lib.hid ((KeepsOthers.setCell W ⟨bn, 0, none⟩ (.int .i64 0)).same D _ hK rfl)
    have hsD : D < (W.setCell ⟨bn, 0, none⟩ (.int .i64 0)).heap.size := (Array.getElem?_eq_some_iff.1 hK1.out).1
    gi_wp2
    obtain ⟨W1, hW1⟩ : ∃ W1, W.setCell ⟨bn, 0, none⟩ (.int .i64 0) = W1 := ⟨_, rfl⟩
    rw [hW1] at hsD
    rw [hW1] at bN1 bR1 hB1 hK1
    try rw [hW1]
    clear cN fN bN bS bR hB hK hW1
    refine range_as (q := 7) (by decide) (gf := 49) (lb := #[]) rfl (fun args w => rfl) (ops_stops W1) (fun _ _ => trivial) (fun _ _ _ _ _ _ _ _ => trivial) (Below.refl _ _)
      (fun pre W => ((Boxed W bn 3 (.int .i64 pre.length) ∧ Boxed W (w.heap.size + 1) 4 (.bool false)) ∧ Below w.heap.size w W) ∧ W.heap[D]? = some (.deferred (some [])))
      (fun c pre W => ∃ p x, pre = p ++ [x] ∧ x ≠ (p.length : Int))
      (OwnFrom.and (OwnFrom.and (Own.from (fun s X Y row hs hg hr => ⟨boxed_own bn 3 (fun _ : List Int => .int .i64 s.length) s X Y row hs.1 hg hr, boxed_own (w.heap.size + 1) 4 (fun _ : List Int => .bool false) s X Y row hs.2 hg hr⟩) _) (ownFrom_below (Nat.le_refl _) (by have := hB1.out.size; omega))) (own_mark D _ hsD))
      (fun c => ownFrom_pure _ _)
      ⟨⟨⟨bN1.out, bR1.out⟩, hB1.out⟩, hK1.out⟩ ?assign2 ?body2 ?done2 ?stop2
    case assign2 =>
      intro l x W K hK
      simp only [List.setIfInBounds_toArray, List.set_cons_succ, List.set_cons_zero] at hK ⊢
      gi_wp2
      exact hK
    case body2 =>
      rintro l pre x W ⟨⟨⟨bN, bR⟩, hB⟩, hK⟩ hlt
      simp only [List.setIfInBounds_toArray, List.set_cons_succ, List.set_cons_zero]
      have cN := bN.cell
      have fN := bN.frozen
      by_cases hx : x = (pre.length : Int)
      · have hl : ((pre ++ [x]).length : Int) = pre.length + 1 := by simp
        have HL := Lib.hid hl
        have hxb : (x != (pre.length : Int)) = false := by simpa using hx
        have hB' := Lib.hid (hB.setCell (p := ⟨bn, 0, none⟩) (by omega : w.heap.size ≤ bn) (.int .i64 ((pre.length : Int) + 1)))
        have bN' := Lib.hid (bN.set (.int .i64 ((pre.length : Int) + 1)))
        have bR' := Lib.hid (bR.other (by omega : w.heap.size + 1 ≠ bn) (.int .i64 ((pre.length : Int) + 1)))
        have hK' := Lib.hid ((KeepsOthers.setCell W ⟨bn, 0, none⟩ (.int .i64 ((pre.length : Int) + 1))).same D _ hK rfl)
        clear hl hx hB bR hK
        gi_wp2
        exact ⟨(KeepsOthers.setCell _ _ _).from _, trivial, ⟨⟨by rw [HL.out]; exact bN'.out, bR'.out⟩, hB'.out⟩, hK'.out⟩
      · have hxb : (x != (pre.length : Int)) = true := by simpa using hx
        have cR := bR.cell
        have fR := bR.frozen
        have HX := Lib.hid hx
        clear hx
        gi_wp2
        exact ⟨(KeepsOthers.setCell _ _ _).from _, pre, x, rfl, HX.out⟩
    case done2 =>
      rintro D2 xs W hD2 rfl ⟨⟨⟨bN, bR⟩, hB⟩, hK⟩ hK2
      have cN := bN.cell
      have hup : ((up 43).length : Int) = 43 := by rw [up_length]; rfl
      rw [hup] at cN
      have cR := bR.cell
      have fR := bR.frozen
      have bR' := Lib.hid (bR.set (.bool true))
      have hB' := Lib.hid (hB.setCell (p := ⟨w.heap.size + 1, 0, none⟩) (by simp : w.heap.size ≤ w.heap.size + 1) (.bool true))
      have hK' := Lib.hid ((KeepsOthers.setCell W ⟨w.heap.size + 1, 0, none⟩ (.bool true)).same D _ hK rfl)
      have hK2' := Lib.hid ((KeepsOthers.setCell W ⟨w.heap.size + 1, 0, none⟩ (.bool true)).same D2 _ hK2 rfl)
      clear hK hK2 bR hB bN hup
      gi_wp2
      refine ⟨by simp, .inl ⟨_, _, rfl, run_takeDeferred hK2'.out, ?_⟩⟩
      have hK3 : ((W.setCell ⟨w.heap.size + 1, 0, none⟩ (.bool true)).putObj D2 (.deferred none)).heap[D]? = some (.deferred (some [])) := (World.putObj_heap_other (by omega)).trans hK'.out
      refine ⟨by simp, .inl ⟨_, _, rfl, run_takeDeferred hK3, ?_⟩⟩
      have hs2 := hB1.out.size
      have hs0' := HB0.out.size
      have e1 := bR'.out.kept (grownBy_putObj' _ D2 (.deferred none)) (fun e => by injection e with e; omega)
      have e2 := e1.kept (grownBy_putObj' _ D (.deferred none)) (fun e => by injection e with e; omega)
      have hc5 := e2.cell
      refine ⟨.bool true, ?_, rfl, (hB'.out.trans (belowK_b (w := w) (Nat.le_refl _) _ D2 _ _ (by omega) hK2'.out rfl rfl)).trans (belowK_b (w := w) (Nat.le_refl _) _ D _ _ (by omega) hK3 rfl rfl)⟩
      simp [results, Try.f4, go_sem, hc5]
    case stop2 =>
      rintro D2 c pre W hD2 ⟨k, hk⟩ ⟨p, x, hp, hx⟩ hK2
      rw [hk] at hp
      obtain ⟨h1, h2⟩ := List.append_inj' hp rfl
      simp only [List.cons.injEq, and_true] at h2
      exact absurd (by rw [← h2, ← h1, up_length]) hx
  case stop =>
    rintro D c pre W hD hSp ⟨rfl, ⟨bN, bS, bR⟩, hB⟩ hK
    have cN := bN.cell
    have fN := bN.frozen
    have bN1 := Lib.hid (bN.set (.int .i64 0))
    have bR1 := Lib.hid (bR.other (by omega : w.heap.size + 1 ≠ bn) (.int .i64 0))
    have hB1 := Lib.hid (hB.setCell (p := ⟨bn, 0, none⟩) (by omega : w.heap.size ≤ bn) (.int .i64 0))
    have hK1 := Lib.hid ((KeepsOthers.setCell W ⟨bn, 0, none⟩ (.int .i64 0)).same D _ hK rfl)
    have hsD : D < (W.setCell ⟨bn, 0, none⟩ (.int .i64 0)).heap.size := (Array.getElem?_eq_some_iff.1 hK1.out).1
    gi_wp2
    obtain ⟨W1, hW1⟩ : ∃ W1, W.setCell ⟨bn, 0, none⟩ (.int .i64 0) = W1 := ⟨_, rfl⟩
    rw [hW1] at hsD
    rw [hW1] at bN1 bR1 hB1 hK1
    try rw [hW1]
    clear cN fN bN bS bR hB hK hW1
    refine range_as (q := 7) (by decide) (gf := 49) (lb := #[]) rfl (fun args w => rfl) (ops_stops W1) (fun _ _ => trivial) (fun _ _ _ _ _ _ _ _ => trivial) (Below.refl _ _)
      (fun pre W => ((Boxed W bn 3 (.int .i64 pre.length) ∧ Boxed W (w.heap.size + 1) 4 (.bool false)) ∧ Below w.heap.size w W) ∧ W.heap[D]? = some (.deferred (some [])))
      (fun c pre W => ∃ p x, pre = p ++ [x] ∧ x ≠ (p.length : Int))
      (OwnFrom.and (OwnFrom.and (Own.from (fun s X Y row hs hg hr => ⟨boxed_own bn 3 (fun _ : List Int => .int .i64 s.length) s X Y row hs.1 hg hr, boxed_own (w.heap.size + 1) 4 (fun _ : List Int => .bool false) s X Y row hs.2 hg hr⟩) _) (ownFrom_below (Nat.le_refl _) (by have := hB1.out.size; omega))) (own_mark D _ hsD))
      (fun c => ownFrom_pure _ _)
      ⟨⟨⟨bN1.out, bR1.out⟩, hB1.out⟩, hK1.out⟩ ?assign3 ?body3 ?done3 ?stop3
    case assign3 =>
      intro l x W K hK
      simp only [List.setIfInBounds_toArray, List.set_cons_succ, List.set_cons_zero] at hK ⊢
      gi_wp2
      exact hK
    case body3 =>
      rintro l pre x W ⟨⟨⟨bN, bR⟩, hB⟩, hK⟩ hlt
      simp only [List.setIfInBounds_toArray, List.set_cons_succ, List.set_cons_zero]
      have cN := bN.cell
      have fN := bN.frozen
      by_cases hx : x = (pre.length : Int)
      · have hl : ((pre ++ [x]).length : Int) = pre.length + 1 := by simp
        have HL := Lib.hid hl
        have hxb : (x != (pre.length : Int)) = false := by simpa using hx
        have hB' := Lib.hid (hB.setCell (p := ⟨bn, 0, none⟩) (by omega : w.heap.size ≤ bn) (.int .i64 ((pre.length : Int) + 1)))
        have bN' := Lib.hid (bN.set (.int .i64 ((pre.length : Int) + 1)))
        have bR' := Lib.hid (bR.other (by omega : w.heap.size + 1 ≠ bn) (.int .i64 ((pre.length : Int) + 1)))
        have hK' := Lib.hid ((KeepsOthers.setCell W ⟨bn, 0, none⟩ (.int .i64 ((pre.length : Int) + 1))).same D _ hK rfl)
        clear hl hx hB bR hK
        gi_wp2
        exact ⟨(KeepsOthers.setCell _ _ _).from _, trivial, ⟨⟨by rw [HL.out]; exact bN'.out, bR'.out⟩, hB'.out⟩, hK'.out⟩
      · have hxb : (x != (pre.length : Int)) = true := by simpa using hx
        have cR := bR.cell
        have fR := bR.frozen
        have HX := Lib.hid hx
        clear hx
        gi_wp2
        exact ⟨(KeepsOthers.setCell _ _ _).from _, pre, x, rfl, HX.out⟩
    case done3 =>
      rintro D2 xs W hD2 rfl ⟨⟨⟨bN, bR⟩, hB⟩, hK⟩ hK2
      have cN := bN.cell
      have hup : ((up 43).length : Int) = 43 := by rw [up_length]; rfl
      rw [hup] at cN
      have cR := bR.cell
      have fR := bR.frozen
      have bR' := Lib.hid (bR.set (.bool true))
      have hB' := Lib.hid (hB.setCell (p := ⟨w.heap.size + 1, 0, none⟩) (by simp : w.heap.size ≤ w.heap.size + 1) (.bool true))
      have hK' := Lib.hid ((KeepsOthers.setCell W ⟨w.heap.size + 1, 0, none⟩ (.bool true)).same D _ hK rfl)
      have hK2' := Lib.hid ((KeepsOthers.setCell W ⟨w.heap.size + 1, 0, none⟩ (.bool true)).same D2 _ hK2 rfl)
      clear hK hK2 bR hB bN hup
      gi_wp2
      refine ⟨by simp, .inl ⟨_, _, rfl, run_takeDeferred hK2'.out, ?_⟩⟩
      have hK3 : ((W.setCell ⟨w.heap.size + 1, 0, none⟩ (.bool true)).putObj D2 (.deferred none)).heap[D]? = some (.deferred (some [])) := (World.putObj_heap_other (by omega)).trans hK'.out
      refine ⟨by simp, .inl ⟨_, _, rfl, run_takeDeferred hK3, ?_⟩⟩
      have hs2 := hB1.out.size
      have hs0' := HB0.out.size
      have e1 := bR'.out.kept (grownBy_putObj' _ D2 (.deferred none)) (fun e => by injection e with e; omega)
      have e2 := e1.kept (grownBy_putObj' _ D (.deferred none)) (fun e => by injection e with e; omega)
      have hc5 := e2.cell
      refine ⟨.bool true, ?_, rfl, (hB'.out.trans (belowK_b (w := w) (Nat.le_refl _) _ D2 _ _ (by omega) hK2'.out rfl rfl)).trans (belowK_b (w := w) (Nat.le_refl _) _ D _ _ (by omega) hK3 rfl rfl)⟩
      simp [results, Try.f4, go_sem, hc5]
    case stop3 =>
      rintro D2 c pre W hD2 ⟨k, hk⟩ ⟨p, x, hp, hx⟩ hK2
      rw [hk] at hp
      obtain ⟨h1, h2⟩ := List.append_inj' hp rfl
      simp only [List.cons.injEq, and_true] at h2
      exact absurd (by rw [← h2, ← h1, up_length]) hx
set_option maxRecDepth 100000 in
set_option maxHeartbeats 4000000 in
theorem kinds_b (op stop : Int) (w : World) (h0 : 0 ≤ op) (h1 : 42 < op)  (h17 : ∀ w, Calls Try.prog 17 #[.int .i64 op] w fun e w' => e = .returned (.string (nmI op)) ∧ Below w.heap.size w w') :
    Calls Try.prog 4 #[.int .i64 op, .int .i64 stop] w fun e w' => e = .returned (.bool true) ∧ Below w.heap.size w w' := by
  have H17 := Lib.hid h17
  clear h17
  refine (callsIn_wide (n := 5)).1 ?_
  refine callsIn_of_wp_marks Try.func4 rfl trivial ?_ rfl
  simp only [Try.ntmps4, List.size_toArray, List.length_cons, List.length_nil, Nat.reduceAdd, Nat.reduceSub, Array.replicate_succ, Array.replicate_zero, List.push_toArray, List.append_toArray, List.nil_append, List.cons_append]
  gi_wp2_with (fail)
  refine ⟨trivial, ?_⟩
  refine (callsIn_wide.2 (known_c _)).mono ?_
  rintro e w1 ⟨rfl, hb1⟩
  have hbA : Below w.heap.size w w1 := (((Below.refl _ _).alloc (Nat.le_refl _) _).alloc (by simp) _).trans (hb1.mono (by simp; omega))
  have bS1 : Boxed w1 w.heap.size 3 (.int .i64 stop) := box_past ((Boxed.new w 3 (.int .i64 stop)).alloc (.cells #[.bool false] 4)) hb1
  have bR1 : Boxed w1 (w.heap.size + 1) 4 (.bool false) := by
    have := box_past (Boxed.new (w.alloc (.cells #[.int .i64 stop] 3)) 4 (.bool false)) hb1
    rwa [World.size_alloc] at this
  clear hb1
  gi_wp2_with (first | (refine ⟨trivial, ?_⟩; gi_at_call 16; refine (callsIn_wide.2 (name_any op _)).mono ?_; rintro e w' ⟨rfl, hw⟩; obtain rfl := hw.symm))
  refine ⟨trivial, ?_⟩
  refine (callsIn_wide.2 (H17.out _)).mono ?_
  rintro e w2 ⟨rfl, hb2⟩
  have hbB : Below w.heap.size w w2 := hbA.trans (hb2.mono hbA.size)
  have bS2 := box_past bS1 hb2
  have bR2 := box_past bR1 hb2
  have hs1 := bR2.lt
  clear hb2 hbA bS1 bR1
  gi_wp2_with (first | (refine wpListIn_skipW (by rfl) ?_; simp only [Act.put, List.setIfInBounds_toArray, List.set_cons_succ, List.set_cons_zero]) | (refine ⟨trivial, ?_⟩; gi_at_call 28; refine (callsIn_wide.2 (ops_make _)).mono ?_; rintro e w' ⟨rfl, hw⟩; obtain rfl := hw.symm))
  obtain ⟨bn, hbn⟩ : ∃ bn, bn = w2.heap.size := ⟨_, rfl⟩
  obtain ⟨W0, hW0⟩ : ∃ W0, w2.alloc (.cells #[.int .i64 0] 3) = W0 := ⟨_, rfl⟩
  have bN0 : Boxed W0 bn 3 (.int .i64 0) := by rw [← hW0, hbn]; exact Boxed.new w2 3 (.int .i64 0)
  have bS0 : Boxed W0 w.heap.size 3 (.int .i64 stop) := by rw [← hW0]; exact bS2.alloc _
  have bR0 : Boxed W0 (w.heap.size + 1) 4 (.bool false) := by rw [← hW0]; exact bR2.alloc _
  have hB0 : Below w.heap.size w W0 := by rw [← hW0]; exact hbB.alloc hbB.size _
  have hsz : W0.heap.size = bn + 1 := by rw [← hW0, hbn]; simp
  have hbl : w.heap.size + 1 < bn := by rw [hbn]; exact hs1
  rw [hW0, ← hbn]
  have HB0 := Lib.hid hB0
  clear hbB bS2 bR2 hs1 hW0 hbn hB0
  refine range_one (by decide) (gf := 49) (lb := #[]) rfl (fun args w => rfl) (ops_stops W0) (fun _ _ => trivial) (fun _ _ _ _ _ _ _ _ => trivial) (Below.refl _ _)
    (fun pre W => (Boxed W bn 3 (.int .i64 pre.length) ∧ Boxed W w.heap.size 3 (.int .i64 stop) ∧ Boxed W (w.heap.size + 1) 4 (.bool false)) ∧ Below w.heap.size w W)
    (fun c pre W => c = .exit 0 ∧ (Boxed W bn 3 (.int .i64 pre.length) ∧ Boxed W w.heap.size 3 (.int .i64 stop) ∧ Boxed W (w.heap.size + 1) 4 (.bool false)) ∧ Below w.heap.size w W)
    (OwnFrom.and (Own.from (fun s X Y row hs hg hr => ⟨boxed_own bn 3 (fun _ : List Int => .int .i64 s.length) s X Y row hs.1 hg hr, boxed_own w.heap.size 3 (fun _ : List Int => .int .i64 stop) s X Y row hs.2.1 hg hr, boxed_own (w.heap.size + 1) 4 (fun _ : List Int => .bool false) s X Y row hs.2.2 hg hr⟩) _) (ownFrom_below (Nat.le_refl _) (by omega)))
    (fun c => OwnFrom.and (ownFrom_pure _ (fun _ => c = .exit 0)) (OwnFrom.and (Own.from (fun s X Y row hs hg hr => ⟨boxed_own bn 3 (fun _ : List Int => .int .i64 s.length) s X Y row hs.1 hg hr, boxed_own w.heap.size 3 (fun _ : List Int => .int .i64 stop) s X Y row hs.2.1 hg hr, boxed_own (w.heap.size + 1) 4 (fun _ : List Int => .bool false) s X Y row hs.2.2 hg hr⟩) _) (ownFrom_below (Nat.le_refl _) (by omega))))
    ⟨⟨bN0, bS0, bR0⟩, HB0.out⟩ ?body ?done ?stop
  case body =>
    rintro l pre x W ⟨⟨bN, bS, bR⟩, hB⟩ hlt
    simp only [List.setIfInBounds_toArray, List.set_cons_succ, List.set_cons_zero]
    have cN := bN.cell
    have fN := bN.frozen
    have cS := bS.cell
    have hB' := Lib.hid (hB.setCell (p := ⟨bn, 0, none⟩) (by omega : w.heap.size ≤ bn) (.int .i64 ((pre ++ [x]).length : Nat)))
    have bN' := Lib.hid (bN.set (.int .i64 ((pre ++ [x]).length : Nat)))
    have bS' := Lib.hid (bS.other (by omega : w.heap.size ≠ bn) (.int .i64 ((pre ++ [x]).length : Nat)))
    have bR' := Lib.hid (bR.other (by omega : w.heap.size + 1 ≠ bn) (.int .i64 ((pre ++ [x]).length : Nat)))
    have hl : ((pre ++ [x]).length : Int) = pre.length + 1 := by simp
    rw [hl] at hB' bN' bS' bR'
    have cN' := bN'.out.cell
    have cS' := bS'.out.cell
    have HL := Lib.hid hl
    clear hl
    gi_wp2
    · exact ⟨(KeepsOthers.setCell _ _ _).from _, rfl, ⟨by rw [HL.out]; exact bN'.out, bS'.out, bR'.out⟩, hB'.out⟩
    · exact ⟨(KeepsOthers.setCell _ _ _).from _, trivial, ⟨by rw [HL.out]; exact bN'.out, bS'.out, bR'.out⟩, hB'.out⟩
  case done =>
    rintro D xs W hD hS ⟨⟨bN, bS, bR⟩, hB⟩ hK
    have cN := bN.cell
    have fN := bN.frozen
    have bN1 := Lib.hid (bN.set (.int .i64 0))
    have bR1 := Lib.hid (bR.other (by omega : w.heap.size + 1 ≠ bn) (.int .i64 0))
    have hB1 := Lib.hid (hB.setCell (p := ⟨bn, 0, none⟩) (by omega : w.heap.size ≤ bn) (.int .i64 0))
    have hK1 := Lib.hid ((KeepsOthers.setCell W ⟨bn, 0, none⟩ (.int .i64 0)).same D _ hK rfl)
    have hsD : D < (W.setCell ⟨bn, 0, none⟩ (.int .i64 0)).heap.size := (Array.getElem?_eq_some_iff.1 hK1.out).1
    gi_wp2
    obtain ⟨W1, hW1⟩ : ∃ W1, W.setCell ⟨bn, 0, none⟩ (.int .i64 0) = W1 := ⟨_, rfl⟩
    rw [hW1] at hsD
    rw [hW1] at bN1 bR1 hB1 hK1
    try rw [hW1]
    clear cN fN bN bS bR hB hK hW1
    refine range_as (q := 7) (by decide) (gf := 49) (lb := #[]) rfl (fun args w => rfl) (ops_stops W1) (fun _ _ => trivial) (fun _ _ _ _ _ _ _ _ => trivial) (Below.refl _ _)
      (fun pre W => ((Boxed W bn 3 (.int .i64 pre.length) ∧ Boxed W (w.heap.size + 1) 4 (.bool false)) ∧ Below w.heap.size w W) ∧ W.heap[D]? = some (.deferred (some [])))
      (fun c pre W => ∃ p x, pre = p ++ [x] ∧ x ≠ (p.length : Int))
      (OwnFrom.and (OwnFrom.and (Own.from (fun s X Y row hs hg hr => ⟨boxed_own bn 3 (fun _ : List Int => .int .i64 s.length) s X Y row hs.1 hg hr, boxed_own (w.heap.size + 1) 4 (fun _ : List Int => .bool false) s X Y row hs.2 hg hr⟩) _) (ownFrom_below (Nat.le_refl _) (by have := hB1.out.size; omega))) (own_mark D _ hsD))
      (fun c => ownFrom_pure _ _)
      ⟨⟨⟨bN1.out, bR1.out⟩, hB1.out⟩, hK1.out⟩ ?assign2 ?body2 ?done2 ?stop2
    case assign2 =>
      intro l x W K hK
      simp only [List.setIfInBounds_toArray, List.set_cons_succ, List.set_cons_zero] at hK ⊢
      gi_wp2
      exact hK
    case body2 =>
      rintro l pre x W ⟨⟨⟨bN, bR⟩, hB⟩, hK⟩ hlt
      simp only [List.setIfInBounds_toArray, List.set_cons_succ, List.set_cons_zero]
      have cN := bN.cell
      have fN := bN.frozen
      by_cases hx : x = (pre.length : Int)
      · have hl : ((pre ++ [x]).length : Int) = pre.length + 1 := by simp
        have HL := Lib.hid hl
        have hxb : (x != (pre.length : Int)) = false := by simpa using hx
        have hB' := Lib.hid (hB.setCell (p := ⟨bn, 0, none⟩) (by omega : w.heap.size ≤ bn) (.int .i64 ((pre.length : Int) + 1)))
        have bN' := Lib.hid (bN.set (.int .i64 ((pre.length : Int) + 1)))
        have bR' := Lib.hid (bR.other (by omega : w.heap.size + 1 ≠ bn) (.int .i64 ((pre.length : Int) + 1)))
        have hK' := Lib.hid ((KeepsOthers.setCell W ⟨bn, 0, none⟩ (.int .i64 ((pre.length : Int) + 1))).same D _ hK rfl)
        clear hl hx hB bR hK
        gi_wp2
        exact ⟨(KeepsOthers.setCell _ _ _).from _, trivial, ⟨⟨by rw [HL.out]; exact bN'.out, bR'.out⟩, hB'.out⟩, hK'.out⟩
      · have hxb : (x != (pre.length : Int)) = true := by simpa using hx
        have cR := bR.cell
        have fR := bR.frozen
        have HX := Lib.hid hx
        clear hx
        gi_wp2
        exact ⟨(KeepsOthers.setCell _ _ _).from _, pre, x, rfl, HX.out⟩
    case done2 =>
      rintro D2 xs W hD2 rfl ⟨⟨⟨bN, bR⟩, hB⟩, hK⟩ hK2
      have cN := bN.cell
      have hup : ((up 43).length : Int) = 43 := by rw [up_length]; rfl
      rw [hup] at cN
      have cR := bR.cell
      have fR := bR.frozen
      have bR' := Lib.hid (bR.set (.bool true))
      have hB' := Lib.hid (hB.setCell (p := ⟨w.heap.size + 1, 0, none⟩) (by simp : w.heap.size ≤ w.heap.size + 1) (.bool true))
      have hK' := Lib.hid ((KeepsOthers.setCell W ⟨w.heap.size + 1, 0, none⟩ (.bool true)).same D _ hK rfl)
      have hK2' := Lib.hid ((KeepsOthers.setCell W ⟨w.heap.size + 1, 0, none⟩ (.bool true)).same D2 _ hK2 rfl)
      clear hK hK2 bR hB bN hup
      gi_wp2
      refine ⟨by simp, .inl ⟨_, _, rfl, run_takeDeferred hK2'.out, ?_⟩⟩
      have hK3 : ((W.setCell ⟨w.heap.size + 1, 0, none⟩ (.bool true)).putObj D2 (.deferred none)).heap[D]? = some (.deferred (some [])) := (World.putObj_heap_other (by omega)).trans hK'.out
      refine ⟨by simp, .inl ⟨_, _, rfl, run_takeDeferred hK3, ?_⟩⟩
      have hs2 := hB1.out.size
      have hs0' := HB0.out.size
      have e1 := bR'.out.kept (grownBy_putObj' _ D2 (.deferred none)) (fun e => by injection e with e; omega)
      have e2 := e1.kept (grownBy_putObj' _ D (.deferred none)) (fun e => by injection e with e; omega)
      have hc5 := e2.cell
      refine ⟨.bool true, ?_, rfl, (hB'.out.trans (belowK_b (w := w) (Nat.le_refl _) _ D2 _ _ (by omega) hK2'.out rfl rfl)).trans (belowK_b (w := w) (Nat.le_refl _) _ D _ _ (by omega) hK3 rfl rfl)⟩
      simp [results, Try.f4, go_sem, hc5]
    case stop2 =>
      rintro D2 c pre W hD2 ⟨k, hk⟩ ⟨p, x, hp, hx⟩ hK2
      rw [hk] at hp
      obtain ⟨h1, h2⟩ := List.append_inj' hp rfl
      simp only [List.cons.injEq, and_true] at h2
      exact absurd (by rw [← h2, ← h1, up_length]) hx
  case stop =>
    rintro D c pre W hD hSp ⟨rfl, ⟨bN, bS, bR⟩, hB⟩ hK
    have cN := bN.cell
    have fN := bN.frozen
    have bN1 := Lib.hid (bN.set (.int .i64 0))
    have bR1 := Lib.hid (bR.other (by omega : w.heap.size + 1 ≠ bn) (.int .i64 0))
    have hB1 := Lib.hid (hB.setCell (p := ⟨bn, 0, none⟩) (by omega : w.heap.size ≤ bn) (.int .i64 0))
    have hK1 := Lib.hid ((KeepsOthers.setCell W ⟨bn, 0, none⟩ (.int .i64 0)).same D _ hK rfl)
    have hsD : D < (W.setCell ⟨bn, 0, none⟩ (.int .i64 0)).heap.size := (Array.getElem?_eq_some_iff.1 hK1.out).1
    gi_wp2
    obtain ⟨W1, hW1⟩ : ∃ W1, W.setCell ⟨bn, 0, none⟩ (.int .i64 0) = W1 := ⟨_, rfl⟩
    rw [hW1] at hsD
    rw [hW1] at bN1 bR1 hB1 hK1
    try rw [hW1]
    clear cN fN bN bS bR hB hK hW1
    refine range_as (q := 7) (by decide) (gf := 49) (lb := #[]) rfl (fun args w => rfl) (ops_stops W1) (fun _ _ => trivial) (fun _ _ _ _ _ _ _ _ => trivial) (Below.refl _ _)
      (fun pre W => ((Boxed W bn 3 (.int .i64 pre.length) ∧ Boxed W (w.heap.size + 1) 4 (.bool false)) ∧ Below w.heap.size w W) ∧ W.heap[D]? = some (.deferred (some [])))
      (fun c pre W => ∃ p x, pre = p ++ [x] ∧ x ≠ (p.length : Int))
      (OwnFrom.and (OwnFrom.and (Own.from (fun s X Y row hs hg hr => ⟨boxed_own bn 3 (fun _ : List Int => .int .i64 s.length) s X Y row hs.1 hg hr, boxed_own (w.heap.size + 1) 4 (fun _ : List Int => .bool false) s X Y row hs.2 hg hr⟩) _) (ownFrom_below (Nat.le_refl _) (by have := hB1.out.size; omega))) (own_mark D _ hsD))
      (fun c => ownFrom_pure _ _)
      ⟨⟨⟨bN1.out, bR1.out⟩, hB1.out⟩, hK1.out⟩ ?assign3 ?body3 ?done3 ?stop3
    case assign3 =>
      intro l x W K hK
      simp only [List.setIfInBounds_toArray, List.set_cons_succ, List.set_cons_zero] at hK ⊢
      gi_wp2
      exact hK
    case body3 =>
      rintro l pre x W ⟨⟨⟨bN, bR⟩, hB⟩, hK⟩ hlt
      simp only [List.setIfInBounds_toArray, List.set_cons_succ, List.set_cons_zero]
      have cN := bN.cell
      have fN := bN.frozen
      by_cases hx : x = (pre.length : Int)
      · have hl : ((pre ++ [x]).length : Int) = pre.length + 1 := by simp
        have HL := Lib.hid hl
        have hxb : (x != (pre.length : Int)) = false := by simpa using hx
        have hB' := Lib.hid (hB.setCell (p := ⟨bn, 0, none⟩) (by omega : w.heap.size ≤ bn) (.int .i64 ((pre.length : Int) + 1)))
        have bN' := Lib.hid (bN.set (.int .i64 ((pre.length : Int) + 1)))
        have bR' := Lib.hid (bR.other (by omega : w.heap.size + 1 ≠ bn) (.int .i64 ((pre.length : Int) + 1)))
        have hK' := Lib.hid ((KeepsOthers.setCell W ⟨bn, 0, none⟩ (.int .i64 ((pre.length : Int) + 1))).same D _ hK rfl)
        clear hl hx hB bR hK
        gi_wp2
        exact ⟨(KeepsOthers.setCell _ _ _).from _, trivial, ⟨⟨by rw [HL.out]; exact bN'.out, bR'.out⟩, hB'.out⟩, hK'.out⟩
      · have hxb : (x != (pre.length : Int)) = true := by simpa using hx
        have cR := bR.cell
        have fR := bR.frozen
        have HX := Lib.hid hx
        clear hx
        gi_wp2
        exact ⟨(KeepsOthers.setCell _ _ _).from _, pre, x, rfl, HX.out⟩
    case done3 =>
      rintro D2 xs W hD2 rfl ⟨⟨⟨bN, bR⟩, hB⟩, hK⟩ hK2
      have cN := bN.cell
      have hup : ((up 43).length : Int) = 43 := by rw [up_length]; rfl
      rw [hup] at cN
      have cR := bR.cell
      have fR := bR.frozen
      have bR' := Lib.hid (bR.set (.bool true))
      have hB' := Lib.hid (hB.setCell (p := ⟨w.heap.size + 1, 0, none⟩) (by simp : w.heap.size ≤ w.heap.size + 1) (.bool true))
      have hK' := Lib.hid ((KeepsOthers.setCell W ⟨w.heap.size + 1, 0, none⟩ (.bool true)).same D _ hK rfl)
      have hK2' := Lib.hid ((KeepsOthers.setCell W ⟨w.heap.size + 1, 0, none⟩ (.bool true)).same D2 _ hK2 rfl)
      clear hK hK2 bR hB bN hup
      gi_wp2
      refine ⟨by simp, .inl ⟨_, _, rfl, run_takeDeferred hK2'.out, ?_⟩⟩
      have hK3 : ((W.setCell ⟨w.heap.size + 1, 0, none⟩ (.bool true)).putObj D2 (.deferred none)).heap[D]? = some (.deferred (some [])) := (World.putObj_heap_other (by omega)).trans hK'.out
      refine ⟨by simp, .inl ⟨_, _, rfl, run_takeDeferred hK3, ?_⟩⟩
      have hs2 := hB1.out.size
      have hs0' := HB0.out.size
      have e1 := bR'.out.kept (grownBy_putObj' _ D2 (.deferred none)) (fun e => by injection e with e; omega)
      have e2 := e1.kept (grownBy_putObj' _ D (.deferred none)) (fun e => by injection e with e; omega)
      have hc5 := e2.cell
      refine ⟨.bool true, ?_, rfl, (hB'.out.trans (belowK_b (w := w) (Nat.le_refl _) _ D2 _ _ (by omega) hK2'.out rfl rfl)).trans (belowK_b (w := w) (Nat.le_refl _) _ D _ _ (by omega) hK3 rfl rfl)⟩
      simp [results, Try.f4, go_sem, hc5]
    case stop3 =>
      rintro D2 c pre W hD2 ⟨k, hk⟩ ⟨p, x, hp, hx⟩ hK2
      rw [hk] at hp
      obtain ⟨h1, h2⟩ := List.append_inj' hp rfl
      simp only [List.cons.injEq, and_true] at h2
      exact absurd (by rw [← h2, ← h1, up_length]) hx
end Go.Proofs.Ytejdlhafdnpcmaa
