import Derived.Deep.CutBlock
import Derived.Deep.DeepCutAuto
import Derived.Test.YtnmgafaebggeiaaKa
import Derived.WalkKit
import Derived.ProofKit
import Derived.OpenShut
import Derived.Deep.QuietTactic
import Derived.BigQuiet
import Derived.Outline
import Derived.WalkSmall
import Derived.WalkLawsBesides
import Derived.WalkSpells
import Derived.BigGuardPart
import Derived.RegionTactic
import Derived.Deep.RegionHeld3
import Derived.Lib.Hide
import Derived.Deep.MidRow
import Derived.Below
import Derived.Deep.RegionWith
import Derived.Deep.OwnRows
import Derived.Deep.AppendLies
namespace Go.Proofs.Ytnmgafaebggeiaa
open Go.ChangeShapes Go.WideShapes Go.ChangeAt Go.RowKit
set_option linter.unusedVariables false
/-- A slice that reads as a list of numbers, in a block from b on. -/
def LstF (b : Nat) (w : World) (v : Value) (xs : List Int) : Prop := w.ownsRow b 3 1 v xs.length (xs.map (Value.int .i64)) ∧ (xs = [] → v = .slice none 0 0)
def SplitP (w : World) (e : Ending) (w' : World) : Prop := ∃ R v0 v1, e = .returned (.slice (some ⟨R, 0, none⟩) 4 4) ∧ w.heap.size ≤ R ∧ rowAt w' R = some #[v0, v1, .slice none 0 0, .slice none 0 0] ∧ LstF (R + 1) w' v0 [0, 2] ∧ LstF (R + 1) w' v1 [1] ∧ Below w.heap.size w w'
theorem rowAt_gr {w w' : World} {b : Nat} {C : Array Value} {row : Option Nat} (h : rowAt w b = some C) (hg : w.grownBy w' row) (hne : row ≠ some b) : rowAt w' b = some C := by
  obtain ⟨t, ht⟩ := rowAt_heap h
  exact rowAt_of ((hg.block b (rowAt_lt h) (fun e => hne e.symm)).trans ht)
theorem own_past {w W w' : World} {B n : Nat} {v : Value} {xs : List Value} (h : w.ownsRow B 3 1 v n xs) (hb : Below W.heap.size W w') (he : W.heap = w.heap) : w'.ownsRow B 3 1 v n xs := by
  obtain ⟨h1, h2⟩ := h
  refine ⟨h1, ?_⟩
  rcases h2 with h2 | ⟨g, cap, cur, hv, hB, hh, r⟩
  · exact .inl h2
  · have hl : g < W.heap.size := by rw [he]; exact (Array.getElem?_eq_some_iff.1 hh).1
    exact .inr ⟨g, cap, cur, hv, hB, by rw [hb.block g hl, he]; exact hh, r⟩
/-- What stands while the rows are filled. -/
structure SpS (E R : Nat) (v0 v1 : Value) (n0 n1 : Nat) (xs0 xs1 : List Value) (w : World) : Prop where
  ev : rowAt w E = some evs
  rr : rowAt w R = some #[v0, v1, .slice none 0 0, .slice none 0 0]
  o0 : w.ownsRow (R + 1) 3 1 v0 n0 xs0
  o1 : w.ownsRow (R + 1) 3 1 v1 n1 xs1
  el : E < R
  ne : ∀ g, v0.ownBlock = some g → v1.ownBlock ≠ some g
theorem SpS.past {E R : Nat} {v0 v1 : Value} {n0 n1 : Nat} {xs0 xs1 : List Value} {w W w' : World} (h : SpS E R v0 v1 n0 n1 xs0 xs1 w) (hb : Below W.heap.size W w') (he : W.heap = w.heap) : SpS E R v0 v1 n0 n1 xs0 xs1 w' :=
  ⟨rowAt_below h.ev hb he, rowAt_below h.rr hb he, own_past h.o0 hb he, own_past h.o1 hb he, h.el, h.ne⟩
theorem SpS.put0 {E R g cap : Nat} {v0 v1 : Value} {n0 n1 n : Nat} {xs0 xs1 xs : List Value} {w w' : World} (h : SpS E R v0 v1 n0 n1 xs0 xs1 w) (ho : w'.ownsRow (R + 1) 3 1 (.slice (some ⟨g, 0, none⟩) n cap) n xs) (hg : w.grownBy w' v0.ownBlock) (hl : v0.ownBlock = some g ∨ g = w.heap.size) :
    SpS E R (.slice (some ⟨g, 0, none⟩) n cap) v1 n n1 xs xs1 (w'.setCell ⟨R, 0, none⟩ (.slice (some ⟨g, 0, none⟩) n cap)) := by
  have hR := rowAt_lt h.rr
  have k0 : ∀ k, v0.ownBlock = some k → R + 1 ≤ k := fun k hk => (h.o0.lt k hk).1
  have k1 : ∀ k, v1.ownBlock = some k → R + 1 ≤ k ∧ k < w.heap.size := fun k hk => h.o1.lt k hk
  have hel := h.el
  have a1 := rowAt_gr h.ev hg (fun e => by have := k0 _ e; omega)
  have a2 := rowAt_gr h.rr hg (fun e => by have := k0 _ e; omega)
  have hne : v1.ownBlock = none ∨ v1.ownBlock ≠ v0.ownBlock := by
    cases e : v0.ownBlock with
    | none => cases e1 : v1.ownBlock with
      | none => exact .inl rfl
      | some k => exact .inr (by simp)
    | some k => exact .inr (h.ne k e)
  refine ⟨rowAt_set_far a1 (by omega) _ _, rowAt_set a2 0 _, ownsRow_setCell_below ho (by show R < R + 1; omega) _, ownsRow_setCell_below (h.o1.kept hg hne) (by show R < R + 1; omega) _, h.el, ?_⟩
  intro k hk e
  have hk : g = k := by simpa [Value.ownBlock] using hk
  subst hk
  rcases hl with hl | hl
  · exact h.ne _ hl e
  · have := (k1 _ e).2; omega
theorem SpS.put1 {E R g cap : Nat} {v0 v1 : Value} {n0 n1 n : Nat} {xs0 xs1 xs : List Value} {w w' : World} (h : SpS E R v0 v1 n0 n1 xs0 xs1 w) (ho : w'.ownsRow (R + 1) 3 1 (.slice (some ⟨g, 0, none⟩) n cap) n xs) (hg : w.grownBy w' v1.ownBlock) (hl : v1.ownBlock = some g ∨ g = w.heap.size) :
    SpS E R v0 (.slice (some ⟨g, 0, none⟩) n cap) n0 n xs0 xs (w'.setCell ⟨R, 1, none⟩ (.slice (some ⟨g, 0, none⟩) n cap)) := by
  have hR := rowAt_lt h.rr
  have k1 : ∀ k, v1.ownBlock = some k → R + 1 ≤ k := fun k hk => (h.o1.lt k hk).1
  have k0 : ∀ k, v0.ownBlock = some k → R + 1 ≤ k ∧ k < w.heap.size := fun k hk => h.o0.lt k hk
  have hel := h.el
  have a1 := rowAt_gr h.ev hg (fun e => by have := k1 _ e; omega)
  have a2 := rowAt_gr h.rr hg (fun e => by have := k1 _ e; omega)
  have hne : v0.ownBlock = none ∨ v0.ownBlock ≠ v1.ownBlock := by
    cases e : v0.ownBlock with
    | none => exact .inl rfl
    | some k => exact .inr (fun e1 => h.ne k e e1.symm)
  refine ⟨rowAt_set_far a1 (by omega) _ _, rowAt_set a2 1 _, ownsRow_setCell_below (h.o0.kept hg hne) (by show R < R + 1; omega) _, ownsRow_setCell_below ho (by show R < R + 1; omega) _, h.el, ?_⟩
  intro k hk e
  have e : g = k := by simpa [Value.ownBlock] using e
  subst e
  rcases hl with hl | hl
  · exact h.ne _ hk hl
  · have := (k0 _ hk).2; omega
theorem SpS.same {E R : Nat} {v0 v1 : Value} {n0 n1 : Nat} {xs0 xs1 : List Value} {w w' : World} (h : SpS E R v0 v1 n0 n1 xs0 xs1 w) (he : w'.heap = w.heap) : SpS E R v0 v1 n0 n1 xs0 xs1 w' := by
  have hr : ∀ b, rowAt w' b = rowAt w b := fun b => by unfold rowAt; rw [he]
  refine ⟨(hr _).trans h.ev, (hr _).trans h.rr, ?_, ?_, h.el, h.ne⟩
  · have := h.o0; unfold World.ownsRow at *; rw [he]; exact this
  · have := h.o1; unfold World.ownsRow at *; rw [he]; exact this
theorem info3 : (Try.prog.info? 3).map (fun i => (i.zero, i.size, i.bytes)) = some (some (.int .i64 0), 1, 8) := by kernel_rfl
def Rd (E R : Nat) (w : World) (n0 n1 : Nat) (xs0 xs1 : List Value) (wx : World) : Prop := ∃ v0 v1, SpS E R v0 v1 n0 n1 xs0 xs1 wx ∧ (n0 = 0 → v0 = .slice none 0 0) ∧ (n1 = 0 → v1 = .slice none 0 0) ∧ Below w.heap.size w wx
theorem news1 {w : World} {b : Nat} {v : Value} (h : rowAt w b = some #[v]) (j : Nat) (u : Value) (hu : [v][j]? = some u) : w.cell? ((⟨b, 0, none⟩ : Addr).add j) = some u := by
  have hj : j = 0 := by
    rcases Nat.lt_or_ge j 1 with h1 | h1
    · omega
    · rw [List.getElem?_eq_none (by simpa using h1)] at hu; cases hu
  subst hj
  have : u = v := by simpa using hu.symm
  subst this
  exact rowAt_cell h 0
set_option maxRecDepth 100000 in
set_option maxHeartbeats 8000000 in
theorem split_c (E : Nat) (w : World) (hE : rowAt w E = some evs) : Calls Try.prog 24 #[.slice (some ⟨E, 0, none⟩) 3 3, .int .i64 4, .func (.func 25) #[] #[]] w (SplitP w) := by
  obtain ⟨i0, hi, hz0, hz1, hz2⟩ := info_parts info3
  have hel := rowAt_lt hE
  have HS0 : Hid (SpS E w.heap.size (.slice none 0 0) (.slice none 0 0) 0 0 [] [] (w.alloc (.cells #[.slice none 0 0, .slice none 0 0, .slice none 0 0, .slice none 0 0] 61))) := Lib.hid ⟨rowAt_past hE _, rowAt_new _ _ _, ⟨rfl, .inl ⟨rfl, rfl⟩⟩, ⟨rfl, .inl ⟨rfl, rfl⟩⟩, hel, fun _ h => by cases h⟩
  have HB0 : Hid (Below w.heap.size w (w.alloc (.cells #[.slice none 0 0, .slice none 0 0, .slice none 0 0, .slice none 0 0] 61))) := Lib.hid ((Below.refl _ _).alloc (Nat.le_refl _) _)
  clear hE hel
  have hmk : ∀ w, (Instr.makeSlice 52 (.int .i64 4) (.int .i64 4)).run Try.prog w = .ok (.slice (some ⟨w.heap.size, 0, none⟩) 4 4) (w.alloc (.cells #[.slice none 0 0, .slice none 0 0, .slice none 0 0, .slice none 0 0] 61)) := fun _ => by kernel_rfl
  go_enter Try.func24, Try.ntmps24
  go_wp2
  clear hmk
  generalize (w.alloc (.cells #[.slice none 0 0, .slice none 0 0, .slice none 0 0, .slice none 0 0] 61)) = W0 at HS0 HB0 ⊢
  have hRd : Rd E w.heap.size w 0 0 [] [] W0 := ⟨_, _, HS0.out, fun _ => rfl, fun _ => rfl, HB0.out⟩
  clear HS0 HB0
  obtain ⟨R, hR⟩ : ∃ R, R = w.heap.size := ⟨_, rfl⟩
  rw [← hR] at hRd ⊢
  have hRw : w.heap.size ≤ R := Nat.le_of_eq hR.symm
  clear hR
  refine wp_loop_rounds 4 ?_
  rw [rounds_succ]
  obtain ⟨v0, v1, hS, hv0, hv1, hB⟩ := hRd
  have HS := Lib.hid hS
  have HB := Lib.hid hB
  have HV0 := Lib.hid hv0
  have HV1 := Lib.hid hv1
  clear hv0 hv1
  obtain ⟨W, hW⟩ : ∃ W, W = W0 := ⟨_, rfl⟩
  rw [← hW] at HS HB ⊢
  have c0 : W.cell? ⟨E, 0, none⟩ = some (.int .i64 0) := rowAt_cell HS.out.ev 0
  have c1 : W.cell? ⟨E, 1, none⟩ = some (.int .i64 5) := rowAt_cell HS.out.ev 1
  have c2 : W.cell? ⟨E, 2, none⟩ = some (.int .i64 0) := rowAt_cell HS.out.ev 2
  have c3 : W.cell? ⟨E, 3, none⟩ = some (.int .i64 0) := rowAt_cell HS.out.ev 3
  have c4 : W.cell? ⟨E, 4, none⟩ = some (.int .i64 1) := rowAt_cell HS.out.ev 4
  have c5 : W.cell? ⟨E, 5, none⟩ = some (.bool false) := rowAt_cell HS.out.ev 5
  have c6 : W.cell? ⟨E, 6, none⟩ = some (.int .i64 0) := rowAt_cell HS.out.ev 6
  have c7 : W.cell? ⟨E, 7, none⟩ = some (.int .i64 0) := rowAt_cell HS.out.ev 7
  have c8 : W.cell? ⟨E, 8, none⟩ = some (.int .i64 1) := rowAt_cell HS.out.ev 8
  clear hS hB hW
  go_upto_block 1 with (fail)
  go_cut [8] (fun s wx => Rd E R w 1 0 [.int .i64 0] [] wx)
  case first =>
    go_wp2
    have HX : Hid (rowAt (W.alloc (.cells #[.int .i64 0, .int .i64 5, .int .i64 0, .int .i64 0, .int .i64 1, .bool false, .int .i64 0, .int .i64 0, .int .i64 1] 44)) W.heap.size = some #[.int .i64 0, .int .i64 5, .int .i64 0, .int .i64 0, .int .i64 1, .bool false, .int .i64 0, .int .i64 0, .int .i64 1]) := Lib.hid (rowAt_new _ _ _)
    have HS1 := Lib.hid (HS.out.past ((Below.refl W.heap.size W).alloc (Nat.le_refl _) (.cells #[.int .i64 0, .int .i64 5, .int .i64 0, .int .i64 0, .int .i64 1, .bool false, .int .i64 0, .int .i64 0, .int .i64 1] 44)) rfl)
    have HB1 := Lib.hid (HB.out.alloc HB.out.size (.cells #[.int .i64 0, .int .i64 5, .int .i64 0, .int .i64 0, .int .i64 1, .bool false, .int .i64 0, .int .i64 0, .int .i64 1] 44))
    have HK : Hid (∀ k, v0.ownBlock = some k → k < W.heap.size) := Lib.hid (fun k hk => (HS.out.o0.lt k hk).2)
    have hRx : R < W.heap.size := rowAt_lt HS.out.rr
    clear c0 c1 c2 c3 c4 c5 c6 c7 c8 HS HB
    generalize (W.alloc (.cells #[.int .i64 0, .int .i64 5, .int .i64 0, .int .i64 0, .int .i64 1, .bool false, .int .i64 0, .int .i64 0, .int .i64 1] 44)) = U at HX HS1 HB1 ⊢
    generalize W.heap.size = x at HX HK hRx ⊢
    refine wp_region_held_drew (S := (fun w' => w'.cell? ⟨x, 0, none⟩ = some (.int .i64 0) ∧ w'.cell? ⟨x, 1, none⟩ = some (.int .i64 5) ∧ w'.cell? ⟨x, 2, none⟩ = some (.int .i64 0) ∧ w'.cell? ⟨x, 3, none⟩ = some (.int .i64 0) ∧ w'.cell? ⟨x, 4, none⟩ = some (.int .i64 1) ∧ w'.cell? ⟨x, 5, none⟩ = some (.bool false) ∧ w'.cell? ⟨x, 6, none⟩ = some (.int .i64 0) ∧ w'.cell? ⟨x, 7, none⟩ = some (.int .i64 0) ∧ w'.cell? ⟨x, 8, none⟩ = some (.int .i64 1))) (by kernel_rfl) ⟨rowAt_cell HX.out 0, rowAt_cell HX.out 1, rowAt_cell HX.out 2, rowAt_cell HX.out 3, rowAt_cell HX.out 4, rowAt_cell HX.out 5, rowAt_cell HX.out 6, rowAt_cell HX.out 7, rowAt_cell HX.out 8⟩ (fun hHeld => ?_)
    have HX0 : Hid (rowAt U.drew x = some #[.int .i64 0, .int .i64 5, .int .i64 0, .int .i64 0, .int .i64 1, .bool false, .int .i64 0, .int .i64 0, .int .i64 1]) := HX
    have HS0 := Lib.hid (HS1.out.same (w' := U.drew) rfl)
    have HB0 := Lib.hid HB1.out.drew
    clear HX HS1 HB1
    generalize U.drew = u at hHeld HX0 HS0 HB0 ⊢
    refine wpAnyH_take (i := 0) (oi := { dst := some 19, op := Op.move (Operand.tmp 7), type := 52, pos := "stamp.go:61", after := #[], guard := none }) (v := ?_) rfl (by kernel_rfl) (by kernel_rfl) (by kernel_rfl) (fun _ _ _ h => h) (Or.inl ⟨by rfl, ?_⟩) (by assumption) ?_
    rotate_left
    · (intro w0 hSw; (try dsimp only at hSw); go_split_ands; go_simp; with_reducible rfl)
    try simp only [Act.put, List.setIfInBounds_toArray, List.set_cons_zero, List.set_cons_succ]
    refine wpAnyH_take (i := 1) (oi := { dst := some 20, op := Op.move (Operand.tmp 2), type := 54, pos := "stamp.go:61", after := #[], guard := none }) (v := ?_) rfl (by kernel_rfl) (by kernel_rfl) (by kernel_rfl) (fun _ _ _ h => h) (Or.inl ⟨by rfl, ?_⟩) (by assumption) ?_
    rotate_left
    · (intro w0 hSw; (try dsimp only at hSw); go_split_ands; go_simp; with_reducible rfl)
    try simp only [Act.put, List.setIfInBounds_toArray, List.set_cons_zero, List.set_cons_succ]
    refine wpAnyH_take (i := 2) (oi := { dst := some 21, op := Op.load 44 (Operand.tmp 9), type := 44, pos := "stamp.go:61", after := #[], guard := none }) (v := ?_) rfl (by kernel_rfl) (by kernel_rfl) (by kernel_rfl) (fun _ _ _ h => h) (Or.inl ⟨by rfl, ?_⟩) (by assumption) ?_
    rotate_left
    · (intro w0 hSw; (try dsimp only at hSw); go_split_ands; go_simp; with_reducible rfl)
    try simp only [Act.put, List.setIfInBounds_toArray, List.set_cons_zero, List.set_cons_succ]
    refine wpAnyH_take (i := 4) (oi := { dst := some 23, op := Op.move (Operand.tmp 7), type := 52, pos := "stamp.go:61", after := #[], guard := none }) (v := ?_) rfl (by kernel_rfl) (by kernel_rfl) (by kernel_rfl) (fun _ _ _ h => h) (Or.inl ⟨by rfl, ?_⟩) (by assumption) ?_
    rotate_left
    · (intro w0 hSw; (try dsimp only at hSw); go_split_ands; go_simp; with_reducible rfl)
    try simp only [Act.put, List.setIfInBounds_toArray, List.set_cons_zero, List.set_cons_succ]
    refine wpAnyH_take (i := 5) (oi := { dst := some 24, op := Op.move (Operand.tmp 2), type := 54, pos := "stamp.go:61", after := #[], guard := none }) (v := ?_) rfl (by kernel_rfl) (by kernel_rfl) (by kernel_rfl) (fun _ _ _ h => h) (Or.inl ⟨by rfl, ?_⟩) (by assumption) ?_
    rotate_left
    · (intro w0 hSw; (try dsimp only at hSw); go_split_ands; go_simp; with_reducible rfl)
    try simp only [Act.put, List.setIfInBounds_toArray, List.set_cons_zero, List.set_cons_succ]
    refine wpAnyH_take (i := 6) (oi := { dst := some 25, op := Op.load 44 (Operand.tmp 9), type := 44, pos := "stamp.go:61", after := #[], guard := none }) (v := ?_) rfl (by kernel_rfl) (by kernel_rfl) (by kernel_rfl) (fun _ _ _ h => h) (Or.inl ⟨by rfl, ?_⟩) (by assumption) ?_
    rotate_left
    · (intro w0 hSw; (try dsimp only at hSw); go_split_ands; go_simp; with_reducible rfl)
    try simp only [Act.put, List.setIfInBounds_toArray, List.set_cons_zero, List.set_cons_succ]
    refine wpAnyH_take (i := 10) (oi := { dst := some 29, op := Op.move (Operand.tmp 8), type := 3, pos := "stamp.go:61", after := #[], guard := none }) (v := ?_) rfl (by kernel_rfl) (by kernel_rfl) (by kernel_rfl) (fun _ _ _ h => h) (Or.inl ⟨by rfl, ?_⟩) (by assumption) ?_
    rotate_left
    · (intro w0 hSw; (try dsimp only at hSw); go_split_ands; go_simp; with_reducible rfl)
    try simp only [Act.put, List.setIfInBounds_toArray, List.set_cons_zero, List.set_cons_succ]
    refine wpAnyH_ready (rs := [3, 11]) (by kernel_rfl) (by simp) ?_
    refine AllReadyH.cons (o := { dst := some 22, op := Op.call { callee := Callee.value (Operand.tmp 20), args := #[Operand.tmp 21], argTypes := #[44] }, type := 3, pos := "stamp.go:61", after := #[{ on := 1, ground := Ground.data }, { on := 2, ground := Ground.data }], guard := none }) rfl (fun K hK => ?_) (AllReadyH.cons (o := { dst := some 30, op := Op.buildSlice 61 1 #[(0, Operand.tmp 29)], type := 61, pos := "stamp.go:61", after := #[{ on := 10, ground := Ground.data }], guard := none }) rfl (fun K hK => ?_) AllReadyH.nil)
    · go_simp
      go_at_call 25
      refine (thread2_0 _).mono ?_
      rintro e u1 ⟨rfl, hb⟩
      replace HX0 := Lib.hid (rowAt_below HX0.out hb rfl)
      replace HS0 := Lib.hid (HS0.out.past hb rfl)
      replace HB0 := Lib.hid (below_step HB0.out hb rfl rfl rfl rfl)
      clear hb
      refine hK.out _ _ ⟨rowAt_cell HX0.out 0, rowAt_cell HX0.out 1, rowAt_cell HX0.out 2, rowAt_cell HX0.out 3, rowAt_cell HX0.out 4, rowAt_cell HX0.out 5, rowAt_cell HX0.out 6, rowAt_cell HX0.out 7, rowAt_cell HX0.out 8⟩ (fun hHeld => ?_)
      clear hK K
      try simp only [Act.put, List.setIfInBounds_toArray, List.set_cons_zero, List.set_cons_succ]
      refine wpAnyH_ready (rs := [7, 11]) (by kernel_rfl) (by simp) ?_
      refine AllReadyH.cons (o := { dst := some 26, op := Op.call { callee := Callee.value (Operand.tmp 24), args := #[Operand.tmp 25], argTypes := #[44] }, type := 3, pos := "stamp.go:61", after := #[{ on := 5, ground := Ground.data }, { on := 6, ground := Ground.data }, { on := 3, ground := Ground.chain }], guard := none }) rfl (fun K hK => ?_) (AllReadyH.cons (o := { dst := some 30, op := Op.buildSlice 61 1 #[(0, Operand.tmp 29)], type := 61, pos := "stamp.go:61", after := #[{ on := 10, ground := Ground.data }], guard := none }) rfl (fun K hK => ?_) AllReadyH.nil)
      · go_simp
        go_at_call 25
        refine (thread2_0 _).mono ?_
        rintro e u2 ⟨rfl, hb⟩
        replace HX0 := Lib.hid (rowAt_below HX0.out hb rfl)
        replace HS0 := Lib.hid (HS0.out.past hb rfl)
        replace HB0 := Lib.hid (below_step HB0.out hb rfl rfl rfl rfl)
        clear hb
        refine hK.out _ _ ⟨rowAt_cell HX0.out 0, rowAt_cell HX0.out 1, rowAt_cell HX0.out 2, rowAt_cell HX0.out 3, rowAt_cell HX0.out 4, rowAt_cell HX0.out 5, rowAt_cell HX0.out 6, rowAt_cell HX0.out 7, rowAt_cell HX0.out 8⟩ (fun hHeld => ?_)
        clear hK K
        try simp only [Act.put, List.setIfInBounds_toArray, List.set_cons_zero, List.set_cons_succ]
        refine wpAnyH_take (i := 8) (oi := { dst := some 27, op := Op.indexAddr 52 (Operand.tmp 23) (Operand.tmp 26), type := 0, pos := "stamp.go:61", after := #[{ on := 4, ground := Ground.data }, { on := 7, ground := Ground.data }], guard := none }) (v := ?_) rfl (by kernel_rfl) (by kernel_rfl) (by kernel_rfl) (fun _ _ _ h => h) (Or.inl ⟨by rfl, ?_⟩) (by assumption) ?_
        rotate_left
        · (intro w0 hSw; (try dsimp only at hSw); go_split_ands; go_simp; with_reducible rfl)
        try simp only [Act.put, List.setIfInBounds_toArray, List.set_cons_zero, List.set_cons_succ]
        refine wpAnyH_ready (rs := [9, 11]) (by kernel_rfl) (by simp) ?_
        refine AllReadyH.cons (o := { dst := some 28, op := Op.load 61 (Operand.tmp 27), type := 61, pos := "stamp.go:61", after := #[{ on := 8, ground := Ground.data }], guard := none }) rfl (fun K hK => ?_) (AllReadyH.cons (o := { dst := some 30, op := Op.buildSlice 61 1 #[(0, Operand.tmp 29)], type := 61, pos := "stamp.go:61", after := #[{ on := 10, ground := Ground.data }], guard := none }) rfl (fun K hK => ?_) AllReadyH.nil)
        · have hr : u2.cell? ⟨R, 0, none⟩ = some v0 := rowAt_cell HS0.out.rr 0
          go_simp
          refine hK.out _ _ ⟨rowAt_cell HX0.out 0, rowAt_cell HX0.out 1, rowAt_cell HX0.out 2, rowAt_cell HX0.out 3, rowAt_cell HX0.out 4, rowAt_cell HX0.out 5, rowAt_cell HX0.out 6, rowAt_cell HX0.out 7, rowAt_cell HX0.out 8⟩ (fun hHeld => ?_)
          clear hK K hr
          try simp only [Act.put, List.setIfInBounds_toArray, List.set_cons_zero, List.set_cons_succ]
          refine wpAnyH_ready (rs := [11]) (by kernel_rfl) (by simp) ?_
          refine AllReadyH.cons (o := { dst := some 30, op := Op.buildSlice 61 1 #[(0, Operand.tmp 29)], type := 61, pos := "stamp.go:61", after := #[{ on := 10, ground := Ground.data }], guard := none }) rfl (fun K hK => ?_) AllReadyH.nil
          go_simp
          have HN : Hid (rowAt (u2.alloc (.cells #[.int .i64 0] 3)) u2.heap.size = some #[.int .i64 0]) := Lib.hid (rowAt_new _ _ _)
          replace HX0 := Lib.hid (rowAt_past HX0.out (.cells #[.int .i64 0] 3))
          replace HS0 := Lib.hid (HS0.out.past ((Below.refl u2.heap.size u2).alloc (Nat.le_refl _) (.cells #[.int .i64 0] 3)) rfl)
          replace HB0 := Lib.hid (HB0.out.alloc HB0.out.size (.cells #[.int .i64 0] 3))
          refine hK.out _ _ ⟨rowAt_cell HX0.out 0, rowAt_cell HX0.out 1, rowAt_cell HX0.out 2, rowAt_cell HX0.out 3, rowAt_cell HX0.out 4, rowAt_cell HX0.out 5, rowAt_cell HX0.out 6, rowAt_cell HX0.out 7, rowAt_cell HX0.out 8⟩ (fun hHeld => ?_)
          clear hK K
          try simp only [Act.put, List.setIfInBounds_toArray, List.set_cons_zero, List.set_cons_succ]
          generalize (u2.alloc (.cells #[.int .i64 0] 3)) = u4 at hHeld HN HX0 HS0 HB0 ⊢
          generalize u2.heap.size = nb at HN ⊢
          refine wpAnyH_ready (rs := [12]) (by kernel_rfl) (by simp) ?_
          refine AllReadyH.cons (o := { dst := some 31, op := Op.call { callee := Callee.builtin Builtin.append, args := #[Operand.tmp 28, Operand.tmp 30], argTypes := #[61, 61] }, type := 61, pos := "stamp.go:61", after := #[{ on := 9, ground := Ground.data }, { on := 11, ground := Ground.data }, { on := 7, ground := Ground.chain }], guard := none }) rfl (fun K hK => ?_) AllReadyH.nil
          refine step_append_lies _ (by rfl) (.tmp 28) (.tmp 30) 61 (by rfl) (R + 1) 3 i0 (.int .i64 0) 1 8 Try.underlying61 hi hz0 hz1 hz2 rfl (by omega) v0 0 [] rfl HS0.out.o0 ⟨nb, 0, none⟩ 1 1 [.int .i64 0] rfl rfl (fun j u' hu => news1 HN.out j u' hu) (by intro u' hu; simp only [List.mem_singleton] at hu; subst hu; rfl) (by omega) (by decide) (by decide) (rowAt_lt HS0.out.rr) _ rfl ?_
          intro g cap w9 ho hg hl hlt9
          have hr9 := rowAt_gr HS0.out.rr hg (fun e => by have := (HS0.out.o0.lt _ e).1; omega)
          have HX9 : Hid (rowAt w9 x = some #[.int .i64 0, .int .i64 5, .int .i64 0, .int .i64 0, .int .i64 1, .bool false, .int .i64 0, .int .i64 0, .int .i64 1]) := Lib.hid (rowAt_gr HX0.out hg (fun e => by have := HK.out _ e; omega))
          have HS9 := Lib.hid (HS0.out.put0 ho hg hl)
          have HB9 : Hid (Below w.heap.size w (w9.setCell ⟨R, 0, none⟩ (.slice (some ⟨g, 0, none⟩) 1 cap))) := Lib.hid ((HB0.out.grown hg HB0.out.size (fun k hk => by have := (HS0.out.o0.lt k hk).1; omega)).setCell (p := ⟨R, 0, none⟩) hRw _)
          have hc9 : w9.cell? ⟨R, 0, none⟩ = some v0 := rowAt_cell hr9 0
          have hf9 : w9.frozen? ⟨R, 0, none⟩ = false := rowAt_frz hr9 0
          refine hK.out _ _ ⟨rowAt_cell HX9.out 0, rowAt_cell HX9.out 1, rowAt_cell HX9.out 2, rowAt_cell HX9.out 3, rowAt_cell HX9.out 4, rowAt_cell HX9.out 5, rowAt_cell HX9.out 6, rowAt_cell HX9.out 7, rowAt_cell HX9.out 8⟩ (fun hHeld => ?_)
          clear hK K
          try simp only [Act.put, List.setIfInBounds_toArray, List.set_cons_zero, List.set_cons_succ]
          refine wpAnyH_take (i := 13) (oi := { dst := some 32, op := Op.indexAddr 52 (Operand.tmp 19) (Operand.tmp 22), type := 0, pos := "stamp.go:61", after := #[{ on := 0, ground := Ground.data }, { on := 3, ground := Ground.data }, { on := 0, ground := Ground.phase }, { on := 1, ground := Ground.phase }, { on := 2, ground := Ground.phase }, { on := 3, ground := Ground.phase }, { on := 4, ground := Ground.phase }, { on := 5, ground := Ground.phase }, { on := 6, ground := Ground.phase }, { on := 7, ground := Ground.phase }, { on := 8, ground := Ground.phase }, { on := 9, ground := Ground.phase }, { on := 10, ground := Ground.phase }, { on := 11, ground := Ground.phase }, { on := 12, ground := Ground.phase }], guard := none }) (v := ?_) rfl (by kernel_rfl) (by kernel_rfl) (by kernel_rfl) (fun _ _ _ h => h) (Or.inl ⟨by rfl, ?_⟩) (by assumption) ?_
          rotate_left
          · (intro w0 hSw; (try dsimp only at hSw); go_split_ands; go_simp; with_reducible rfl)
          try simp only [Act.put, List.setIfInBounds_toArray, List.set_cons_zero, List.set_cons_succ]
          refine wpAnyH_ready (rs := [14]) (by kernel_rfl) (by simp) ?_
          refine AllReadyH.cons (o := { dst := none, op := Op.store 61 (Operand.tmp 32) (Operand.tmp 31), type := 0, pos := "stamp.go:61", after := #[{ on := 13, ground := Ground.data }, { on := 12, ground := Ground.data }, { on := 12, ground := Ground.chain }, { on := 0, ground := Ground.phase }, { on := 1, ground := Ground.phase }, { on := 2, ground := Ground.phase }, { on := 3, ground := Ground.phase }, { on := 4, ground := Ground.phase }, { on := 5, ground := Ground.phase }, { on := 6, ground := Ground.phase }, { on := 7, ground := Ground.phase }, { on := 8, ground := Ground.phase }, { on := 9, ground := Ground.phase }, { on := 10, ground := Ground.phase }, { on := 11, ground := Ground.phase }, { on := 12, ground := Ground.phase }], guard := none }) rfl (fun K hK => ?_) AllReadyH.nil
          go_simp
          have HX8 : Hid (rowAt (w9.setCell ⟨R, 0, none⟩ (.slice (some ⟨g, 0, none⟩) 1 cap)) x = some #[.int .i64 0, .int .i64 5, .int .i64 0, .int .i64 0, .int .i64 1, .bool false, .int .i64 0, .int .i64 0, .int .i64 1]) := Lib.hid (rowAt_set_far HX9.out (by omega) _ _)
          refine hK.out _ _ ⟨rowAt_cell HX8.out 0, rowAt_cell HX8.out 1, rowAt_cell HX8.out 2, rowAt_cell HX8.out 3, rowAt_cell HX8.out 4, rowAt_cell HX8.out 5, rowAt_cell HX8.out 6, rowAt_cell HX8.out 7, rowAt_cell HX8.out 8⟩ (fun hHeld => ?_)
          clear hK K
          try simp only [Act.put, List.setIfInBounds_toArray, List.set_cons_zero, List.set_cons_succ]
          refine wpAnyH_done (by kernel_rfl) ?_ _
          clear hHeld hc9 hf9 hr9
          go_wp2_with fail
          go_meet
          case rel => exact ⟨_, _, HS9.out, (fun h => by omega), (fun h => by first | exact HV1.out h | exact HV1.out trivial), HB9.out⟩
        · go_simp
          have HN : Hid (rowAt (u2.alloc (.cells #[.int .i64 0] 3)) u2.heap.size = some #[.int .i64 0]) := Lib.hid (rowAt_new _ _ _)
          replace HX0 := Lib.hid (rowAt_past HX0.out (.cells #[.int .i64 0] 3))
          replace HS0 := Lib.hid (HS0.out.past ((Below.refl u2.heap.size u2).alloc (Nat.le_refl _) (.cells #[.int .i64 0] 3)) rfl)
          replace HB0 := Lib.hid (HB0.out.alloc HB0.out.size (.cells #[.int .i64 0] 3))
          refine hK.out _ _ ⟨rowAt_cell HX0.out 0, rowAt_cell HX0.out 1, rowAt_cell HX0.out 2, rowAt_cell HX0.out 3, rowAt_cell HX0.out 4, rowAt_cell HX0.out 5, rowAt_cell HX0.out 6, rowAt_cell HX0.out 7, rowAt_cell HX0.out 8⟩ (fun hHeld => ?_)
          clear hK K
          try simp only [Act.put, List.setIfInBounds_toArray, List.set_cons_zero, List.set_cons_succ]
          generalize (u2.alloc (.cells #[.int .i64 0] 3)) = u6 at hHeld HN HX0 HS0 HB0 ⊢
          generalize u2.heap.size = nb at HN ⊢
          refine wpAnyH_ready (rs := [9]) (by kernel_rfl) (by simp) ?_
          refine AllReadyH.cons (o := { dst := some 28, op := Op.load 61 (Operand.tmp 27), type := 61, pos := "stamp.go:61", after := #[{ on := 8, ground := Ground.data }], guard := none }) rfl (fun K hK => ?_) AllReadyH.nil
          have hr : u6.cell? ⟨R, 0, none⟩ = some v0 := rowAt_cell HS0.out.rr 0
          go_simp
          refine hK.out _ _ ⟨rowAt_cell HX0.out 0, rowAt_cell HX0.out 1, rowAt_cell HX0.out 2, rowAt_cell HX0.out 3, rowAt_cell HX0.out 4, rowAt_cell HX0.out 5, rowAt_cell HX0.out 6, rowAt_cell HX0.out 7, rowAt_cell HX0.out 8⟩ (fun hHeld => ?_)
          clear hK K hr
          try simp only [Act.put, List.setIfInBounds_toArray, List.set_cons_zero, List.set_cons_succ]
          refine wpAnyH_ready (rs := [12]) (by kernel_rfl) (by simp) ?_
          refine AllReadyH.cons (o := { dst := some 31, op := Op.call { callee := Callee.builtin Builtin.append, args := #[Operand.tmp 28, Operand.tmp 30], argTypes := #[61, 61] }, type := 61, pos := "stamp.go:61", after := #[{ on := 9, ground := Ground.data }, { on := 11, ground := Ground.data }, { on := 7, ground := Ground.chain }], guard := none }) rfl (fun K hK => ?_) AllReadyH.nil
          refine step_append_lies _ (by rfl) (.tmp 28) (.tmp 30) 61 (by rfl) (R + 1) 3 i0 (.int .i64 0) 1 8 Try.underlying61 hi hz0 hz1 hz2 rfl (by omega) v0 0 [] rfl HS0.out.o0 ⟨nb, 0, none⟩ 1 1 [.int .i64 0] rfl rfl (fun j u' hu => news1 HN.out j u' hu) (by intro u' hu; simp only [List.mem_singleton] at hu; subst hu; rfl) (by omega) (by decide) (by decide) (rowAt_lt HS0.out.rr) _ rfl ?_
          intro g cap w9 ho hg hl hlt9
          have hr9 := rowAt_gr HS0.out.rr hg (fun e => by have := (HS0.out.o0.lt _ e).1; omega)
          have HX9 : Hid (rowAt w9 x = some #[.int .i64 0, .int .i64 5, .int .i64 0, .int .i64 0, .int .i64 1, .bool false, .int .i64 0, .int .i64 0, .int .i64 1]) := Lib.hid (rowAt_gr HX0.out hg (fun e => by have := HK.out _ e; omega))
          have HS9 := Lib.hid (HS0.out.put0 ho hg hl)
          have HB9 : Hid (Below w.heap.size w (w9.setCell ⟨R, 0, none⟩ (.slice (some ⟨g, 0, none⟩) 1 cap))) := Lib.hid ((HB0.out.grown hg HB0.out.size (fun k hk => by have := (HS0.out.o0.lt k hk).1; omega)).setCell (p := ⟨R, 0, none⟩) hRw _)
          have hc9 : w9.cell? ⟨R, 0, none⟩ = some v0 := rowAt_cell hr9 0
          have hf9 : w9.frozen? ⟨R, 0, none⟩ = false := rowAt_frz hr9 0
          refine hK.out _ _ ⟨rowAt_cell HX9.out 0, rowAt_cell HX9.out 1, rowAt_cell HX9.out 2, rowAt_cell HX9.out 3, rowAt_cell HX9.out 4, rowAt_cell HX9.out 5, rowAt_cell HX9.out 6, rowAt_cell HX9.out 7, rowAt_cell HX9.out 8⟩ (fun hHeld => ?_)
          clear hK K
          try simp only [Act.put, List.setIfInBounds_toArray, List.set_cons_zero, List.set_cons_succ]
          refine wpAnyH_take (i := 13) (oi := { dst := some 32, op := Op.indexAddr 52 (Operand.tmp 19) (Operand.tmp 22), type := 0, pos := "stamp.go:61", after := #[{ on := 0, ground := Ground.data }, { on := 3, ground := Ground.data }, { on := 0, ground := Ground.phase }, { on := 1, ground := Ground.phase }, { on := 2, ground := Ground.phase }, { on := 3, ground := Ground.phase }, { on := 4, ground := Ground.phase }, { on := 5, ground := Ground.phase }, { on := 6, ground := Ground.phase }, { on := 7, ground := Ground.phase }, { on := 8, ground := Ground.phase }, { on := 9, ground := Ground.phase }, { on := 10, ground := Ground.phase }, { on := 11, ground := Ground.phase }, { on := 12, ground := Ground.phase }], guard := none }) (v := ?_) rfl (by kernel_rfl) (by kernel_rfl) (by kernel_rfl) (fun _ _ _ h => h) (Or.inl ⟨by rfl, ?_⟩) (by assumption) ?_
          rotate_left
          · (intro w0 hSw; (try dsimp only at hSw); go_split_ands; go_simp; with_reducible rfl)
          try simp only [Act.put, List.setIfInBounds_toArray, List.set_cons_zero, List.set_cons_succ]
          refine wpAnyH_ready (rs := [14]) (by kernel_rfl) (by simp) ?_
          refine AllReadyH.cons (o := { dst := none, op := Op.store 61 (Operand.tmp 32) (Operand.tmp 31), type := 0, pos := "stamp.go:61", after := #[{ on := 13, ground := Ground.data }, { on := 12, ground := Ground.data }, { on := 12, ground := Ground.chain }, { on := 0, ground := Ground.phase }, { on := 1, ground := Ground.phase }, { on := 2, ground := Ground.phase }, { on := 3, ground := Ground.phase }, { on := 4, ground := Ground.phase }, { on := 5, ground := Ground.phase }, { on := 6, ground := Ground.phase }, { on := 7, ground := Ground.phase }, { on := 8, ground := Ground.phase }, { on := 9, ground := Ground.phase }, { on := 10, ground := Ground.phase }, { on := 11, ground := Ground.phase }, { on := 12, ground := Ground.phase }], guard := none }) rfl (fun K hK => ?_) AllReadyH.nil
          go_simp
          have HX8 : Hid (rowAt (w9.setCell ⟨R, 0, none⟩ (.slice (some ⟨g, 0, none⟩) 1 cap)) x = some #[.int .i64 0, .int .i64 5, .int .i64 0, .int .i64 0, .int .i64 1, .bool false, .int .i64 0, .int .i64 0, .int .i64 1]) := Lib.hid (rowAt_set_far HX9.out (by omega) _ _)
          refine hK.out _ _ ⟨rowAt_cell HX8.out 0, rowAt_cell HX8.out 1, rowAt_cell HX8.out 2, rowAt_cell HX8.out 3, rowAt_cell HX8.out 4, rowAt_cell HX8.out 5, rowAt_cell HX8.out 6, rowAt_cell HX8.out 7, rowAt_cell HX8.out 8⟩ (fun hHeld => ?_)
          clear hK K
          try simp only [Act.put, List.setIfInBounds_toArray, List.set_cons_zero, List.set_cons_succ]
          refine wpAnyH_done (by kernel_rfl) ?_ _
          clear hHeld hc9 hf9 hr9
          go_wp2_with fail
          go_meet
          case rel => exact ⟨_, _, HS9.out, (fun h => by omega), (fun h => by first | exact HV1.out h | exact HV1.out trivial), HB9.out⟩
      · go_simp
        have HN : Hid (rowAt (u1.alloc (.cells #[.int .i64 0] 3)) u1.heap.size = some #[.int .i64 0]) := Lib.hid (rowAt_new _ _ _)
        replace HX0 := Lib.hid (rowAt_past HX0.out (.cells #[.int .i64 0] 3))
        replace HS0 := Lib.hid (HS0.out.past ((Below.refl u1.heap.size u1).alloc (Nat.le_refl _) (.cells #[.int .i64 0] 3)) rfl)
        replace HB0 := Lib.hid (HB0.out.alloc HB0.out.size (.cells #[.int .i64 0] 3))
        refine hK.out _ _ ⟨rowAt_cell HX0.out 0, rowAt_cell HX0.out 1, rowAt_cell HX0.out 2, rowAt_cell HX0.out 3, rowAt_cell HX0.out 4, rowAt_cell HX0.out 5, rowAt_cell HX0.out 6, rowAt_cell HX0.out 7, rowAt_cell HX0.out 8⟩ (fun hHeld => ?_)
        clear hK K
        try simp only [Act.put, List.setIfInBounds_toArray, List.set_cons_zero, List.set_cons_succ]
        generalize (u1.alloc (.cells #[.int .i64 0] 3)) = u9 at hHeld HN HX0 HS0 HB0 ⊢
        generalize u1.heap.size = nb at HN ⊢
        refine wpAnyH_ready (rs := [7]) (by kernel_rfl) (by simp) ?_
        refine AllReadyH.cons (o := { dst := some 26, op := Op.call { callee := Callee.value (Operand.tmp 24), args := #[Operand.tmp 25], argTypes := #[44] }, type := 3, pos := "stamp.go:61", after := #[{ on := 5, ground := Ground.data }, { on := 6, ground := Ground.data }, { on := 3, ground := Ground.chain }], guard := none }) rfl (fun K hK => ?_) AllReadyH.nil
        go_simp
        go_at_call 25
        refine (thread2_0 _).mono ?_
        rintro e u10 ⟨rfl, hb⟩
        replace HX0 := Lib.hid (rowAt_below HX0.out hb rfl)
        replace HS0 := Lib.hid (HS0.out.past hb rfl)
        replace HB0 := Lib.hid (below_step HB0.out hb rfl rfl rfl rfl)
        replace HN := Lib.hid (rowAt_below HN.out hb rfl)
        clear hb
        refine hK.out _ _ ⟨rowAt_cell HX0.out 0, rowAt_cell HX0.out 1, rowAt_cell HX0.out 2, rowAt_cell HX0.out 3, rowAt_cell HX0.out 4, rowAt_cell HX0.out 5, rowAt_cell HX0.out 6, rowAt_cell HX0.out 7, rowAt_cell HX0.out 8⟩ (fun hHeld => ?_)
        clear hK K
        try simp only [Act.put, List.setIfInBounds_toArray, List.set_cons_zero, List.set_cons_succ]
        refine wpAnyH_take (i := 8) (oi := { dst := some 27, op := Op.indexAddr 52 (Operand.tmp 23) (Operand.tmp 26), type := 0, pos := "stamp.go:61", after := #[{ on := 4, ground := Ground.data }, { on := 7, ground := Ground.data }], guard := none }) (v := ?_) rfl (by kernel_rfl) (by kernel_rfl) (by kernel_rfl) (fun _ _ _ h => h) (Or.inl ⟨by rfl, ?_⟩) (by assumption) ?_
        rotate_left
        · (intro w0 hSw; (try dsimp only at hSw); go_split_ands; go_simp; with_reducible rfl)
        try simp only [Act.put, List.setIfInBounds_toArray, List.set_cons_zero, List.set_cons_succ]
        refine wpAnyH_ready (rs := [9]) (by kernel_rfl) (by simp) ?_
        refine AllReadyH.cons (o := { dst := some 28, op := Op.load 61 (Operand.tmp 27), type := 61, pos := "stamp.go:61", after := #[{ on := 8, ground := Ground.data }], guard := none }) rfl (fun K hK => ?_) AllReadyH.nil
        have hr : u10.cell? ⟨R, 0, none⟩ = some v0 := rowAt_cell HS0.out.rr 0
        go_simp
        refine hK.out _ _ ⟨rowAt_cell HX0.out 0, rowAt_cell HX0.out 1, rowAt_cell HX0.out 2, rowAt_cell HX0.out 3, rowAt_cell HX0.out 4, rowAt_cell HX0.out 5, rowAt_cell HX0.out 6, rowAt_cell HX0.out 7, rowAt_cell HX0.out 8⟩ (fun hHeld => ?_)
        clear hK K hr
        try simp only [Act.put, List.setIfInBounds_toArray, List.set_cons_zero, List.set_cons_succ]
        refine wpAnyH_ready (rs := [12]) (by kernel_rfl) (by simp) ?_
        refine AllReadyH.cons (o := { dst := some 31, op := Op.call { callee := Callee.builtin Builtin.append, args := #[Operand.tmp 28, Operand.tmp 30], argTypes := #[61, 61] }, type := 61, pos := "stamp.go:61", after := #[{ on := 9, ground := Ground.data }, { on := 11, ground := Ground.data }, { on := 7, ground := Ground.chain }], guard := none }) rfl (fun K hK => ?_) AllReadyH.nil
        refine step_append_lies _ (by rfl) (.tmp 28) (.tmp 30) 61 (by rfl) (R + 1) 3 i0 (.int .i64 0) 1 8 Try.underlying61 hi hz0 hz1 hz2 rfl (by omega) v0 0 [] rfl HS0.out.o0 ⟨nb, 0, none⟩ 1 1 [.int .i64 0] rfl rfl (fun j u' hu => news1 HN.out j u' hu) (by intro u' hu; simp only [List.mem_singleton] at hu; subst hu; rfl) (by omega) (by decide) (by decide) (rowAt_lt HS0.out.rr) _ rfl ?_
        intro g cap w9 ho hg hl hlt9
        have hr9 := rowAt_gr HS0.out.rr hg (fun e => by have := (HS0.out.o0.lt _ e).1; omega)
        have HX9 : Hid (rowAt w9 x = some #[.int .i64 0, .int .i64 5, .int .i64 0, .int .i64 0, .int .i64 1, .bool false, .int .i64 0, .int .i64 0, .int .i64 1]) := Lib.hid (rowAt_gr HX0.out hg (fun e => by have := HK.out _ e; omega))
        have HS9 := Lib.hid (HS0.out.put0 ho hg hl)
        have HB9 : Hid (Below w.heap.size w (w9.setCell ⟨R, 0, none⟩ (.slice (some ⟨g, 0, none⟩) 1 cap))) := Lib.hid ((HB0.out.grown hg HB0.out.size (fun k hk => by have := (HS0.out.o0.lt k hk).1; omega)).setCell (p := ⟨R, 0, none⟩) hRw _)
        have hc9 : w9.cell? ⟨R, 0, none⟩ = some v0 := rowAt_cell hr9 0
        have hf9 : w9.frozen? ⟨R, 0, none⟩ = false := rowAt_frz hr9 0
        refine hK.out _ _ ⟨rowAt_cell HX9.out 0, rowAt_cell HX9.out 1, rowAt_cell HX9.out 2, rowAt_cell HX9.out 3, rowAt_cell HX9.out 4, rowAt_cell HX9.out 5, rowAt_cell HX9.out 6, rowAt_cell HX9.out 7, rowAt_cell HX9.out 8⟩ (fun hHeld => ?_)
        clear hK K
        try simp only [Act.put, List.setIfInBounds_toArray, List.set_cons_zero, List.set_cons_succ]
        refine wpAnyH_take (i := 13) (oi := { dst := some 32, op := Op.indexAddr 52 (Operand.tmp 19) (Operand.tmp 22), type := 0, pos := "stamp.go:61", after := #[{ on := 0, ground := Ground.data }, { on := 3, ground := Ground.data }, { on := 0, ground := Ground.phase }, { on := 1, ground := Ground.phase }, { on := 2, ground := Ground.phase }, { on := 3, ground := Ground.phase }, { on := 4, ground := Ground.phase }, { on := 5, ground := Ground.phase }, { on := 6, ground := Ground.phase }, { on := 7, ground := Ground.phase }, { on := 8, ground := Ground.phase }, { on := 9, ground := Ground.phase }, { on := 10, ground := Ground.phase }, { on := 11, ground := Ground.phase }, { on := 12, ground := Ground.phase }], guard := none }) (v := ?_) rfl (by kernel_rfl) (by kernel_rfl) (by kernel_rfl) (fun _ _ _ h => h) (Or.inl ⟨by rfl, ?_⟩) (by assumption) ?_
        rotate_left
        · (intro w0 hSw; (try dsimp only at hSw); go_split_ands; go_simp; with_reducible rfl)
        try simp only [Act.put, List.setIfInBounds_toArray, List.set_cons_zero, List.set_cons_succ]
        refine wpAnyH_ready (rs := [14]) (by kernel_rfl) (by simp) ?_
        refine AllReadyH.cons (o := { dst := none, op := Op.store 61 (Operand.tmp 32) (Operand.tmp 31), type := 0, pos := "stamp.go:61", after := #[{ on := 13, ground := Ground.data }, { on := 12, ground := Ground.data }, { on := 12, ground := Ground.chain }, { on := 0, ground := Ground.phase }, { on := 1, ground := Ground.phase }, { on := 2, ground := Ground.phase }, { on := 3, ground := Ground.phase }, { on := 4, ground := Ground.phase }, { on := 5, ground := Ground.phase }, { on := 6, ground := Ground.phase }, { on := 7, ground := Ground.phase }, { on := 8, ground := Ground.phase }, { on := 9, ground := Ground.phase }, { on := 10, ground := Ground.phase }, { on := 11, ground := Ground.phase }, { on := 12, ground := Ground.phase }], guard := none }) rfl (fun K hK => ?_) AllReadyH.nil
        go_simp
        have HX8 : Hid (rowAt (w9.setCell ⟨R, 0, none⟩ (.slice (some ⟨g, 0, none⟩) 1 cap)) x = some #[.int .i64 0, .int .i64 5, .int .i64 0, .int .i64 0, .int .i64 1, .bool false, .int .i64 0, .int .i64 0, .int .i64 1]) := Lib.hid (rowAt_set_far HX9.out (by omega) _ _)
        refine hK.out _ _ ⟨rowAt_cell HX8.out 0, rowAt_cell HX8.out 1, rowAt_cell HX8.out 2, rowAt_cell HX8.out 3, rowAt_cell HX8.out 4, rowAt_cell HX8.out 5, rowAt_cell HX8.out 6, rowAt_cell HX8.out 7, rowAt_cell HX8.out 8⟩ (fun hHeld => ?_)
        clear hK K
        try simp only [Act.put, List.setIfInBounds_toArray, List.set_cons_zero, List.set_cons_succ]
        refine wpAnyH_done (by kernel_rfl) ?_ _
        clear hHeld hc9 hf9 hr9
        go_wp2_with fail
        go_meet
        case rel => exact ⟨_, _, HS9.out, (fun h => by omega), (fun h => by first | exact HV1.out h | exact HV1.out trivial), HB9.out⟩
    · go_simp
      have HN : Hid (rowAt (u.alloc (.cells #[.int .i64 0] 3)) u.heap.size = some #[.int .i64 0]) := Lib.hid (rowAt_new _ _ _)
      replace HX0 := Lib.hid (rowAt_past HX0.out (.cells #[.int .i64 0] 3))
      replace HS0 := Lib.hid (HS0.out.past ((Below.refl u.heap.size u).alloc (Nat.le_refl _) (.cells #[.int .i64 0] 3)) rfl)
      replace HB0 := Lib.hid (HB0.out.alloc HB0.out.size (.cells #[.int .i64 0] 3))
      refine hK.out _ _ ⟨rowAt_cell HX0.out 0, rowAt_cell HX0.out 1, rowAt_cell HX0.out 2, rowAt_cell HX0.out 3, rowAt_cell HX0.out 4, rowAt_cell HX0.out 5, rowAt_cell HX0.out 6, rowAt_cell HX0.out 7, rowAt_cell HX0.out 8⟩ (fun hHeld => ?_)
      clear hK K
      try simp only [Act.put, List.setIfInBounds_toArray, List.set_cons_zero, List.set_cons_succ]
      generalize (u.alloc (.cells #[.int .i64 0] 3)) = u13 at hHeld HN HX0 HS0 HB0 ⊢
      generalize u.heap.size = nb at HN ⊢
      refine wpAnyH_ready (rs := [3]) (by kernel_rfl) (by simp) ?_
      refine AllReadyH.cons (o := { dst := some 22, op := Op.call { callee := Callee.value (Operand.tmp 20), args := #[Operand.tmp 21], argTypes := #[44] }, type := 3, pos := "stamp.go:61", after := #[{ on := 1, ground := Ground.data }, { on := 2, ground := Ground.data }], guard := none }) rfl (fun K hK => ?_) AllReadyH.nil
      go_simp
      go_at_call 25
      refine (thread2_0 _).mono ?_
      rintro e u14 ⟨rfl, hb⟩
      replace HX0 := Lib.hid (rowAt_below HX0.out hb rfl)
      replace HS0 := Lib.hid (HS0.out.past hb rfl)
      replace HB0 := Lib.hid (below_step HB0.out hb rfl rfl rfl rfl)
      replace HN := Lib.hid (rowAt_below HN.out hb rfl)
      clear hb
      refine hK.out _ _ ⟨rowAt_cell HX0.out 0, rowAt_cell HX0.out 1, rowAt_cell HX0.out 2, rowAt_cell HX0.out 3, rowAt_cell HX0.out 4, rowAt_cell HX0.out 5, rowAt_cell HX0.out 6, rowAt_cell HX0.out 7, rowAt_cell HX0.out 8⟩ (fun hHeld => ?_)
      clear hK K
      try simp only [Act.put, List.setIfInBounds_toArray, List.set_cons_zero, List.set_cons_succ]
      refine wpAnyH_ready (rs := [7]) (by kernel_rfl) (by simp) ?_
      refine AllReadyH.cons (o := { dst := some 26, op := Op.call { callee := Callee.value (Operand.tmp 24), args := #[Operand.tmp 25], argTypes := #[44] }, type := 3, pos := "stamp.go:61", after := #[{ on := 5, ground := Ground.data }, { on := 6, ground := Ground.data }, { on := 3, ground := Ground.chain }], guard := none }) rfl (fun K hK => ?_) AllReadyH.nil
      go_simp
      go_at_call 25
      refine (thread2_0 _).mono ?_
      rintro e u15 ⟨rfl, hb⟩
      replace HX0 := Lib.hid (rowAt_below HX0.out hb rfl)
      replace HS0 := Lib.hid (HS0.out.past hb rfl)
      replace HB0 := Lib.hid (below_step HB0.out hb rfl rfl rfl rfl)
      replace HN := Lib.hid (rowAt_below HN.out hb rfl)
      clear hb
      refine hK.out _ _ ⟨rowAt_cell HX0.out 0, rowAt_cell HX0.out 1, rowAt_cell HX0.out 2, rowAt_cell HX0.out 3, rowAt_cell HX0.out 4, rowAt_cell HX0.out 5, rowAt_cell HX0.out 6, rowAt_cell HX0.out 7, rowAt_cell HX0.out 8⟩ (fun hHeld => ?_)
      clear hK K
      try simp only [Act.put, List.setIfInBounds_toArray, List.set_cons_zero, List.set_cons_succ]
      refine wpAnyH_take (i := 8) (oi := { dst := some 27, op := Op.indexAddr 52 (Operand.tmp 23) (Operand.tmp 26), type := 0, pos := "stamp.go:61", after := #[{ on := 4, ground := Ground.data }, { on := 7, ground := Ground.data }], guard := none }) (v := ?_) rfl (by kernel_rfl) (by kernel_rfl) (by kernel_rfl) (fun _ _ _ h => h) (Or.inl ⟨by rfl, ?_⟩) (by assumption) ?_
      rotate_left
      · (intro w0 hSw; (try dsimp only at hSw); go_split_ands; go_simp; with_reducible rfl)
      try simp only [Act.put, List.setIfInBounds_toArray, List.set_cons_zero, List.set_cons_succ]
      refine wpAnyH_ready (rs := [9]) (by kernel_rfl) (by simp) ?_
      refine AllReadyH.cons (o := { dst := some 28, op := Op.load 61 (Operand.tmp 27), type := 61, pos := "stamp.go:61", after := #[{ on := 8, ground := Ground.data }], guard := none }) rfl (fun K hK => ?_) AllReadyH.nil
      have hr : u15.cell? ⟨R, 0, none⟩ = some v0 := rowAt_cell HS0.out.rr 0
      go_simp
      refine hK.out _ _ ⟨rowAt_cell HX0.out 0, rowAt_cell HX0.out 1, rowAt_cell HX0.out 2, rowAt_cell HX0.out 3, rowAt_cell HX0.out 4, rowAt_cell HX0.out 5, rowAt_cell HX0.out 6, rowAt_cell HX0.out 7, rowAt_cell HX0.out 8⟩ (fun hHeld => ?_)
      clear hK K hr
      try simp only [Act.put, List.setIfInBounds_toArray, List.set_cons_zero, List.set_cons_succ]
      refine wpAnyH_ready (rs := [12]) (by kernel_rfl) (by simp) ?_
      refine AllReadyH.cons (o := { dst := some 31, op := Op.call { callee := Callee.builtin Builtin.append, args := #[Operand.tmp 28, Operand.tmp 30], argTypes := #[61, 61] }, type := 61, pos := "stamp.go:61", after := #[{ on := 9, ground := Ground.data }, { on := 11, ground := Ground.data }, { on := 7, ground := Ground.chain }], guard := none }) rfl (fun K hK => ?_) AllReadyH.nil
      refine step_append_lies _ (by rfl) (.tmp 28) (.tmp 30) 61 (by rfl) (R + 1) 3 i0 (.int .i64 0) 1 8 Try.underlying61 hi hz0 hz1 hz2 rfl (by omega) v0 0 [] rfl HS0.out.o0 ⟨nb, 0, none⟩ 1 1 [.int .i64 0] rfl rfl (fun j u' hu => news1 HN.out j u' hu) (by intro u' hu; simp only [List.mem_singleton] at hu; subst hu; rfl) (by omega) (by decide) (by decide) (rowAt_lt HS0.out.rr) _ rfl ?_
      intro g cap w9 ho hg hl hlt9
      have hr9 := rowAt_gr HS0.out.rr hg (fun e => by have := (HS0.out.o0.lt _ e).1; omega)
      have HX9 : Hid (rowAt w9 x = some #[.int .i64 0, .int .i64 5, .int .i64 0, .int .i64 0, .int .i64 1, .bool false, .int .i64 0, .int .i64 0, .int .i64 1]) := Lib.hid (rowAt_gr HX0.out hg (fun e => by have := HK.out _ e; omega))
      have HS9 := Lib.hid (HS0.out.put0 ho hg hl)
      have HB9 : Hid (Below w.heap.size w (w9.setCell ⟨R, 0, none⟩ (.slice (some ⟨g, 0, none⟩) 1 cap))) := Lib.hid ((HB0.out.grown hg HB0.out.size (fun k hk => by have := (HS0.out.o0.lt k hk).1; omega)).setCell (p := ⟨R, 0, none⟩) hRw _)
      have hc9 : w9.cell? ⟨R, 0, none⟩ = some v0 := rowAt_cell hr9 0
      have hf9 : w9.frozen? ⟨R, 0, none⟩ = false := rowAt_frz hr9 0
      refine hK.out _ _ ⟨rowAt_cell HX9.out 0, rowAt_cell HX9.out 1, rowAt_cell HX9.out 2, rowAt_cell HX9.out 3, rowAt_cell HX9.out 4, rowAt_cell HX9.out 5, rowAt_cell HX9.out 6, rowAt_cell HX9.out 7, rowAt_cell HX9.out 8⟩ (fun hHeld => ?_)
      clear hK K
      try simp only [Act.put, List.setIfInBounds_toArray, List.set_cons_zero, List.set_cons_succ]
      refine wpAnyH_take (i := 13) (oi := { dst := some 32, op := Op.indexAddr 52 (Operand.tmp 19) (Operand.tmp 22), type := 0, pos := "stamp.go:61", after := #[{ on := 0, ground := Ground.data }, { on := 3, ground := Ground.data }, { on := 0, ground := Ground.phase }, { on := 1, ground := Ground.phase }, { on := 2, ground := Ground.phase }, { on := 3, ground := Ground.phase }, { on := 4, ground := Ground.phase }, { on := 5, ground := Ground.phase }, { on := 6, ground := Ground.phase }, { on := 7, ground := Ground.phase }, { on := 8, ground := Ground.phase }, { on := 9, ground := Ground.phase }, { on := 10, ground := Ground.phase }, { on := 11, ground := Ground.phase }, { on := 12, ground := Ground.phase }], guard := none }) (v := ?_) rfl (by kernel_rfl) (by kernel_rfl) (by kernel_rfl) (fun _ _ _ h => h) (Or.inl ⟨by rfl, ?_⟩) (by assumption) ?_
      rotate_left
      · (intro w0 hSw; (try dsimp only at hSw); go_split_ands; go_simp; with_reducible rfl)
      try simp only [Act.put, List.setIfInBounds_toArray, List.set_cons_zero, List.set_cons_succ]
      refine wpAnyH_ready (rs := [14]) (by kernel_rfl) (by simp) ?_
      refine AllReadyH.cons (o := { dst := none, op := Op.store 61 (Operand.tmp 32) (Operand.tmp 31), type := 0, pos := "stamp.go:61", after := #[{ on := 13, ground := Ground.data }, { on := 12, ground := Ground.data }, { on := 12, ground := Ground.chain }, { on := 0, ground := Ground.phase }, { on := 1, ground := Ground.phase }, { on := 2, ground := Ground.phase }, { on := 3, ground := Ground.phase }, { on := 4, ground := Ground.phase }, { on := 5, ground := Ground.phase }, { on := 6, ground := Ground.phase }, { on := 7, ground := Ground.phase }, { on := 8, ground := Ground.phase }, { on := 9, ground := Ground.phase }, { on := 10, ground := Ground.phase }, { on := 11, ground := Ground.phase }, { on := 12, ground := Ground.phase }], guard := none }) rfl (fun K hK => ?_) AllReadyH.nil
      go_simp
      have HX8 : Hid (rowAt (w9.setCell ⟨R, 0, none⟩ (.slice (some ⟨g, 0, none⟩) 1 cap)) x = some #[.int .i64 0, .int .i64 5, .int .i64 0, .int .i64 0, .int .i64 1, .bool false, .int .i64 0, .int .i64 0, .int .i64 1]) := Lib.hid (rowAt_set_far HX9.out (by omega) _ _)
      refine hK.out _ _ ⟨rowAt_cell HX8.out 0, rowAt_cell HX8.out 1, rowAt_cell HX8.out 2, rowAt_cell HX8.out 3, rowAt_cell HX8.out 4, rowAt_cell HX8.out 5, rowAt_cell HX8.out 6, rowAt_cell HX8.out 7, rowAt_cell HX8.out 8⟩ (fun hHeld => ?_)
      clear hK K
      try simp only [Act.put, List.setIfInBounds_toArray, List.set_cons_zero, List.set_cons_succ]
      refine wpAnyH_done (by kernel_rfl) ?_ _
      clear hHeld hc9 hf9 hr9
      go_wp2_with fail
      go_meet
      case rel => exact ⟨_, _, HS9.out, (fun h => by omega), (fun h => by first | exact HV1.out h | exact HV1.out trivial), HB9.out⟩
  case rest =>
    have hRd := hcut
    clear hcut HS HB HV0 HV1
    obtain ⟨W1, hW⟩ : ∃ W, W = wc := ⟨_, rfl⟩
    rw [← hW] at hRd ⊢
    clear hW
    go_wp2
    rw [rounds_succ]
    obtain ⟨v0, v1, hS, hv0, hv1, hB⟩ := hRd
    have HS := Lib.hid hS
    have HB := Lib.hid hB
    have HV0 := Lib.hid hv0
    have HV1 := Lib.hid hv1
    clear hv0 hv1
    obtain ⟨W, hW⟩ : ∃ W, W = W1 := ⟨_, rfl⟩
    rw [← hW] at HS HB ⊢
    have c0 : W.cell? ⟨E, 9, none⟩ = some (.int .i64 1) := rowAt_cell HS.out.ev 9
    have c1 : W.cell? ⟨E, 10, none⟩ = some (.int .i64 7) := rowAt_cell HS.out.ev 10
    have c2 : W.cell? ⟨E, 11, none⟩ = some (.int .i64 0) := rowAt_cell HS.out.ev 11
    have c3 : W.cell? ⟨E, 12, none⟩ = some (.int .i64 0) := rowAt_cell HS.out.ev 12
    have c4 : W.cell? ⟨E, 13, none⟩ = some (.int .i64 0) := rowAt_cell HS.out.ev 13
    have c5 : W.cell? ⟨E, 14, none⟩ = some (.bool false) := rowAt_cell HS.out.ev 14
    have c6 : W.cell? ⟨E, 15, none⟩ = some (.int .i64 0) := rowAt_cell HS.out.ev 15
    have c7 : W.cell? ⟨E, 16, none⟩ = some (.int .i64 0) := rowAt_cell HS.out.ev 16
    have c8 : W.cell? ⟨E, 17, none⟩ = some (.int .i64 2) := rowAt_cell HS.out.ev 17
    clear hS hB hW
    go_upto_block 1 with (fail)
    go_cut [8] (fun s wx => Rd E R w 1 1 [.int .i64 0] [.int .i64 1] wx)
    case first =>
      go_wp2
      have HX : Hid (rowAt (W.alloc (.cells #[.int .i64 1, .int .i64 7, .int .i64 0, .int .i64 0, .int .i64 0, .bool false, .int .i64 0, .int .i64 0, .int .i64 2] 44)) W.heap.size = some #[.int .i64 1, .int .i64 7, .int .i64 0, .int .i64 0, .int .i64 0, .bool false, .int .i64 0, .int .i64 0, .int .i64 2]) := Lib.hid (rowAt_new _ _ _)
      have HS1 := Lib.hid (HS.out.past ((Below.refl W.heap.size W).alloc (Nat.le_refl _) (.cells #[.int .i64 1, .int .i64 7, .int .i64 0, .int .i64 0, .int .i64 0, .bool false, .int .i64 0, .int .i64 0, .int .i64 2] 44)) rfl)
      have HB1 := Lib.hid (HB.out.alloc HB.out.size (.cells #[.int .i64 1, .int .i64 7, .int .i64 0, .int .i64 0, .int .i64 0, .bool false, .int .i64 0, .int .i64 0, .int .i64 2] 44))
      have HK : Hid (∀ k, v1.ownBlock = some k → k < W.heap.size) := Lib.hid (fun k hk => (HS.out.o1.lt k hk).2)
      have hRx : R < W.heap.size := rowAt_lt HS.out.rr
      clear c0 c1 c2 c3 c4 c5 c6 c7 c8 HS HB
      generalize (W.alloc (.cells #[.int .i64 1, .int .i64 7, .int .i64 0, .int .i64 0, .int .i64 0, .bool false, .int .i64 0, .int .i64 0, .int .i64 2] 44)) = U at HX HS1 HB1 ⊢
      generalize W.heap.size = x at HX HK hRx ⊢
      refine wp_region_held_drew (S := (fun w' => w'.cell? ⟨x, 0, none⟩ = some (.int .i64 1) ∧ w'.cell? ⟨x, 1, none⟩ = some (.int .i64 7) ∧ w'.cell? ⟨x, 2, none⟩ = some (.int .i64 0) ∧ w'.cell? ⟨x, 3, none⟩ = some (.int .i64 0) ∧ w'.cell? ⟨x, 4, none⟩ = some (.int .i64 0) ∧ w'.cell? ⟨x, 5, none⟩ = some (.bool false) ∧ w'.cell? ⟨x, 6, none⟩ = some (.int .i64 0) ∧ w'.cell? ⟨x, 7, none⟩ = some (.int .i64 0) ∧ w'.cell? ⟨x, 8, none⟩ = some (.int .i64 2))) (by kernel_rfl) ⟨rowAt_cell HX.out 0, rowAt_cell HX.out 1, rowAt_cell HX.out 2, rowAt_cell HX.out 3, rowAt_cell HX.out 4, rowAt_cell HX.out 5, rowAt_cell HX.out 6, rowAt_cell HX.out 7, rowAt_cell HX.out 8⟩ (fun hHeld => ?_)
      have HX0 : Hid (rowAt U.drew x = some #[.int .i64 1, .int .i64 7, .int .i64 0, .int .i64 0, .int .i64 0, .bool false, .int .i64 0, .int .i64 0, .int .i64 2]) := HX
      have HS0 := Lib.hid (HS1.out.same (w' := U.drew) rfl)
      have HB0 := Lib.hid HB1.out.drew
      clear HX HS1 HB1
      generalize U.drew = u at hHeld HX0 HS0 HB0 ⊢
      refine wpAnyH_take (i := 0) (oi := { dst := some 19, op := Op.move (Operand.tmp 7), type := 52, pos := "stamp.go:61", after := #[], guard := none }) (v := ?_) rfl (by kernel_rfl) (by kernel_rfl) (by kernel_rfl) (fun _ _ _ h => h) (Or.inl ⟨by rfl, ?_⟩) (by assumption) ?_
      rotate_left
      · (intro w0 hSw; (try dsimp only at hSw); go_split_ands; go_simp; with_reducible rfl)
      try simp only [Act.put, List.setIfInBounds_toArray, List.set_cons_zero, List.set_cons_succ]
      refine wpAnyH_take (i := 1) (oi := { dst := some 20, op := Op.move (Operand.tmp 2), type := 54, pos := "stamp.go:61", after := #[], guard := none }) (v := ?_) rfl (by kernel_rfl) (by kernel_rfl) (by kernel_rfl) (fun _ _ _ h => h) (Or.inl ⟨by rfl, ?_⟩) (by assumption) ?_
      rotate_left
      · (intro w0 hSw; (try dsimp only at hSw); go_split_ands; go_simp; with_reducible rfl)
      try simp only [Act.put, List.setIfInBounds_toArray, List.set_cons_zero, List.set_cons_succ]
      refine wpAnyH_take (i := 2) (oi := { dst := some 21, op := Op.load 44 (Operand.tmp 9), type := 44, pos := "stamp.go:61", after := #[], guard := none }) (v := ?_) rfl (by kernel_rfl) (by kernel_rfl) (by kernel_rfl) (fun _ _ _ h => h) (Or.inl ⟨by rfl, ?_⟩) (by assumption) ?_
      rotate_left
      · (intro w0 hSw; (try dsimp only at hSw); go_split_ands; go_simp; with_reducible rfl)
      try simp only [Act.put, List.setIfInBounds_toArray, List.set_cons_zero, List.set_cons_succ]
      refine wpAnyH_take (i := 4) (oi := { dst := some 23, op := Op.move (Operand.tmp 7), type := 52, pos := "stamp.go:61", after := #[], guard := none }) (v := ?_) rfl (by kernel_rfl) (by kernel_rfl) (by kernel_rfl) (fun _ _ _ h => h) (Or.inl ⟨by rfl, ?_⟩) (by assumption) ?_
      rotate_left
      · (intro w0 hSw; (try dsimp only at hSw); go_split_ands; go_simp; with_reducible rfl)
      try simp only [Act.put, List.setIfInBounds_toArray, List.set_cons_zero, List.set_cons_succ]
      refine wpAnyH_take (i := 5) (oi := { dst := some 24, op := Op.move (Operand.tmp 2), type := 54, pos := "stamp.go:61", after := #[], guard := none }) (v := ?_) rfl (by kernel_rfl) (by kernel_rfl) (by kernel_rfl) (fun _ _ _ h => h) (Or.inl ⟨by rfl, ?_⟩) (by assumption) ?_
      rotate_left
      · (intro w0 hSw; (try dsimp only at hSw); go_split_ands; go_simp; with_reducible rfl)
      try simp only [Act.put, List.setIfInBounds_toArray, List.set_cons_zero, List.set_cons_succ]
      refine wpAnyH_take (i := 6) (oi := { dst := some 25, op := Op.load 44 (Operand.tmp 9), type := 44, pos := "stamp.go:61", after := #[], guard := none }) (v := ?_) rfl (by kernel_rfl) (by kernel_rfl) (by kernel_rfl) (fun _ _ _ h => h) (Or.inl ⟨by rfl, ?_⟩) (by assumption) ?_
      rotate_left
      · (intro w0 hSw; (try dsimp only at hSw); go_split_ands; go_simp; with_reducible rfl)
      try simp only [Act.put, List.setIfInBounds_toArray, List.set_cons_zero, List.set_cons_succ]
      refine wpAnyH_take (i := 10) (oi := { dst := some 29, op := Op.move (Operand.tmp 8), type := 3, pos := "stamp.go:61", after := #[], guard := none }) (v := ?_) rfl (by kernel_rfl) (by kernel_rfl) (by kernel_rfl) (fun _ _ _ h => h) (Or.inl ⟨by rfl, ?_⟩) (by assumption) ?_
      rotate_left
      · (intro w0 hSw; (try dsimp only at hSw); go_split_ands; go_simp; with_reducible rfl)
      try simp only [Act.put, List.setIfInBounds_toArray, List.set_cons_zero, List.set_cons_succ]
      refine wpAnyH_ready (rs := [3, 11]) (by kernel_rfl) (by simp) ?_
      refine AllReadyH.cons (o := { dst := some 22, op := Op.call { callee := Callee.value (Operand.tmp 20), args := #[Operand.tmp 21], argTypes := #[44] }, type := 3, pos := "stamp.go:61", after := #[{ on := 1, ground := Ground.data }, { on := 2, ground := Ground.data }], guard := none }) rfl (fun K hK => ?_) (AllReadyH.cons (o := { dst := some 30, op := Op.buildSlice 61 1 #[(0, Operand.tmp 29)], type := 61, pos := "stamp.go:61", after := #[{ on := 10, ground := Ground.data }], guard := none }) rfl (fun K hK => ?_) AllReadyH.nil)
      · go_simp
        go_at_call 25
        refine (thread2_1 _).mono ?_
        rintro e u1 ⟨rfl, hb⟩
        replace HX0 := Lib.hid (rowAt_below HX0.out hb rfl)
        replace HS0 := Lib.hid (HS0.out.past hb rfl)
        replace HB0 := Lib.hid (below_step HB0.out hb rfl rfl rfl rfl)
        clear hb
        refine hK.out _ _ ⟨rowAt_cell HX0.out 0, rowAt_cell HX0.out 1, rowAt_cell HX0.out 2, rowAt_cell HX0.out 3, rowAt_cell HX0.out 4, rowAt_cell HX0.out 5, rowAt_cell HX0.out 6, rowAt_cell HX0.out 7, rowAt_cell HX0.out 8⟩ (fun hHeld => ?_)
        clear hK K
        try simp only [Act.put, List.setIfInBounds_toArray, List.set_cons_zero, List.set_cons_succ]
        refine wpAnyH_ready (rs := [7, 11]) (by kernel_rfl) (by simp) ?_
        refine AllReadyH.cons (o := { dst := some 26, op := Op.call { callee := Callee.value (Operand.tmp 24), args := #[Operand.tmp 25], argTypes := #[44] }, type := 3, pos := "stamp.go:61", after := #[{ on := 5, ground := Ground.data }, { on := 6, ground := Ground.data }, { on := 3, ground := Ground.chain }], guard := none }) rfl (fun K hK => ?_) (AllReadyH.cons (o := { dst := some 30, op := Op.buildSlice 61 1 #[(0, Operand.tmp 29)], type := 61, pos := "stamp.go:61", after := #[{ on := 10, ground := Ground.data }], guard := none }) rfl (fun K hK => ?_) AllReadyH.nil)
        · go_simp
          go_at_call 25
          refine (thread2_1 _).mono ?_
          rintro e u2 ⟨rfl, hb⟩
          replace HX0 := Lib.hid (rowAt_below HX0.out hb rfl)
          replace HS0 := Lib.hid (HS0.out.past hb rfl)
          replace HB0 := Lib.hid (below_step HB0.out hb rfl rfl rfl rfl)
          clear hb
          refine hK.out _ _ ⟨rowAt_cell HX0.out 0, rowAt_cell HX0.out 1, rowAt_cell HX0.out 2, rowAt_cell HX0.out 3, rowAt_cell HX0.out 4, rowAt_cell HX0.out 5, rowAt_cell HX0.out 6, rowAt_cell HX0.out 7, rowAt_cell HX0.out 8⟩ (fun hHeld => ?_)
          clear hK K
          try simp only [Act.put, List.setIfInBounds_toArray, List.set_cons_zero, List.set_cons_succ]
          refine wpAnyH_take (i := 8) (oi := { dst := some 27, op := Op.indexAddr 52 (Operand.tmp 23) (Operand.tmp 26), type := 0, pos := "stamp.go:61", after := #[{ on := 4, ground := Ground.data }, { on := 7, ground := Ground.data }], guard := none }) (v := ?_) rfl (by kernel_rfl) (by kernel_rfl) (by kernel_rfl) (fun _ _ _ h => h) (Or.inl ⟨by rfl, ?_⟩) (by assumption) ?_
          rotate_left
          · (intro w0 hSw; (try dsimp only at hSw); go_split_ands; go_simp; with_reducible rfl)
          try simp only [Act.put, List.setIfInBounds_toArray, List.set_cons_zero, List.set_cons_succ]
          refine wpAnyH_ready (rs := [9, 11]) (by kernel_rfl) (by simp) ?_
          refine AllReadyH.cons (o := { dst := some 28, op := Op.load 61 (Operand.tmp 27), type := 61, pos := "stamp.go:61", after := #[{ on := 8, ground := Ground.data }], guard := none }) rfl (fun K hK => ?_) (AllReadyH.cons (o := { dst := some 30, op := Op.buildSlice 61 1 #[(0, Operand.tmp 29)], type := 61, pos := "stamp.go:61", after := #[{ on := 10, ground := Ground.data }], guard := none }) rfl (fun K hK => ?_) AllReadyH.nil)
          · have hr : u2.cell? ⟨R, 1, none⟩ = some v1 := rowAt_cell HS0.out.rr 1
            go_simp
            refine hK.out _ _ ⟨rowAt_cell HX0.out 0, rowAt_cell HX0.out 1, rowAt_cell HX0.out 2, rowAt_cell HX0.out 3, rowAt_cell HX0.out 4, rowAt_cell HX0.out 5, rowAt_cell HX0.out 6, rowAt_cell HX0.out 7, rowAt_cell HX0.out 8⟩ (fun hHeld => ?_)
            clear hK K hr
            try simp only [Act.put, List.setIfInBounds_toArray, List.set_cons_zero, List.set_cons_succ]
            refine wpAnyH_ready (rs := [11]) (by kernel_rfl) (by simp) ?_
            refine AllReadyH.cons (o := { dst := some 30, op := Op.buildSlice 61 1 #[(0, Operand.tmp 29)], type := 61, pos := "stamp.go:61", after := #[{ on := 10, ground := Ground.data }], guard := none }) rfl (fun K hK => ?_) AllReadyH.nil
            go_simp
            have HN : Hid (rowAt (u2.alloc (.cells #[.int .i64 1] 3)) u2.heap.size = some #[.int .i64 1]) := Lib.hid (rowAt_new _ _ _)
            replace HX0 := Lib.hid (rowAt_past HX0.out (.cells #[.int .i64 1] 3))
            replace HS0 := Lib.hid (HS0.out.past ((Below.refl u2.heap.size u2).alloc (Nat.le_refl _) (.cells #[.int .i64 1] 3)) rfl)
            replace HB0 := Lib.hid (HB0.out.alloc HB0.out.size (.cells #[.int .i64 1] 3))
            refine hK.out _ _ ⟨rowAt_cell HX0.out 0, rowAt_cell HX0.out 1, rowAt_cell HX0.out 2, rowAt_cell HX0.out 3, rowAt_cell HX0.out 4, rowAt_cell HX0.out 5, rowAt_cell HX0.out 6, rowAt_cell HX0.out 7, rowAt_cell HX0.out 8⟩ (fun hHeld => ?_)
            clear hK K
            try simp only [Act.put, List.setIfInBounds_toArray, List.set_cons_zero, List.set_cons_succ]
            generalize (u2.alloc (.cells #[.int .i64 1] 3)) = u4 at hHeld HN HX0 HS0 HB0 ⊢
            generalize u2.heap.size = nb at HN ⊢
            refine wpAnyH_ready (rs := [12]) (by kernel_rfl) (by simp) ?_
            refine AllReadyH.cons (o := { dst := some 31, op := Op.call { callee := Callee.builtin Builtin.append, args := #[Operand.tmp 28, Operand.tmp 30], argTypes := #[61, 61] }, type := 61, pos := "stamp.go:61", after := #[{ on := 9, ground := Ground.data }, { on := 11, ground := Ground.data }, { on := 7, ground := Ground.chain }], guard := none }) rfl (fun K hK => ?_) AllReadyH.nil
            refine step_append_lies _ (by rfl) (.tmp 28) (.tmp 30) 61 (by rfl) (R + 1) 3 i0 (.int .i64 0) 1 8 Try.underlying61 hi hz0 hz1 hz2 rfl (by omega) v1 0 [] rfl HS0.out.o1 ⟨nb, 0, none⟩ 1 1 [.int .i64 1] rfl rfl (fun j u' hu => news1 HN.out j u' hu) (by intro u' hu; simp only [List.mem_singleton] at hu; subst hu; rfl) (by omega) (by decide) (by decide) (rowAt_lt HS0.out.rr) _ rfl ?_
            intro g cap w9 ho hg hl hlt9
            have hr9 := rowAt_gr HS0.out.rr hg (fun e => by have := (HS0.out.o1.lt _ e).1; omega)
            have HX9 : Hid (rowAt w9 x = some #[.int .i64 1, .int .i64 7, .int .i64 0, .int .i64 0, .int .i64 0, .bool false, .int .i64 0, .int .i64 0, .int .i64 2]) := Lib.hid (rowAt_gr HX0.out hg (fun e => by have := HK.out _ e; omega))
            have HS9 := Lib.hid (HS0.out.put1 ho hg hl)
            have HB9 : Hid (Below w.heap.size w (w9.setCell ⟨R, 1, none⟩ (.slice (some ⟨g, 0, none⟩) 1 cap))) := Lib.hid ((HB0.out.grown hg HB0.out.size (fun k hk => by have := (HS0.out.o1.lt k hk).1; omega)).setCell (p := ⟨R, 1, none⟩) hRw _)
            have hc9 : w9.cell? ⟨R, 1, none⟩ = some v1 := rowAt_cell hr9 1
            have hf9 : w9.frozen? ⟨R, 1, none⟩ = false := rowAt_frz hr9 1
            refine hK.out _ _ ⟨rowAt_cell HX9.out 0, rowAt_cell HX9.out 1, rowAt_cell HX9.out 2, rowAt_cell HX9.out 3, rowAt_cell HX9.out 4, rowAt_cell HX9.out 5, rowAt_cell HX9.out 6, rowAt_cell HX9.out 7, rowAt_cell HX9.out 8⟩ (fun hHeld => ?_)
            clear hK K
            try simp only [Act.put, List.setIfInBounds_toArray, List.set_cons_zero, List.set_cons_succ]
            refine wpAnyH_take (i := 13) (oi := { dst := some 32, op := Op.indexAddr 52 (Operand.tmp 19) (Operand.tmp 22), type := 0, pos := "stamp.go:61", after := #[{ on := 0, ground := Ground.data }, { on := 3, ground := Ground.data }, { on := 0, ground := Ground.phase }, { on := 1, ground := Ground.phase }, { on := 2, ground := Ground.phase }, { on := 3, ground := Ground.phase }, { on := 4, ground := Ground.phase }, { on := 5, ground := Ground.phase }, { on := 6, ground := Ground.phase }, { on := 7, ground := Ground.phase }, { on := 8, ground := Ground.phase }, { on := 9, ground := Ground.phase }, { on := 10, ground := Ground.phase }, { on := 11, ground := Ground.phase }, { on := 12, ground := Ground.phase }], guard := none }) (v := ?_) rfl (by kernel_rfl) (by kernel_rfl) (by kernel_rfl) (fun _ _ _ h => h) (Or.inl ⟨by rfl, ?_⟩) (by assumption) ?_
            rotate_left
            · (intro w0 hSw; (try dsimp only at hSw); go_split_ands; go_simp; with_reducible rfl)
            try simp only [Act.put, List.setIfInBounds_toArray, List.set_cons_zero, List.set_cons_succ]
            refine wpAnyH_ready (rs := [14]) (by kernel_rfl) (by simp) ?_
            refine AllReadyH.cons (o := { dst := none, op := Op.store 61 (Operand.tmp 32) (Operand.tmp 31), type := 0, pos := "stamp.go:61", after := #[{ on := 13, ground := Ground.data }, { on := 12, ground := Ground.data }, { on := 12, ground := Ground.chain }, { on := 0, ground := Ground.phase }, { on := 1, ground := Ground.phase }, { on := 2, ground := Ground.phase }, { on := 3, ground := Ground.phase }, { on := 4, ground := Ground.phase }, { on := 5, ground := Ground.phase }, { on := 6, ground := Ground.phase }, { on := 7, ground := Ground.phase }, { on := 8, ground := Ground.phase }, { on := 9, ground := Ground.phase }, { on := 10, ground := Ground.phase }, { on := 11, ground := Ground.phase }, { on := 12, ground := Ground.phase }], guard := none }) rfl (fun K hK => ?_) AllReadyH.nil
            go_simp
            have HX8 : Hid (rowAt (w9.setCell ⟨R, 1, none⟩ (.slice (some ⟨g, 0, none⟩) 1 cap)) x = some #[.int .i64 1, .int .i64 7, .int .i64 0, .int .i64 0, .int .i64 0, .bool false, .int .i64 0, .int .i64 0, .int .i64 2]) := Lib.hid (rowAt_set_far HX9.out (by omega) _ _)
            refine hK.out _ _ ⟨rowAt_cell HX8.out 0, rowAt_cell HX8.out 1, rowAt_cell HX8.out 2, rowAt_cell HX8.out 3, rowAt_cell HX8.out 4, rowAt_cell HX8.out 5, rowAt_cell HX8.out 6, rowAt_cell HX8.out 7, rowAt_cell HX8.out 8⟩ (fun hHeld => ?_)
            clear hK K
            try simp only [Act.put, List.setIfInBounds_toArray, List.set_cons_zero, List.set_cons_succ]
            refine wpAnyH_done (by kernel_rfl) ?_ _
            clear hHeld hc9 hf9 hr9
            go_wp2_with fail
            go_meet
            case rel => exact ⟨_, _, HS9.out, (fun h => by first | exact HV0.out h | exact HV0.out trivial), (fun h => by omega), HB9.out⟩
          · go_simp
            have HN : Hid (rowAt (u2.alloc (.cells #[.int .i64 1] 3)) u2.heap.size = some #[.int .i64 1]) := Lib.hid (rowAt_new _ _ _)
            replace HX0 := Lib.hid (rowAt_past HX0.out (.cells #[.int .i64 1] 3))
            replace HS0 := Lib.hid (HS0.out.past ((Below.refl u2.heap.size u2).alloc (Nat.le_refl _) (.cells #[.int .i64 1] 3)) rfl)
            replace HB0 := Lib.hid (HB0.out.alloc HB0.out.size (.cells #[.int .i64 1] 3))
            refine hK.out _ _ ⟨rowAt_cell HX0.out 0, rowAt_cell HX0.out 1, rowAt_cell HX0.out 2, rowAt_cell HX0.out 3, rowAt_cell HX0.out 4, rowAt_cell HX0.out 5, rowAt_cell HX0.out 6, rowAt_cell HX0.out 7, rowAt_cell HX0.out 8⟩ (fun hHeld => ?_)
            clear hK K
            try simp only [Act.put, List.setIfInBounds_toArray, List.set_cons_zero, List.set_cons_succ]
            generalize (u2.alloc (.cells #[.int .i64 1] 3)) = u6 at hHeld HN HX0 HS0 HB0 ⊢
            generalize u2.heap.size = nb at HN ⊢
            refine wpAnyH_ready (rs := [9]) (by kernel_rfl) (by simp) ?_
            refine AllReadyH.cons (o := { dst := some 28, op := Op.load 61 (Operand.tmp 27), type := 61, pos := "stamp.go:61", after := #[{ on := 8, ground := Ground.data }], guard := none }) rfl (fun K hK => ?_) AllReadyH.nil
            have hr : u6.cell? ⟨R, 1, none⟩ = some v1 := rowAt_cell HS0.out.rr 1
            go_simp
            refine hK.out _ _ ⟨rowAt_cell HX0.out 0, rowAt_cell HX0.out 1, rowAt_cell HX0.out 2, rowAt_cell HX0.out 3, rowAt_cell HX0.out 4, rowAt_cell HX0.out 5, rowAt_cell HX0.out 6, rowAt_cell HX0.out 7, rowAt_cell HX0.out 8⟩ (fun hHeld => ?_)
            clear hK K hr
            try simp only [Act.put, List.setIfInBounds_toArray, List.set_cons_zero, List.set_cons_succ]
            refine wpAnyH_ready (rs := [12]) (by kernel_rfl) (by simp) ?_
            refine AllReadyH.cons (o := { dst := some 31, op := Op.call { callee := Callee.builtin Builtin.append, args := #[Operand.tmp 28, Operand.tmp 30], argTypes := #[61, 61] }, type := 61, pos := "stamp.go:61", after := #[{ on := 9, ground := Ground.data }, { on := 11, ground := Ground.data }, { on := 7, ground := Ground.chain }], guard := none }) rfl (fun K hK => ?_) AllReadyH.nil
            refine step_append_lies _ (by rfl) (.tmp 28) (.tmp 30) 61 (by rfl) (R + 1) 3 i0 (.int .i64 0) 1 8 Try.underlying61 hi hz0 hz1 hz2 rfl (by omega) v1 0 [] rfl HS0.out.o1 ⟨nb, 0, none⟩ 1 1 [.int .i64 1] rfl rfl (fun j u' hu => news1 HN.out j u' hu) (by intro u' hu; simp only [List.mem_singleton] at hu; subst hu; rfl) (by omega) (by decide) (by decide) (rowAt_lt HS0.out.rr) _ rfl ?_
            intro g cap w9 ho hg hl hlt9
            have hr9 := rowAt_gr HS0.out.rr hg (fun e => by have := (HS0.out.o1.lt _ e).1; omega)
            have HX9 : Hid (rowAt w9 x = some #[.int .i64 1, .int .i64 7, .int .i64 0, .int .i64 0, .int .i64 0, .bool false, .int .i64 0, .int .i64 0, .int .i64 2]) := Lib.hid (rowAt_gr HX0.out hg (fun e => by have := HK.out _ e; omega))
            have HS9 := Lib.hid (HS0.out.put1 ho hg hl)
            have HB9 : Hid (Below w.heap.size w (w9.setCell ⟨R, 1, none⟩ (.slice (some ⟨g, 0, none⟩) 1 cap))) := Lib.hid ((HB0.out.grown hg HB0.out.size (fun k hk => by have := (HS0.out.o1.lt k hk).1; omega)).setCell (p := ⟨R, 1, none⟩) hRw _)
            have hc9 : w9.cell? ⟨R, 1, none⟩ = some v1 := rowAt_cell hr9 1
            have hf9 : w9.frozen? ⟨R, 1, none⟩ = false := rowAt_frz hr9 1
            refine hK.out _ _ ⟨rowAt_cell HX9.out 0, rowAt_cell HX9.out 1, rowAt_cell HX9.out 2, rowAt_cell HX9.out 3, rowAt_cell HX9.out 4, rowAt_cell HX9.out 5, rowAt_cell HX9.out 6, rowAt_cell HX9.out 7, rowAt_cell HX9.out 8⟩ (fun hHeld => ?_)
            clear hK K
            try simp only [Act.put, List.setIfInBounds_toArray, List.set_cons_zero, List.set_cons_succ]
            refine wpAnyH_take (i := 13) (oi := { dst := some 32, op := Op.indexAddr 52 (Operand.tmp 19) (Operand.tmp 22), type := 0, pos := "stamp.go:61", after := #[{ on := 0, ground := Ground.data }, { on := 3, ground := Ground.data }, { on := 0, ground := Ground.phase }, { on := 1, ground := Ground.phase }, { on := 2, ground := Ground.phase }, { on := 3, ground := Ground.phase }, { on := 4, ground := Ground.phase }, { on := 5, ground := Ground.phase }, { on := 6, ground := Ground.phase }, { on := 7, ground := Ground.phase }, { on := 8, ground := Ground.phase }, { on := 9, ground := Ground.phase }, { on := 10, ground := Ground.phase }, { on := 11, ground := Ground.phase }, { on := 12, ground := Ground.phase }], guard := none }) (v := ?_) rfl (by kernel_rfl) (by kernel_rfl) (by kernel_rfl) (fun _ _ _ h => h) (Or.inl ⟨by rfl, ?_⟩) (by assumption) ?_
            rotate_left
            · (intro w0 hSw; (try dsimp only at hSw); go_split_ands; go_simp; with_reducible rfl)
            try simp only [Act.put, List.setIfInBounds_toArray, List.set_cons_zero, List.set_cons_succ]
            refine wpAnyH_ready (rs := [14]) (by kernel_rfl) (by simp) ?_
            refine AllReadyH.cons (o := { dst := none, op := Op.store 61 (Operand.tmp 32) (Operand.tmp 31), type := 0, pos := "stamp.go:61", after := #[{ on := 13, ground := Ground.data }, { on := 12, ground := Ground.data }, { on := 12, ground := Ground.chain }, { on := 0, ground := Ground.phase }, { on := 1, ground := Ground.phase }, { on := 2, ground := Ground.phase }, { on := 3, ground := Ground.phase }, { on := 4, ground := Ground.phase }, { on := 5, ground := Ground.phase }, { on := 6, ground := Ground.phase }, { on := 7, ground := Ground.phase }, { on := 8, ground := Ground.phase }, { on := 9, ground := Ground.phase }, { on := 10, ground := Ground.phase }, { on := 11, ground := Ground.phase }, { on := 12, ground := Ground.phase }], guard := none }) rfl (fun K hK => ?_) AllReadyH.nil
            go_simp
            have HX8 : Hid (rowAt (w9.setCell ⟨R, 1, none⟩ (.slice (some ⟨g, 0, none⟩) 1 cap)) x = some #[.int .i64 1, .int .i64 7, .int .i64 0, .int .i64 0, .int .i64 0, .bool false, .int .i64 0, .int .i64 0, .int .i64 2]) := Lib.hid (rowAt_set_far HX9.out (by omega) _ _)
            refine hK.out _ _ ⟨rowAt_cell HX8.out 0, rowAt_cell HX8.out 1, rowAt_cell HX8.out 2, rowAt_cell HX8.out 3, rowAt_cell HX8.out 4, rowAt_cell HX8.out 5, rowAt_cell HX8.out 6, rowAt_cell HX8.out 7, rowAt_cell HX8.out 8⟩ (fun hHeld => ?_)
            clear hK K
            try simp only [Act.put, List.setIfInBounds_toArray, List.set_cons_zero, List.set_cons_succ]
            refine wpAnyH_done (by kernel_rfl) ?_ _
            clear hHeld hc9 hf9 hr9
            go_wp2_with fail
            go_meet
            case rel => exact ⟨_, _, HS9.out, (fun h => by first | exact HV0.out h | exact HV0.out trivial), (fun h => by omega), HB9.out⟩
        · go_simp
          have HN : Hid (rowAt (u1.alloc (.cells #[.int .i64 1] 3)) u1.heap.size = some #[.int .i64 1]) := Lib.hid (rowAt_new _ _ _)
          replace HX0 := Lib.hid (rowAt_past HX0.out (.cells #[.int .i64 1] 3))
          replace HS0 := Lib.hid (HS0.out.past ((Below.refl u1.heap.size u1).alloc (Nat.le_refl _) (.cells #[.int .i64 1] 3)) rfl)
          replace HB0 := Lib.hid (HB0.out.alloc HB0.out.size (.cells #[.int .i64 1] 3))
          refine hK.out _ _ ⟨rowAt_cell HX0.out 0, rowAt_cell HX0.out 1, rowAt_cell HX0.out 2, rowAt_cell HX0.out 3, rowAt_cell HX0.out 4, rowAt_cell HX0.out 5, rowAt_cell HX0.out 6, rowAt_cell HX0.out 7, rowAt_cell HX0.out 8⟩ (fun hHeld => ?_)
          clear hK K
          try simp only [Act.put, List.setIfInBounds_toArray, List.set_cons_zero, List.set_cons_succ]
          generalize (u1.alloc (.cells #[.int .i64 1] 3)) = u9 at hHeld HN HX0 HS0 HB0 ⊢
          generalize u1.heap.size = nb at HN ⊢
          refine wpAnyH_ready (rs := [7]) (by kernel_rfl) (by simp) ?_
          refine AllReadyH.cons (o := { dst := some 26, op := Op.call { callee := Callee.value (Operand.tmp 24), args := #[Operand.tmp 25], argTypes := #[44] }, type := 3, pos := "stamp.go:61", after := #[{ on := 5, ground := Ground.data }, { on := 6, ground := Ground.data }, { on := 3, ground := Ground.chain }], guard := none }) rfl (fun K hK => ?_) AllReadyH.nil
          go_simp
          go_at_call 25
          refine (thread2_1 _).mono ?_
          rintro e u10 ⟨rfl, hb⟩
          replace HX0 := Lib.hid (rowAt_below HX0.out hb rfl)
          replace HS0 := Lib.hid (HS0.out.past hb rfl)
          replace HB0 := Lib.hid (below_step HB0.out hb rfl rfl rfl rfl)
          replace HN := Lib.hid (rowAt_below HN.out hb rfl)
          clear hb
          refine hK.out _ _ ⟨rowAt_cell HX0.out 0, rowAt_cell HX0.out 1, rowAt_cell HX0.out 2, rowAt_cell HX0.out 3, rowAt_cell HX0.out 4, rowAt_cell HX0.out 5, rowAt_cell HX0.out 6, rowAt_cell HX0.out 7, rowAt_cell HX0.out 8⟩ (fun hHeld => ?_)
          clear hK K
          try simp only [Act.put, List.setIfInBounds_toArray, List.set_cons_zero, List.set_cons_succ]
          refine wpAnyH_take (i := 8) (oi := { dst := some 27, op := Op.indexAddr 52 (Operand.tmp 23) (Operand.tmp 26), type := 0, pos := "stamp.go:61", after := #[{ on := 4, ground := Ground.data }, { on := 7, ground := Ground.data }], guard := none }) (v := ?_) rfl (by kernel_rfl) (by kernel_rfl) (by kernel_rfl) (fun _ _ _ h => h) (Or.inl ⟨by rfl, ?_⟩) (by assumption) ?_
          rotate_left
          · (intro w0 hSw; (try dsimp only at hSw); go_split_ands; go_simp; with_reducible rfl)
          try simp only [Act.put, List.setIfInBounds_toArray, List.set_cons_zero, List.set_cons_succ]
          refine wpAnyH_ready (rs := [9]) (by kernel_rfl) (by simp) ?_
          refine AllReadyH.cons (o := { dst := some 28, op := Op.load 61 (Operand.tmp 27), type := 61, pos := "stamp.go:61", after := #[{ on := 8, ground := Ground.data }], guard := none }) rfl (fun K hK => ?_) AllReadyH.nil
          have hr : u10.cell? ⟨R, 1, none⟩ = some v1 := rowAt_cell HS0.out.rr 1
          go_simp
          refine hK.out _ _ ⟨rowAt_cell HX0.out 0, rowAt_cell HX0.out 1, rowAt_cell HX0.out 2, rowAt_cell HX0.out 3, rowAt_cell HX0.out 4, rowAt_cell HX0.out 5, rowAt_cell HX0.out 6, rowAt_cell HX0.out 7, rowAt_cell HX0.out 8⟩ (fun hHeld => ?_)
          clear hK K hr
          try simp only [Act.put, List.setIfInBounds_toArray, List.set_cons_zero, List.set_cons_succ]
          refine wpAnyH_ready (rs := [12]) (by kernel_rfl) (by simp) ?_
          refine AllReadyH.cons (o := { dst := some 31, op := Op.call { callee := Callee.builtin Builtin.append, args := #[Operand.tmp 28, Operand.tmp 30], argTypes := #[61, 61] }, type := 61, pos := "stamp.go:61", after := #[{ on := 9, ground := Ground.data }, { on := 11, ground := Ground.data }, { on := 7, ground := Ground.chain }], guard := none }) rfl (fun K hK => ?_) AllReadyH.nil
          refine step_append_lies _ (by rfl) (.tmp 28) (.tmp 30) 61 (by rfl) (R + 1) 3 i0 (.int .i64 0) 1 8 Try.underlying61 hi hz0 hz1 hz2 rfl (by omega) v1 0 [] rfl HS0.out.o1 ⟨nb, 0, none⟩ 1 1 [.int .i64 1] rfl rfl (fun j u' hu => news1 HN.out j u' hu) (by intro u' hu; simp only [List.mem_singleton] at hu; subst hu; rfl) (by omega) (by decide) (by decide) (rowAt_lt HS0.out.rr) _ rfl ?_
          intro g cap w9 ho hg hl hlt9
          have hr9 := rowAt_gr HS0.out.rr hg (fun e => by have := (HS0.out.o1.lt _ e).1; omega)
          have HX9 : Hid (rowAt w9 x = some #[.int .i64 1, .int .i64 7, .int .i64 0, .int .i64 0, .int .i64 0, .bool false, .int .i64 0, .int .i64 0, .int .i64 2]) := Lib.hid (rowAt_gr HX0.out hg (fun e => by have := HK.out _ e; omega))
          have HS9 := Lib.hid (HS0.out.put1 ho hg hl)
          have HB9 : Hid (Below w.heap.size w (w9.setCell ⟨R, 1, none⟩ (.slice (some ⟨g, 0, none⟩) 1 cap))) := Lib.hid ((HB0.out.grown hg HB0.out.size (fun k hk => by have := (HS0.out.o1.lt k hk).1; omega)).setCell (p := ⟨R, 1, none⟩) hRw _)
          have hc9 : w9.cell? ⟨R, 1, none⟩ = some v1 := rowAt_cell hr9 1
          have hf9 : w9.frozen? ⟨R, 1, none⟩ = false := rowAt_frz hr9 1
          refine hK.out _ _ ⟨rowAt_cell HX9.out 0, rowAt_cell HX9.out 1, rowAt_cell HX9.out 2, rowAt_cell HX9.out 3, rowAt_cell HX9.out 4, rowAt_cell HX9.out 5, rowAt_cell HX9.out 6, rowAt_cell HX9.out 7, rowAt_cell HX9.out 8⟩ (fun hHeld => ?_)
          clear hK K
          try simp only [Act.put, List.setIfInBounds_toArray, List.set_cons_zero, List.set_cons_succ]
          refine wpAnyH_take (i := 13) (oi := { dst := some 32, op := Op.indexAddr 52 (Operand.tmp 19) (Operand.tmp 22), type := 0, pos := "stamp.go:61", after := #[{ on := 0, ground := Ground.data }, { on := 3, ground := Ground.data }, { on := 0, ground := Ground.phase }, { on := 1, ground := Ground.phase }, { on := 2, ground := Ground.phase }, { on := 3, ground := Ground.phase }, { on := 4, ground := Ground.phase }, { on := 5, ground := Ground.phase }, { on := 6, ground := Ground.phase }, { on := 7, ground := Ground.phase }, { on := 8, ground := Ground.phase }, { on := 9, ground := Ground.phase }, { on := 10, ground := Ground.phase }, { on := 11, ground := Ground.phase }, { on := 12, ground := Ground.phase }], guard := none }) (v := ?_) rfl (by kernel_rfl) (by kernel_rfl) (by kernel_rfl) (fun _ _ _ h => h) (Or.inl ⟨by rfl, ?_⟩) (by assumption) ?_
          rotate_left
          · (intro w0 hSw; (try dsimp only at hSw); go_split_ands; go_simp; with_reducible rfl)
          try simp only [Act.put, List.setIfInBounds_toArray, List.set_cons_zero, List.set_cons_succ]
          refine wpAnyH_ready (rs := [14]) (by kernel_rfl) (by simp) ?_
          refine AllReadyH.cons (o := { dst := none, op := Op.store 61 (Operand.tmp 32) (Operand.tmp 31), type := 0, pos := "stamp.go:61", after := #[{ on := 13, ground := Ground.data }, { on := 12, ground := Ground.data }, { on := 12, ground := Ground.chain }, { on := 0, ground := Ground.phase }, { on := 1, ground := Ground.phase }, { on := 2, ground := Ground.phase }, { on := 3, ground := Ground.phase }, { on := 4, ground := Ground.phase }, { on := 5, ground := Ground.phase }, { on := 6, ground := Ground.phase }, { on := 7, ground := Ground.phase }, { on := 8, ground := Ground.phase }, { on := 9, ground := Ground.phase }, { on := 10, ground := Ground.phase }, { on := 11, ground := Ground.phase }, { on := 12, ground := Ground.phase }], guard := none }) rfl (fun K hK => ?_) AllReadyH.nil
          go_simp
          have HX8 : Hid (rowAt (w9.setCell ⟨R, 1, none⟩ (.slice (some ⟨g, 0, none⟩) 1 cap)) x = some #[.int .i64 1, .int .i64 7, .int .i64 0, .int .i64 0, .int .i64 0, .bool false, .int .i64 0, .int .i64 0, .int .i64 2]) := Lib.hid (rowAt_set_far HX9.out (by omega) _ _)
          refine hK.out _ _ ⟨rowAt_cell HX8.out 0, rowAt_cell HX8.out 1, rowAt_cell HX8.out 2, rowAt_cell HX8.out 3, rowAt_cell HX8.out 4, rowAt_cell HX8.out 5, rowAt_cell HX8.out 6, rowAt_cell HX8.out 7, rowAt_cell HX8.out 8⟩ (fun hHeld => ?_)
          clear hK K
          try simp only [Act.put, List.setIfInBounds_toArray, List.set_cons_zero, List.set_cons_succ]
          refine wpAnyH_done (by kernel_rfl) ?_ _
          clear hHeld hc9 hf9 hr9
          go_wp2_with fail
          go_meet
          case rel => exact ⟨_, _, HS9.out, (fun h => by first | exact HV0.out h | exact HV0.out trivial), (fun h => by omega), HB9.out⟩
      · go_simp
        have HN : Hid (rowAt (u.alloc (.cells #[.int .i64 1] 3)) u.heap.size = some #[.int .i64 1]) := Lib.hid (rowAt_new _ _ _)
        replace HX0 := Lib.hid (rowAt_past HX0.out (.cells #[.int .i64 1] 3))
        replace HS0 := Lib.hid (HS0.out.past ((Below.refl u.heap.size u).alloc (Nat.le_refl _) (.cells #[.int .i64 1] 3)) rfl)
        replace HB0 := Lib.hid (HB0.out.alloc HB0.out.size (.cells #[.int .i64 1] 3))
        refine hK.out _ _ ⟨rowAt_cell HX0.out 0, rowAt_cell HX0.out 1, rowAt_cell HX0.out 2, rowAt_cell HX0.out 3, rowAt_cell HX0.out 4, rowAt_cell HX0.out 5, rowAt_cell HX0.out 6, rowAt_cell HX0.out 7, rowAt_cell HX0.out 8⟩ (fun hHeld => ?_)
        clear hK K
        try simp only [Act.put, List.setIfInBounds_toArray, List.set_cons_zero, List.set_cons_succ]
        generalize (u.alloc (.cells #[.int .i64 1] 3)) = u13 at hHeld HN HX0 HS0 HB0 ⊢
        generalize u.heap.size = nb at HN ⊢
        refine wpAnyH_ready (rs := [3]) (by kernel_rfl) (by simp) ?_
        refine AllReadyH.cons (o := { dst := some 22, op := Op.call { callee := Callee.value (Operand.tmp 20), args := #[Operand.tmp 21], argTypes := #[44] }, type := 3, pos := "stamp.go:61", after := #[{ on := 1, ground := Ground.data }, { on := 2, ground := Ground.data }], guard := none }) rfl (fun K hK => ?_) AllReadyH.nil
        go_simp
        go_at_call 25
        refine (thread2_1 _).mono ?_
        rintro e u14 ⟨rfl, hb⟩
        replace HX0 := Lib.hid (rowAt_below HX0.out hb rfl)
        replace HS0 := Lib.hid (HS0.out.past hb rfl)
        replace HB0 := Lib.hid (below_step HB0.out hb rfl rfl rfl rfl)
        replace HN := Lib.hid (rowAt_below HN.out hb rfl)
        clear hb
        refine hK.out _ _ ⟨rowAt_cell HX0.out 0, rowAt_cell HX0.out 1, rowAt_cell HX0.out 2, rowAt_cell HX0.out 3, rowAt_cell HX0.out 4, rowAt_cell HX0.out 5, rowAt_cell HX0.out 6, rowAt_cell HX0.out 7, rowAt_cell HX0.out 8⟩ (fun hHeld => ?_)
        clear hK K
        try simp only [Act.put, List.setIfInBounds_toArray, List.set_cons_zero, List.set_cons_succ]
        refine wpAnyH_ready (rs := [7]) (by kernel_rfl) (by simp) ?_
        refine AllReadyH.cons (o := { dst := some 26, op := Op.call { callee := Callee.value (Operand.tmp 24), args := #[Operand.tmp 25], argTypes := #[44] }, type := 3, pos := "stamp.go:61", after := #[{ on := 5, ground := Ground.data }, { on := 6, ground := Ground.data }, { on := 3, ground := Ground.chain }], guard := none }) rfl (fun K hK => ?_) AllReadyH.nil
        go_simp
        go_at_call 25
        refine (thread2_1 _).mono ?_
        rintro e u15 ⟨rfl, hb⟩
        replace HX0 := Lib.hid (rowAt_below HX0.out hb rfl)
        replace HS0 := Lib.hid (HS0.out.past hb rfl)
        replace HB0 := Lib.hid (below_step HB0.out hb rfl rfl rfl rfl)
        replace HN := Lib.hid (rowAt_below HN.out hb rfl)
        clear hb
        refine hK.out _ _ ⟨rowAt_cell HX0.out 0, rowAt_cell HX0.out 1, rowAt_cell HX0.out 2, rowAt_cell HX0.out 3, rowAt_cell HX0.out 4, rowAt_cell HX0.out 5, rowAt_cell HX0.out 6, rowAt_cell HX0.out 7, rowAt_cell HX0.out 8⟩ (fun hHeld => ?_)
        clear hK K
        try simp only [Act.put, List.setIfInBounds_toArray, List.set_cons_zero, List.set_cons_succ]
        refine wpAnyH_take (i := 8) (oi := { dst := some 27, op := Op.indexAddr 52 (Operand.tmp 23) (Operand.tmp 26), type := 0, pos := "stamp.go:61", after := #[{ on := 4, ground := Ground.data }, { on := 7, ground := Ground.data }], guard := none }) (v := ?_) rfl (by kernel_rfl) (by kernel_rfl) (by kernel_rfl) (fun _ _ _ h => h) (Or.inl ⟨by rfl, ?_⟩) (by assumption) ?_
        rotate_left
        · (intro w0 hSw; (try dsimp only at hSw); go_split_ands; go_simp; with_reducible rfl)
        try simp only [Act.put, List.setIfInBounds_toArray, List.set_cons_zero, List.set_cons_succ]
        refine wpAnyH_ready (rs := [9]) (by kernel_rfl) (by simp) ?_
        refine AllReadyH.cons (o := { dst := some 28, op := Op.load 61 (Operand.tmp 27), type := 61, pos := "stamp.go:61", after := #[{ on := 8, ground := Ground.data }], guard := none }) rfl (fun K hK => ?_) AllReadyH.nil
        have hr : u15.cell? ⟨R, 1, none⟩ = some v1 := rowAt_cell HS0.out.rr 1
        go_simp
        refine hK.out _ _ ⟨rowAt_cell HX0.out 0, rowAt_cell HX0.out 1, rowAt_cell HX0.out 2, rowAt_cell HX0.out 3, rowAt_cell HX0.out 4, rowAt_cell HX0.out 5, rowAt_cell HX0.out 6, rowAt_cell HX0.out 7, rowAt_cell HX0.out 8⟩ (fun hHeld => ?_)
        clear hK K hr
        try simp only [Act.put, List.setIfInBounds_toArray, List.set_cons_zero, List.set_cons_succ]
        refine wpAnyH_ready (rs := [12]) (by kernel_rfl) (by simp) ?_
        refine AllReadyH.cons (o := { dst := some 31, op := Op.call { callee := Callee.builtin Builtin.append, args := #[Operand.tmp 28, Operand.tmp 30], argTypes := #[61, 61] }, type := 61, pos := "stamp.go:61", after := #[{ on := 9, ground := Ground.data }, { on := 11, ground := Ground.data }, { on := 7, ground := Ground.chain }], guard := none }) rfl (fun K hK => ?_) AllReadyH.nil
        refine step_append_lies _ (by rfl) (.tmp 28) (.tmp 30) 61 (by rfl) (R + 1) 3 i0 (.int .i64 0) 1 8 Try.underlying61 hi hz0 hz1 hz2 rfl (by omega) v1 0 [] rfl HS0.out.o1 ⟨nb, 0, none⟩ 1 1 [.int .i64 1] rfl rfl (fun j u' hu => news1 HN.out j u' hu) (by intro u' hu; simp only [List.mem_singleton] at hu; subst hu; rfl) (by omega) (by decide) (by decide) (rowAt_lt HS0.out.rr) _ rfl ?_
        intro g cap w9 ho hg hl hlt9
        have hr9 := rowAt_gr HS0.out.rr hg (fun e => by have := (HS0.out.o1.lt _ e).1; omega)
        have HX9 : Hid (rowAt w9 x = some #[.int .i64 1, .int .i64 7, .int .i64 0, .int .i64 0, .int .i64 0, .bool false, .int .i64 0, .int .i64 0, .int .i64 2]) := Lib.hid (rowAt_gr HX0.out hg (fun e => by have := HK.out _ e; omega))
        have HS9 := Lib.hid (HS0.out.put1 ho hg hl)
        have HB9 : Hid (Below w.heap.size w (w9.setCell ⟨R, 1, none⟩ (.slice (some ⟨g, 0, none⟩) 1 cap))) := Lib.hid ((HB0.out.grown hg HB0.out.size (fun k hk => by have := (HS0.out.o1.lt k hk).1; omega)).setCell (p := ⟨R, 1, none⟩) hRw _)
        have hc9 : w9.cell? ⟨R, 1, none⟩ = some v1 := rowAt_cell hr9 1
        have hf9 : w9.frozen? ⟨R, 1, none⟩ = false := rowAt_frz hr9 1
        refine hK.out _ _ ⟨rowAt_cell HX9.out 0, rowAt_cell HX9.out 1, rowAt_cell HX9.out 2, rowAt_cell HX9.out 3, rowAt_cell HX9.out 4, rowAt_cell HX9.out 5, rowAt_cell HX9.out 6, rowAt_cell HX9.out 7, rowAt_cell HX9.out 8⟩ (fun hHeld => ?_)
        clear hK K
        try simp only [Act.put, List.setIfInBounds_toArray, List.set_cons_zero, List.set_cons_succ]
        refine wpAnyH_take (i := 13) (oi := { dst := some 32, op := Op.indexAddr 52 (Operand.tmp 19) (Operand.tmp 22), type := 0, pos := "stamp.go:61", after := #[{ on := 0, ground := Ground.data }, { on := 3, ground := Ground.data }, { on := 0, ground := Ground.phase }, { on := 1, ground := Ground.phase }, { on := 2, ground := Ground.phase }, { on := 3, ground := Ground.phase }, { on := 4, ground := Ground.phase }, { on := 5, ground := Ground.phase }, { on := 6, ground := Ground.phase }, { on := 7, ground := Ground.phase }, { on := 8, ground := Ground.phase }, { on := 9, ground := Ground.phase }, { on := 10, ground := Ground.phase }, { on := 11, ground := Ground.phase }, { on := 12, ground := Ground.phase }], guard := none }) (v := ?_) rfl (by kernel_rfl) (by kernel_rfl) (by kernel_rfl) (fun _ _ _ h => h) (Or.inl ⟨by rfl, ?_⟩) (by assumption) ?_
        rotate_left
        · (intro w0 hSw; (try dsimp only at hSw); go_split_ands; go_simp; with_reducible rfl)
        try simp only [Act.put, List.setIfInBounds_toArray, List.set_cons_zero, List.set_cons_succ]
        refine wpAnyH_ready (rs := [14]) (by kernel_rfl) (by simp) ?_
        refine AllReadyH.cons (o := { dst := none, op := Op.store 61 (Operand.tmp 32) (Operand.tmp 31), type := 0, pos := "stamp.go:61", after := #[{ on := 13, ground := Ground.data }, { on := 12, ground := Ground.data }, { on := 12, ground := Ground.chain }, { on := 0, ground := Ground.phase }, { on := 1, ground := Ground.phase }, { on := 2, ground := Ground.phase }, { on := 3, ground := Ground.phase }, { on := 4, ground := Ground.phase }, { on := 5, ground := Ground.phase }, { on := 6, ground := Ground.phase }, { on := 7, ground := Ground.phase }, { on := 8, ground := Ground.phase }, { on := 9, ground := Ground.phase }, { on := 10, ground := Ground.phase }, { on := 11, ground := Ground.phase }, { on := 12, ground := Ground.phase }], guard := none }) rfl (fun K hK => ?_) AllReadyH.nil
        go_simp
        have HX8 : Hid (rowAt (w9.setCell ⟨R, 1, none⟩ (.slice (some ⟨g, 0, none⟩) 1 cap)) x = some #[.int .i64 1, .int .i64 7, .int .i64 0, .int .i64 0, .int .i64 0, .bool false, .int .i64 0, .int .i64 0, .int .i64 2]) := Lib.hid (rowAt_set_far HX9.out (by omega) _ _)
        refine hK.out _ _ ⟨rowAt_cell HX8.out 0, rowAt_cell HX8.out 1, rowAt_cell HX8.out 2, rowAt_cell HX8.out 3, rowAt_cell HX8.out 4, rowAt_cell HX8.out 5, rowAt_cell HX8.out 6, rowAt_cell HX8.out 7, rowAt_cell HX8.out 8⟩ (fun hHeld => ?_)
        clear hK K
        try simp only [Act.put, List.setIfInBounds_toArray, List.set_cons_zero, List.set_cons_succ]
        refine wpAnyH_done (by kernel_rfl) ?_ _
        clear hHeld hc9 hf9 hr9
        go_wp2_with fail
        go_meet
        case rel => exact ⟨_, _, HS9.out, (fun h => by first | exact HV0.out h | exact HV0.out trivial), (fun h => by omega), HB9.out⟩
    case rest =>
      have hRd := hcut
      clear hcut HS HB HV0 HV1
      obtain ⟨W2, hW⟩ : ∃ W, W = wc := ⟨_, rfl⟩
      rw [← hW] at hRd ⊢
      clear hW
      go_wp2
      rw [rounds_succ]
      obtain ⟨v0, v1, hS, hv0, hv1, hB⟩ := hRd
      have HS := Lib.hid hS
      have HB := Lib.hid hB
      have HV0 := Lib.hid hv0
      have HV1 := Lib.hid hv1
      clear hv0 hv1
      obtain ⟨W, hW⟩ : ∃ W, W = W2 := ⟨_, rfl⟩
      rw [← hW] at HS HB ⊢
      have c0 : W.cell? ⟨E, 18, none⟩ = some (.int .i64 0) := rowAt_cell HS.out.ev 18
      have c1 : W.cell? ⟨E, 19, none⟩ = some (.int .i64 7) := rowAt_cell HS.out.ev 19
      have c2 : W.cell? ⟨E, 20, none⟩ = some (.int .i64 0) := rowAt_cell HS.out.ev 20
      have c3 : W.cell? ⟨E, 21, none⟩ = some (.int .i64 0) := rowAt_cell HS.out.ev 21
      have c4 : W.cell? ⟨E, 22, none⟩ = some (.int .i64 0) := rowAt_cell HS.out.ev 22
      have c5 : W.cell? ⟨E, 23, none⟩ = some (.bool false) := rowAt_cell HS.out.ev 23
      have c6 : W.cell? ⟨E, 24, none⟩ = some (.int .i64 0) := rowAt_cell HS.out.ev 24
      have c7 : W.cell? ⟨E, 25, none⟩ = some (.int .i64 0) := rowAt_cell HS.out.ev 25
      have c8 : W.cell? ⟨E, 26, none⟩ = some (.int .i64 3) := rowAt_cell HS.out.ev 26
      clear hS hB hW
      go_upto_block 1 with (fail)
      go_cut [8] (fun s wx => Rd E R w 2 1 [.int .i64 0, .int .i64 2] [.int .i64 1] wx)
      case first =>
        go_wp2
        have HX : Hid (rowAt (W.alloc (.cells #[.int .i64 0, .int .i64 7, .int .i64 0, .int .i64 0, .int .i64 0, .bool false, .int .i64 0, .int .i64 0, .int .i64 3] 44)) W.heap.size = some #[.int .i64 0, .int .i64 7, .int .i64 0, .int .i64 0, .int .i64 0, .bool false, .int .i64 0, .int .i64 0, .int .i64 3]) := Lib.hid (rowAt_new _ _ _)
        have HS1 := Lib.hid (HS.out.past ((Below.refl W.heap.size W).alloc (Nat.le_refl _) (.cells #[.int .i64 0, .int .i64 7, .int .i64 0, .int .i64 0, .int .i64 0, .bool false, .int .i64 0, .int .i64 0, .int .i64 3] 44)) rfl)
        have HB1 := Lib.hid (HB.out.alloc HB.out.size (.cells #[.int .i64 0, .int .i64 7, .int .i64 0, .int .i64 0, .int .i64 0, .bool false, .int .i64 0, .int .i64 0, .int .i64 3] 44))
        have HK : Hid (∀ k, v0.ownBlock = some k → k < W.heap.size) := Lib.hid (fun k hk => (HS.out.o0.lt k hk).2)
        have hRx : R < W.heap.size := rowAt_lt HS.out.rr
        clear c0 c1 c2 c3 c4 c5 c6 c7 c8 HS HB
        generalize (W.alloc (.cells #[.int .i64 0, .int .i64 7, .int .i64 0, .int .i64 0, .int .i64 0, .bool false, .int .i64 0, .int .i64 0, .int .i64 3] 44)) = U at HX HS1 HB1 ⊢
        generalize W.heap.size = x at HX HK hRx ⊢
        refine wp_region_held_drew (S := (fun w' => w'.cell? ⟨x, 0, none⟩ = some (.int .i64 0) ∧ w'.cell? ⟨x, 1, none⟩ = some (.int .i64 7) ∧ w'.cell? ⟨x, 2, none⟩ = some (.int .i64 0) ∧ w'.cell? ⟨x, 3, none⟩ = some (.int .i64 0) ∧ w'.cell? ⟨x, 4, none⟩ = some (.int .i64 0) ∧ w'.cell? ⟨x, 5, none⟩ = some (.bool false) ∧ w'.cell? ⟨x, 6, none⟩ = some (.int .i64 0) ∧ w'.cell? ⟨x, 7, none⟩ = some (.int .i64 0) ∧ w'.cell? ⟨x, 8, none⟩ = some (.int .i64 3))) (by kernel_rfl) ⟨rowAt_cell HX.out 0, rowAt_cell HX.out 1, rowAt_cell HX.out 2, rowAt_cell HX.out 3, rowAt_cell HX.out 4, rowAt_cell HX.out 5, rowAt_cell HX.out 6, rowAt_cell HX.out 7, rowAt_cell HX.out 8⟩ (fun hHeld => ?_)
        have HX0 : Hid (rowAt U.drew x = some #[.int .i64 0, .int .i64 7, .int .i64 0, .int .i64 0, .int .i64 0, .bool false, .int .i64 0, .int .i64 0, .int .i64 3]) := HX
        have HS0 := Lib.hid (HS1.out.same (w' := U.drew) rfl)
        have HB0 := Lib.hid HB1.out.drew
        clear HX HS1 HB1
        generalize U.drew = u at hHeld HX0 HS0 HB0 ⊢
        refine wpAnyH_take (i := 0) (oi := { dst := some 19, op := Op.move (Operand.tmp 7), type := 52, pos := "stamp.go:61", after := #[], guard := none }) (v := ?_) rfl (by kernel_rfl) (by kernel_rfl) (by kernel_rfl) (fun _ _ _ h => h) (Or.inl ⟨by rfl, ?_⟩) (by assumption) ?_
        rotate_left
        · (intro w0 hSw; (try dsimp only at hSw); go_split_ands; go_simp; with_reducible rfl)
        try simp only [Act.put, List.setIfInBounds_toArray, List.set_cons_zero, List.set_cons_succ]
        refine wpAnyH_take (i := 1) (oi := { dst := some 20, op := Op.move (Operand.tmp 2), type := 54, pos := "stamp.go:61", after := #[], guard := none }) (v := ?_) rfl (by kernel_rfl) (by kernel_rfl) (by kernel_rfl) (fun _ _ _ h => h) (Or.inl ⟨by rfl, ?_⟩) (by assumption) ?_
        rotate_left
        · (intro w0 hSw; (try dsimp only at hSw); go_split_ands; go_simp; with_reducible rfl)
        try simp only [Act.put, List.setIfInBounds_toArray, List.set_cons_zero, List.set_cons_succ]
        refine wpAnyH_take (i := 2) (oi := { dst := some 21, op := Op.load 44 (Operand.tmp 9), type := 44, pos := "stamp.go:61", after := #[], guard := none }) (v := ?_) rfl (by kernel_rfl) (by kernel_rfl) (by kernel_rfl) (fun _ _ _ h => h) (Or.inl ⟨by rfl, ?_⟩) (by assumption) ?_
        rotate_left
        · (intro w0 hSw; (try dsimp only at hSw); go_split_ands; go_simp; with_reducible rfl)
        try simp only [Act.put, List.setIfInBounds_toArray, List.set_cons_zero, List.set_cons_succ]
        refine wpAnyH_take (i := 4) (oi := { dst := some 23, op := Op.move (Operand.tmp 7), type := 52, pos := "stamp.go:61", after := #[], guard := none }) (v := ?_) rfl (by kernel_rfl) (by kernel_rfl) (by kernel_rfl) (fun _ _ _ h => h) (Or.inl ⟨by rfl, ?_⟩) (by assumption) ?_
        rotate_left
        · (intro w0 hSw; (try dsimp only at hSw); go_split_ands; go_simp; with_reducible rfl)
        try simp only [Act.put, List.setIfInBounds_toArray, List.set_cons_zero, List.set_cons_succ]
        refine wpAnyH_take (i := 5) (oi := { dst := some 24, op := Op.move (Operand.tmp 2), type := 54, pos := "stamp.go:61", after := #[], guard := none }) (v := ?_) rfl (by kernel_rfl) (by kernel_rfl) (by kernel_rfl) (fun _ _ _ h => h) (Or.inl ⟨by rfl, ?_⟩) (by assumption) ?_
        rotate_left
        · (intro w0 hSw; (try dsimp only at hSw); go_split_ands; go_simp; with_reducible rfl)
        try simp only [Act.put, List.setIfInBounds_toArray, List.set_cons_zero, List.set_cons_succ]
        refine wpAnyH_take (i := 6) (oi := { dst := some 25, op := Op.load 44 (Operand.tmp 9), type := 44, pos := "stamp.go:61", after := #[], guard := none }) (v := ?_) rfl (by kernel_rfl) (by kernel_rfl) (by kernel_rfl) (fun _ _ _ h => h) (Or.inl ⟨by rfl, ?_⟩) (by assumption) ?_
        rotate_left
        · (intro w0 hSw; (try dsimp only at hSw); go_split_ands; go_simp; with_reducible rfl)
        try simp only [Act.put, List.setIfInBounds_toArray, List.set_cons_zero, List.set_cons_succ]
        refine wpAnyH_take (i := 10) (oi := { dst := some 29, op := Op.move (Operand.tmp 8), type := 3, pos := "stamp.go:61", after := #[], guard := none }) (v := ?_) rfl (by kernel_rfl) (by kernel_rfl) (by kernel_rfl) (fun _ _ _ h => h) (Or.inl ⟨by rfl, ?_⟩) (by assumption) ?_
        rotate_left
        · (intro w0 hSw; (try dsimp only at hSw); go_split_ands; go_simp; with_reducible rfl)
        try simp only [Act.put, List.setIfInBounds_toArray, List.set_cons_zero, List.set_cons_succ]
        refine wpAnyH_ready (rs := [3, 11]) (by kernel_rfl) (by simp) ?_
        refine AllReadyH.cons (o := { dst := some 22, op := Op.call { callee := Callee.value (Operand.tmp 20), args := #[Operand.tmp 21], argTypes := #[44] }, type := 3, pos := "stamp.go:61", after := #[{ on := 1, ground := Ground.data }, { on := 2, ground := Ground.data }], guard := none }) rfl (fun K hK => ?_) (AllReadyH.cons (o := { dst := some 30, op := Op.buildSlice 61 1 #[(0, Operand.tmp 29)], type := 61, pos := "stamp.go:61", after := #[{ on := 10, ground := Ground.data }], guard := none }) rfl (fun K hK => ?_) AllReadyH.nil)
        · go_simp
          go_at_call 25
          refine (thread2_2 _).mono ?_
          rintro e u1 ⟨rfl, hb⟩
          replace HX0 := Lib.hid (rowAt_below HX0.out hb rfl)
          replace HS0 := Lib.hid (HS0.out.past hb rfl)
          replace HB0 := Lib.hid (below_step HB0.out hb rfl rfl rfl rfl)
          clear hb
          refine hK.out _ _ ⟨rowAt_cell HX0.out 0, rowAt_cell HX0.out 1, rowAt_cell HX0.out 2, rowAt_cell HX0.out 3, rowAt_cell HX0.out 4, rowAt_cell HX0.out 5, rowAt_cell HX0.out 6, rowAt_cell HX0.out 7, rowAt_cell HX0.out 8⟩ (fun hHeld => ?_)
          clear hK K
          try simp only [Act.put, List.setIfInBounds_toArray, List.set_cons_zero, List.set_cons_succ]
          refine wpAnyH_ready (rs := [7, 11]) (by kernel_rfl) (by simp) ?_
          refine AllReadyH.cons (o := { dst := some 26, op := Op.call { callee := Callee.value (Operand.tmp 24), args := #[Operand.tmp 25], argTypes := #[44] }, type := 3, pos := "stamp.go:61", after := #[{ on := 5, ground := Ground.data }, { on := 6, ground := Ground.data }, { on := 3, ground := Ground.chain }], guard := none }) rfl (fun K hK => ?_) (AllReadyH.cons (o := { dst := some 30, op := Op.buildSlice 61 1 #[(0, Operand.tmp 29)], type := 61, pos := "stamp.go:61", after := #[{ on := 10, ground := Ground.data }], guard := none }) rfl (fun K hK => ?_) AllReadyH.nil)
          · go_simp
            go_at_call 25
            refine (thread2_2 _).mono ?_
            rintro e u2 ⟨rfl, hb⟩
            replace HX0 := Lib.hid (rowAt_below HX0.out hb rfl)
            replace HS0 := Lib.hid (HS0.out.past hb rfl)
            replace HB0 := Lib.hid (below_step HB0.out hb rfl rfl rfl rfl)
            clear hb
            refine hK.out _ _ ⟨rowAt_cell HX0.out 0, rowAt_cell HX0.out 1, rowAt_cell HX0.out 2, rowAt_cell HX0.out 3, rowAt_cell HX0.out 4, rowAt_cell HX0.out 5, rowAt_cell HX0.out 6, rowAt_cell HX0.out 7, rowAt_cell HX0.out 8⟩ (fun hHeld => ?_)
            clear hK K
            try simp only [Act.put, List.setIfInBounds_toArray, List.set_cons_zero, List.set_cons_succ]
            refine wpAnyH_take (i := 8) (oi := { dst := some 27, op := Op.indexAddr 52 (Operand.tmp 23) (Operand.tmp 26), type := 0, pos := "stamp.go:61", after := #[{ on := 4, ground := Ground.data }, { on := 7, ground := Ground.data }], guard := none }) (v := ?_) rfl (by kernel_rfl) (by kernel_rfl) (by kernel_rfl) (fun _ _ _ h => h) (Or.inl ⟨by rfl, ?_⟩) (by assumption) ?_
            rotate_left
            · (intro w0 hSw; (try dsimp only at hSw); go_split_ands; go_simp; with_reducible rfl)
            try simp only [Act.put, List.setIfInBounds_toArray, List.set_cons_zero, List.set_cons_succ]
            refine wpAnyH_ready (rs := [9, 11]) (by kernel_rfl) (by simp) ?_
            refine AllReadyH.cons (o := { dst := some 28, op := Op.load 61 (Operand.tmp 27), type := 61, pos := "stamp.go:61", after := #[{ on := 8, ground := Ground.data }], guard := none }) rfl (fun K hK => ?_) (AllReadyH.cons (o := { dst := some 30, op := Op.buildSlice 61 1 #[(0, Operand.tmp 29)], type := 61, pos := "stamp.go:61", after := #[{ on := 10, ground := Ground.data }], guard := none }) rfl (fun K hK => ?_) AllReadyH.nil)
            · have hr : u2.cell? ⟨R, 0, none⟩ = some v0 := rowAt_cell HS0.out.rr 0
              go_simp
              refine hK.out _ _ ⟨rowAt_cell HX0.out 0, rowAt_cell HX0.out 1, rowAt_cell HX0.out 2, rowAt_cell HX0.out 3, rowAt_cell HX0.out 4, rowAt_cell HX0.out 5, rowAt_cell HX0.out 6, rowAt_cell HX0.out 7, rowAt_cell HX0.out 8⟩ (fun hHeld => ?_)
              clear hK K hr
              try simp only [Act.put, List.setIfInBounds_toArray, List.set_cons_zero, List.set_cons_succ]
              refine wpAnyH_ready (rs := [11]) (by kernel_rfl) (by simp) ?_
              refine AllReadyH.cons (o := { dst := some 30, op := Op.buildSlice 61 1 #[(0, Operand.tmp 29)], type := 61, pos := "stamp.go:61", after := #[{ on := 10, ground := Ground.data }], guard := none }) rfl (fun K hK => ?_) AllReadyH.nil
              go_simp
              have HN : Hid (rowAt (u2.alloc (.cells #[.int .i64 2] 3)) u2.heap.size = some #[.int .i64 2]) := Lib.hid (rowAt_new _ _ _)
              replace HX0 := Lib.hid (rowAt_past HX0.out (.cells #[.int .i64 2] 3))
              replace HS0 := Lib.hid (HS0.out.past ((Below.refl u2.heap.size u2).alloc (Nat.le_refl _) (.cells #[.int .i64 2] 3)) rfl)
              replace HB0 := Lib.hid (HB0.out.alloc HB0.out.size (.cells #[.int .i64 2] 3))
              refine hK.out _ _ ⟨rowAt_cell HX0.out 0, rowAt_cell HX0.out 1, rowAt_cell HX0.out 2, rowAt_cell HX0.out 3, rowAt_cell HX0.out 4, rowAt_cell HX0.out 5, rowAt_cell HX0.out 6, rowAt_cell HX0.out 7, rowAt_cell HX0.out 8⟩ (fun hHeld => ?_)
              clear hK K
              try simp only [Act.put, List.setIfInBounds_toArray, List.set_cons_zero, List.set_cons_succ]
              generalize (u2.alloc (.cells #[.int .i64 2] 3)) = u4 at hHeld HN HX0 HS0 HB0 ⊢
              generalize u2.heap.size = nb at HN ⊢
              refine wpAnyH_ready (rs := [12]) (by kernel_rfl) (by simp) ?_
              refine AllReadyH.cons (o := { dst := some 31, op := Op.call { callee := Callee.builtin Builtin.append, args := #[Operand.tmp 28, Operand.tmp 30], argTypes := #[61, 61] }, type := 61, pos := "stamp.go:61", after := #[{ on := 9, ground := Ground.data }, { on := 11, ground := Ground.data }, { on := 7, ground := Ground.chain }], guard := none }) rfl (fun K hK => ?_) AllReadyH.nil
              refine step_append_lies _ (by rfl) (.tmp 28) (.tmp 30) 61 (by rfl) (R + 1) 3 i0 (.int .i64 0) 1 8 Try.underlying61 hi hz0 hz1 hz2 rfl (by omega) v0 1 [.int .i64 0] rfl HS0.out.o0 ⟨nb, 0, none⟩ 1 1 [.int .i64 2] rfl rfl (fun j u' hu => news1 HN.out j u' hu) (by intro u' hu; simp only [List.mem_singleton] at hu; subst hu; rfl) (by omega) (by decide) (by decide) (rowAt_lt HS0.out.rr) _ rfl ?_
              intro g cap w9 ho hg hl hlt9
              have hr9 := rowAt_gr HS0.out.rr hg (fun e => by have := (HS0.out.o0.lt _ e).1; omega)
              have HX9 : Hid (rowAt w9 x = some #[.int .i64 0, .int .i64 7, .int .i64 0, .int .i64 0, .int .i64 0, .bool false, .int .i64 0, .int .i64 0, .int .i64 3]) := Lib.hid (rowAt_gr HX0.out hg (fun e => by have := HK.out _ e; omega))
              have HS9 := Lib.hid (HS0.out.put0 ho hg hl)
              have HB9 : Hid (Below w.heap.size w (w9.setCell ⟨R, 0, none⟩ (.slice (some ⟨g, 0, none⟩) 2 cap))) := Lib.hid ((HB0.out.grown hg HB0.out.size (fun k hk => by have := (HS0.out.o0.lt k hk).1; omega)).setCell (p := ⟨R, 0, none⟩) hRw _)
              have hc9 : w9.cell? ⟨R, 0, none⟩ = some v0 := rowAt_cell hr9 0
              have hf9 : w9.frozen? ⟨R, 0, none⟩ = false := rowAt_frz hr9 0
              refine hK.out _ _ ⟨rowAt_cell HX9.out 0, rowAt_cell HX9.out 1, rowAt_cell HX9.out 2, rowAt_cell HX9.out 3, rowAt_cell HX9.out 4, rowAt_cell HX9.out 5, rowAt_cell HX9.out 6, rowAt_cell HX9.out 7, rowAt_cell HX9.out 8⟩ (fun hHeld => ?_)
              clear hK K
              try simp only [Act.put, List.setIfInBounds_toArray, List.set_cons_zero, List.set_cons_succ]
              refine wpAnyH_take (i := 13) (oi := { dst := some 32, op := Op.indexAddr 52 (Operand.tmp 19) (Operand.tmp 22), type := 0, pos := "stamp.go:61", after := #[{ on := 0, ground := Ground.data }, { on := 3, ground := Ground.data }, { on := 0, ground := Ground.phase }, { on := 1, ground := Ground.phase }, { on := 2, ground := Ground.phase }, { on := 3, ground := Ground.phase }, { on := 4, ground := Ground.phase }, { on := 5, ground := Ground.phase }, { on := 6, ground := Ground.phase }, { on := 7, ground := Ground.phase }, { on := 8, ground := Ground.phase }, { on := 9, ground := Ground.phase }, { on := 10, ground := Ground.phase }, { on := 11, ground := Ground.phase }, { on := 12, ground := Ground.phase }], guard := none }) (v := ?_) rfl (by kernel_rfl) (by kernel_rfl) (by kernel_rfl) (fun _ _ _ h => h) (Or.inl ⟨by rfl, ?_⟩) (by assumption) ?_
              rotate_left
              · (intro w0 hSw; (try dsimp only at hSw); go_split_ands; go_simp; with_reducible rfl)
              try simp only [Act.put, List.setIfInBounds_toArray, List.set_cons_zero, List.set_cons_succ]
              refine wpAnyH_ready (rs := [14]) (by kernel_rfl) (by simp) ?_
              refine AllReadyH.cons (o := { dst := none, op := Op.store 61 (Operand.tmp 32) (Operand.tmp 31), type := 0, pos := "stamp.go:61", after := #[{ on := 13, ground := Ground.data }, { on := 12, ground := Ground.data }, { on := 12, ground := Ground.chain }, { on := 0, ground := Ground.phase }, { on := 1, ground := Ground.phase }, { on := 2, ground := Ground.phase }, { on := 3, ground := Ground.phase }, { on := 4, ground := Ground.phase }, { on := 5, ground := Ground.phase }, { on := 6, ground := Ground.phase }, { on := 7, ground := Ground.phase }, { on := 8, ground := Ground.phase }, { on := 9, ground := Ground.phase }, { on := 10, ground := Ground.phase }, { on := 11, ground := Ground.phase }, { on := 12, ground := Ground.phase }], guard := none }) rfl (fun K hK => ?_) AllReadyH.nil
              go_simp
              have HX8 : Hid (rowAt (w9.setCell ⟨R, 0, none⟩ (.slice (some ⟨g, 0, none⟩) 2 cap)) x = some #[.int .i64 0, .int .i64 7, .int .i64 0, .int .i64 0, .int .i64 0, .bool false, .int .i64 0, .int .i64 0, .int .i64 3]) := Lib.hid (rowAt_set_far HX9.out (by omega) _ _)
              refine hK.out _ _ ⟨rowAt_cell HX8.out 0, rowAt_cell HX8.out 1, rowAt_cell HX8.out 2, rowAt_cell HX8.out 3, rowAt_cell HX8.out 4, rowAt_cell HX8.out 5, rowAt_cell HX8.out 6, rowAt_cell HX8.out 7, rowAt_cell HX8.out 8⟩ (fun hHeld => ?_)
              clear hK K
              try simp only [Act.put, List.setIfInBounds_toArray, List.set_cons_zero, List.set_cons_succ]
              refine wpAnyH_done (by kernel_rfl) ?_ _
              clear hHeld hc9 hf9 hr9
              go_wp2_with fail
              go_meet
              case rel => exact ⟨_, _, HS9.out, (fun h => by omega), (fun h => by first | exact HV1.out h | exact HV1.out trivial), HB9.out⟩
            · go_simp
              have HN : Hid (rowAt (u2.alloc (.cells #[.int .i64 2] 3)) u2.heap.size = some #[.int .i64 2]) := Lib.hid (rowAt_new _ _ _)
              replace HX0 := Lib.hid (rowAt_past HX0.out (.cells #[.int .i64 2] 3))
              replace HS0 := Lib.hid (HS0.out.past ((Below.refl u2.heap.size u2).alloc (Nat.le_refl _) (.cells #[.int .i64 2] 3)) rfl)
              replace HB0 := Lib.hid (HB0.out.alloc HB0.out.size (.cells #[.int .i64 2] 3))
              refine hK.out _ _ ⟨rowAt_cell HX0.out 0, rowAt_cell HX0.out 1, rowAt_cell HX0.out 2, rowAt_cell HX0.out 3, rowAt_cell HX0.out 4, rowAt_cell HX0.out 5, rowAt_cell HX0.out 6, rowAt_cell HX0.out 7, rowAt_cell HX0.out 8⟩ (fun hHeld => ?_)
              clear hK K
              try simp only [Act.put, List.setIfInBounds_toArray, List.set_cons_zero, List.set_cons_succ]
              generalize (u2.alloc (.cells #[.int .i64 2] 3)) = u6 at hHeld HN HX0 HS0 HB0 ⊢
              generalize u2.heap.size = nb at HN ⊢
              refine wpAnyH_ready (rs := [9]) (by kernel_rfl) (by simp) ?_
              refine AllReadyH.cons (o := { dst := some 28, op := Op.load 61 (Operand.tmp 27), type := 61, pos := "stamp.go:61", after := #[{ on := 8, ground := Ground.data }], guard := none }) rfl (fun K hK => ?_) AllReadyH.nil
              have hr : u6.cell? ⟨R, 0, none⟩ = some v0 := rowAt_cell HS0.out.rr 0
              go_simp
              refine hK.out _ _ ⟨rowAt_cell HX0.out 0, rowAt_cell HX0.out 1, rowAt_cell HX0.out 2, rowAt_cell HX0.out 3, rowAt_cell HX0.out 4, rowAt_cell HX0.out 5, rowAt_cell HX0.out 6, rowAt_cell HX0.out 7, rowAt_cell HX0.out 8⟩ (fun hHeld => ?_)
              clear hK K hr
              try simp only [Act.put, List.setIfInBounds_toArray, List.set_cons_zero, List.set_cons_succ]
              refine wpAnyH_ready (rs := [12]) (by kernel_rfl) (by simp) ?_
              refine AllReadyH.cons (o := { dst := some 31, op := Op.call { callee := Callee.builtin Builtin.append, args := #[Operand.tmp 28, Operand.tmp 30], argTypes := #[61, 61] }, type := 61, pos := "stamp.go:61", after := #[{ on := 9, ground := Ground.data }, { on := 11, ground := Ground.data }, { on := 7, ground := Ground.chain }], guard := none }) rfl (fun K hK => ?_) AllReadyH.nil
              refine step_append_lies _ (by rfl) (.tmp 28) (.tmp 30) 61 (by rfl) (R + 1) 3 i0 (.int .i64 0) 1 8 Try.underlying61 hi hz0 hz1 hz2 rfl (by omega) v0 1 [.int .i64 0] rfl HS0.out.o0 ⟨nb, 0, none⟩ 1 1 [.int .i64 2] rfl rfl (fun j u' hu => news1 HN.out j u' hu) (by intro u' hu; simp only [List.mem_singleton] at hu; subst hu; rfl) (by omega) (by decide) (by decide) (rowAt_lt HS0.out.rr) _ rfl ?_
              intro g cap w9 ho hg hl hlt9
              have hr9 := rowAt_gr HS0.out.rr hg (fun e => by have := (HS0.out.o0.lt _ e).1; omega)
              have HX9 : Hid (rowAt w9 x = some #[.int .i64 0, .int .i64 7, .int .i64 0, .int .i64 0, .int .i64 0, .bool false, .int .i64 0, .int .i64 0, .int .i64 3]) := Lib.hid (rowAt_gr HX0.out hg (fun e => by have := HK.out _ e; omega))
              have HS9 := Lib.hid (HS0.out.put0 ho hg hl)
              have HB9 : Hid (Below w.heap.size w (w9.setCell ⟨R, 0, none⟩ (.slice (some ⟨g, 0, none⟩) 2 cap))) := Lib.hid ((HB0.out.grown hg HB0.out.size (fun k hk => by have := (HS0.out.o0.lt k hk).1; omega)).setCell (p := ⟨R, 0, none⟩) hRw _)
              have hc9 : w9.cell? ⟨R, 0, none⟩ = some v0 := rowAt_cell hr9 0
              have hf9 : w9.frozen? ⟨R, 0, none⟩ = false := rowAt_frz hr9 0
              refine hK.out _ _ ⟨rowAt_cell HX9.out 0, rowAt_cell HX9.out 1, rowAt_cell HX9.out 2, rowAt_cell HX9.out 3, rowAt_cell HX9.out 4, rowAt_cell HX9.out 5, rowAt_cell HX9.out 6, rowAt_cell HX9.out 7, rowAt_cell HX9.out 8⟩ (fun hHeld => ?_)
              clear hK K
              try simp only [Act.put, List.setIfInBounds_toArray, List.set_cons_zero, List.set_cons_succ]
              refine wpAnyH_take (i := 13) (oi := { dst := some 32, op := Op.indexAddr 52 (Operand.tmp 19) (Operand.tmp 22), type := 0, pos := "stamp.go:61", after := #[{ on := 0, ground := Ground.data }, { on := 3, ground := Ground.data }, { on := 0, ground := Ground.phase }, { on := 1, ground := Ground.phase }, { on := 2, ground := Ground.phase }, { on := 3, ground := Ground.phase }, { on := 4, ground := Ground.phase }, { on := 5, ground := Ground.phase }, { on := 6, ground := Ground.phase }, { on := 7, ground := Ground.phase }, { on := 8, ground := Ground.phase }, { on := 9, ground := Ground.phase }, { on := 10, ground := Ground.phase }, { on := 11, ground := Ground.phase }, { on := 12, ground := Ground.phase }], guard := none }) (v := ?_) rfl (by kernel_rfl) (by kernel_rfl) (by kernel_rfl) (fun _ _ _ h => h) (Or.inl ⟨by rfl, ?_⟩) (by assumption) ?_
              rotate_left
              · (intro w0 hSw; (try dsimp only at hSw); go_split_ands; go_simp; with_reducible rfl)
              try simp only [Act.put, List.setIfInBounds_toArray, List.set_cons_zero, List.set_cons_succ]
              refine wpAnyH_ready (rs := [14]) (by kernel_rfl) (by simp) ?_
              refine AllReadyH.cons (o := { dst := none, op := Op.store 61 (Operand.tmp 32) (Operand.tmp 31), type := 0, pos := "stamp.go:61", after := #[{ on := 13, ground := Ground.data }, { on := 12, ground := Ground.data }, { on := 12, ground := Ground.chain }, { on := 0, ground := Ground.phase }, { on := 1, ground := Ground.phase }, { on := 2, ground := Ground.phase }, { on := 3, ground := Ground.phase }, { on := 4, ground := Ground.phase }, { on := 5, ground := Ground.phase }, { on := 6, ground := Ground.phase }, { on := 7, ground := Ground.phase }, { on := 8, ground := Ground.phase }, { on := 9, ground := Ground.phase }, { on := 10, ground := Ground.phase }, { on := 11, ground := Ground.phase }, { on := 12, ground := Ground.phase }], guard := none }) rfl (fun K hK => ?_) AllReadyH.nil
              go_simp
              have HX8 : Hid (rowAt (w9.setCell ⟨R, 0, none⟩ (.slice (some ⟨g, 0, none⟩) 2 cap)) x = some #[.int .i64 0, .int .i64 7, .int .i64 0, .int .i64 0, .int .i64 0, .bool false, .int .i64 0, .int .i64 0, .int .i64 3]) := Lib.hid (rowAt_set_far HX9.out (by omega) _ _)
              refine hK.out _ _ ⟨rowAt_cell HX8.out 0, rowAt_cell HX8.out 1, rowAt_cell HX8.out 2, rowAt_cell HX8.out 3, rowAt_cell HX8.out 4, rowAt_cell HX8.out 5, rowAt_cell HX8.out 6, rowAt_cell HX8.out 7, rowAt_cell HX8.out 8⟩ (fun hHeld => ?_)
              clear hK K
              try simp only [Act.put, List.setIfInBounds_toArray, List.set_cons_zero, List.set_cons_succ]
              refine wpAnyH_done (by kernel_rfl) ?_ _
              clear hHeld hc9 hf9 hr9
              go_wp2_with fail
              go_meet
              case rel => exact ⟨_, _, HS9.out, (fun h => by omega), (fun h => by first | exact HV1.out h | exact HV1.out trivial), HB9.out⟩
          · go_simp
            have HN : Hid (rowAt (u1.alloc (.cells #[.int .i64 2] 3)) u1.heap.size = some #[.int .i64 2]) := Lib.hid (rowAt_new _ _ _)
            replace HX0 := Lib.hid (rowAt_past HX0.out (.cells #[.int .i64 2] 3))
            replace HS0 := Lib.hid (HS0.out.past ((Below.refl u1.heap.size u1).alloc (Nat.le_refl _) (.cells #[.int .i64 2] 3)) rfl)
            replace HB0 := Lib.hid (HB0.out.alloc HB0.out.size (.cells #[.int .i64 2] 3))
            refine hK.out _ _ ⟨rowAt_cell HX0.out 0, rowAt_cell HX0.out 1, rowAt_cell HX0.out 2, rowAt_cell HX0.out 3, rowAt_cell HX0.out 4, rowAt_cell HX0.out 5, rowAt_cell HX0.out 6, rowAt_cell HX0.out 7, rowAt_cell HX0.out 8⟩ (fun hHeld => ?_)
            clear hK K
            try simp only [Act.put, List.setIfInBounds_toArray, List.set_cons_zero, List.set_cons_succ]
            generalize (u1.alloc (.cells #[.int .i64 2] 3)) = u9 at hHeld HN HX0 HS0 HB0 ⊢
            generalize u1.heap.size = nb at HN ⊢
            refine wpAnyH_ready (rs := [7]) (by kernel_rfl) (by simp) ?_
            refine AllReadyH.cons (o := { dst := some 26, op := Op.call { callee := Callee.value (Operand.tmp 24), args := #[Operand.tmp 25], argTypes := #[44] }, type := 3, pos := "stamp.go:61", after := #[{ on := 5, ground := Ground.data }, { on := 6, ground := Ground.data }, { on := 3, ground := Ground.chain }], guard := none }) rfl (fun K hK => ?_) AllReadyH.nil
            go_simp
            go_at_call 25
            refine (thread2_2 _).mono ?_
            rintro e u10 ⟨rfl, hb⟩
            replace HX0 := Lib.hid (rowAt_below HX0.out hb rfl)
            replace HS0 := Lib.hid (HS0.out.past hb rfl)
            replace HB0 := Lib.hid (below_step HB0.out hb rfl rfl rfl rfl)
            replace HN := Lib.hid (rowAt_below HN.out hb rfl)
            clear hb
            refine hK.out _ _ ⟨rowAt_cell HX0.out 0, rowAt_cell HX0.out 1, rowAt_cell HX0.out 2, rowAt_cell HX0.out 3, rowAt_cell HX0.out 4, rowAt_cell HX0.out 5, rowAt_cell HX0.out 6, rowAt_cell HX0.out 7, rowAt_cell HX0.out 8⟩ (fun hHeld => ?_)
            clear hK K
            try simp only [Act.put, List.setIfInBounds_toArray, List.set_cons_zero, List.set_cons_succ]
            refine wpAnyH_take (i := 8) (oi := { dst := some 27, op := Op.indexAddr 52 (Operand.tmp 23) (Operand.tmp 26), type := 0, pos := "stamp.go:61", after := #[{ on := 4, ground := Ground.data }, { on := 7, ground := Ground.data }], guard := none }) (v := ?_) rfl (by kernel_rfl) (by kernel_rfl) (by kernel_rfl) (fun _ _ _ h => h) (Or.inl ⟨by rfl, ?_⟩) (by assumption) ?_
            rotate_left
            · (intro w0 hSw; (try dsimp only at hSw); go_split_ands; go_simp; with_reducible rfl)
            try simp only [Act.put, List.setIfInBounds_toArray, List.set_cons_zero, List.set_cons_succ]
            refine wpAnyH_ready (rs := [9]) (by kernel_rfl) (by simp) ?_
            refine AllReadyH.cons (o := { dst := some 28, op := Op.load 61 (Operand.tmp 27), type := 61, pos := "stamp.go:61", after := #[{ on := 8, ground := Ground.data }], guard := none }) rfl (fun K hK => ?_) AllReadyH.nil
            have hr : u10.cell? ⟨R, 0, none⟩ = some v0 := rowAt_cell HS0.out.rr 0
            go_simp
            refine hK.out _ _ ⟨rowAt_cell HX0.out 0, rowAt_cell HX0.out 1, rowAt_cell HX0.out 2, rowAt_cell HX0.out 3, rowAt_cell HX0.out 4, rowAt_cell HX0.out 5, rowAt_cell HX0.out 6, rowAt_cell HX0.out 7, rowAt_cell HX0.out 8⟩ (fun hHeld => ?_)
            clear hK K hr
            try simp only [Act.put, List.setIfInBounds_toArray, List.set_cons_zero, List.set_cons_succ]
            refine wpAnyH_ready (rs := [12]) (by kernel_rfl) (by simp) ?_
            refine AllReadyH.cons (o := { dst := some 31, op := Op.call { callee := Callee.builtin Builtin.append, args := #[Operand.tmp 28, Operand.tmp 30], argTypes := #[61, 61] }, type := 61, pos := "stamp.go:61", after := #[{ on := 9, ground := Ground.data }, { on := 11, ground := Ground.data }, { on := 7, ground := Ground.chain }], guard := none }) rfl (fun K hK => ?_) AllReadyH.nil
            refine step_append_lies _ (by rfl) (.tmp 28) (.tmp 30) 61 (by rfl) (R + 1) 3 i0 (.int .i64 0) 1 8 Try.underlying61 hi hz0 hz1 hz2 rfl (by omega) v0 1 [.int .i64 0] rfl HS0.out.o0 ⟨nb, 0, none⟩ 1 1 [.int .i64 2] rfl rfl (fun j u' hu => news1 HN.out j u' hu) (by intro u' hu; simp only [List.mem_singleton] at hu; subst hu; rfl) (by omega) (by decide) (by decide) (rowAt_lt HS0.out.rr) _ rfl ?_
            intro g cap w9 ho hg hl hlt9
            have hr9 := rowAt_gr HS0.out.rr hg (fun e => by have := (HS0.out.o0.lt _ e).1; omega)
            have HX9 : Hid (rowAt w9 x = some #[.int .i64 0, .int .i64 7, .int .i64 0, .int .i64 0, .int .i64 0, .bool false, .int .i64 0, .int .i64 0, .int .i64 3]) := Lib.hid (rowAt_gr HX0.out hg (fun e => by have := HK.out _ e; omega))
            have HS9 := Lib.hid (HS0.out.put0 ho hg hl)
            have HB9 : Hid (Below w.heap.size w (w9.setCell ⟨R, 0, none⟩ (.slice (some ⟨g, 0, none⟩) 2 cap))) := Lib.hid ((HB0.out.grown hg HB0.out.size (fun k hk => by have := (HS0.out.o0.lt k hk).1; omega)).setCell (p := ⟨R, 0, none⟩) hRw _)
            have hc9 : w9.cell? ⟨R, 0, none⟩ = some v0 := rowAt_cell hr9 0
            have hf9 : w9.frozen? ⟨R, 0, none⟩ = false := rowAt_frz hr9 0
            refine hK.out _ _ ⟨rowAt_cell HX9.out 0, rowAt_cell HX9.out 1, rowAt_cell HX9.out 2, rowAt_cell HX9.out 3, rowAt_cell HX9.out 4, rowAt_cell HX9.out 5, rowAt_cell HX9.out 6, rowAt_cell HX9.out 7, rowAt_cell HX9.out 8⟩ (fun hHeld => ?_)
            clear hK K
            try simp only [Act.put, List.setIfInBounds_toArray, List.set_cons_zero, List.set_cons_succ]
            refine wpAnyH_take (i := 13) (oi := { dst := some 32, op := Op.indexAddr 52 (Operand.tmp 19) (Operand.tmp 22), type := 0, pos := "stamp.go:61", after := #[{ on := 0, ground := Ground.data }, { on := 3, ground := Ground.data }, { on := 0, ground := Ground.phase }, { on := 1, ground := Ground.phase }, { on := 2, ground := Ground.phase }, { on := 3, ground := Ground.phase }, { on := 4, ground := Ground.phase }, { on := 5, ground := Ground.phase }, { on := 6, ground := Ground.phase }, { on := 7, ground := Ground.phase }, { on := 8, ground := Ground.phase }, { on := 9, ground := Ground.phase }, { on := 10, ground := Ground.phase }, { on := 11, ground := Ground.phase }, { on := 12, ground := Ground.phase }], guard := none }) (v := ?_) rfl (by kernel_rfl) (by kernel_rfl) (by kernel_rfl) (fun _ _ _ h => h) (Or.inl ⟨by rfl, ?_⟩) (by assumption) ?_
            rotate_left
            · (intro w0 hSw; (try dsimp only at hSw); go_split_ands; go_simp; with_reducible rfl)
            try simp only [Act.put, List.setIfInBounds_toArray, List.set_cons_zero, List.set_cons_succ]
            refine wpAnyH_ready (rs := [14]) (by kernel_rfl) (by simp) ?_
            refine AllReadyH.cons (o := { dst := none, op := Op.store 61 (Operand.tmp 32) (Operand.tmp 31), type := 0, pos := "stamp.go:61", after := #[{ on := 13, ground := Ground.data }, { on := 12, ground := Ground.data }, { on := 12, ground := Ground.chain }, { on := 0, ground := Ground.phase }, { on := 1, ground := Ground.phase }, { on := 2, ground := Ground.phase }, { on := 3, ground := Ground.phase }, { on := 4, ground := Ground.phase }, { on := 5, ground := Ground.phase }, { on := 6, ground := Ground.phase }, { on := 7, ground := Ground.phase }, { on := 8, ground := Ground.phase }, { on := 9, ground := Ground.phase }, { on := 10, ground := Ground.phase }, { on := 11, ground := Ground.phase }, { on := 12, ground := Ground.phase }], guard := none }) rfl (fun K hK => ?_) AllReadyH.nil
            go_simp
            have HX8 : Hid (rowAt (w9.setCell ⟨R, 0, none⟩ (.slice (some ⟨g, 0, none⟩) 2 cap)) x = some #[.int .i64 0, .int .i64 7, .int .i64 0, .int .i64 0, .int .i64 0, .bool false, .int .i64 0, .int .i64 0, .int .i64 3]) := Lib.hid (rowAt_set_far HX9.out (by omega) _ _)
            refine hK.out _ _ ⟨rowAt_cell HX8.out 0, rowAt_cell HX8.out 1, rowAt_cell HX8.out 2, rowAt_cell HX8.out 3, rowAt_cell HX8.out 4, rowAt_cell HX8.out 5, rowAt_cell HX8.out 6, rowAt_cell HX8.out 7, rowAt_cell HX8.out 8⟩ (fun hHeld => ?_)
            clear hK K
            try simp only [Act.put, List.setIfInBounds_toArray, List.set_cons_zero, List.set_cons_succ]
            refine wpAnyH_done (by kernel_rfl) ?_ _
            clear hHeld hc9 hf9 hr9
            go_wp2_with fail
            go_meet
            case rel => exact ⟨_, _, HS9.out, (fun h => by omega), (fun h => by first | exact HV1.out h | exact HV1.out trivial), HB9.out⟩
        · go_simp
          have HN : Hid (rowAt (u.alloc (.cells #[.int .i64 2] 3)) u.heap.size = some #[.int .i64 2]) := Lib.hid (rowAt_new _ _ _)
          replace HX0 := Lib.hid (rowAt_past HX0.out (.cells #[.int .i64 2] 3))
          replace HS0 := Lib.hid (HS0.out.past ((Below.refl u.heap.size u).alloc (Nat.le_refl _) (.cells #[.int .i64 2] 3)) rfl)
          replace HB0 := Lib.hid (HB0.out.alloc HB0.out.size (.cells #[.int .i64 2] 3))
          refine hK.out _ _ ⟨rowAt_cell HX0.out 0, rowAt_cell HX0.out 1, rowAt_cell HX0.out 2, rowAt_cell HX0.out 3, rowAt_cell HX0.out 4, rowAt_cell HX0.out 5, rowAt_cell HX0.out 6, rowAt_cell HX0.out 7, rowAt_cell HX0.out 8⟩ (fun hHeld => ?_)
          clear hK K
          try simp only [Act.put, List.setIfInBounds_toArray, List.set_cons_zero, List.set_cons_succ]
          generalize (u.alloc (.cells #[.int .i64 2] 3)) = u13 at hHeld HN HX0 HS0 HB0 ⊢
          generalize u.heap.size = nb at HN ⊢
          refine wpAnyH_ready (rs := [3]) (by kernel_rfl) (by simp) ?_
          refine AllReadyH.cons (o := { dst := some 22, op := Op.call { callee := Callee.value (Operand.tmp 20), args := #[Operand.tmp 21], argTypes := #[44] }, type := 3, pos := "stamp.go:61", after := #[{ on := 1, ground := Ground.data }, { on := 2, ground := Ground.data }], guard := none }) rfl (fun K hK => ?_) AllReadyH.nil
          go_simp
          go_at_call 25
          refine (thread2_2 _).mono ?_
          rintro e u14 ⟨rfl, hb⟩
          replace HX0 := Lib.hid (rowAt_below HX0.out hb rfl)
          replace HS0 := Lib.hid (HS0.out.past hb rfl)
          replace HB0 := Lib.hid (below_step HB0.out hb rfl rfl rfl rfl)
          replace HN := Lib.hid (rowAt_below HN.out hb rfl)
          clear hb
          refine hK.out _ _ ⟨rowAt_cell HX0.out 0, rowAt_cell HX0.out 1, rowAt_cell HX0.out 2, rowAt_cell HX0.out 3, rowAt_cell HX0.out 4, rowAt_cell HX0.out 5, rowAt_cell HX0.out 6, rowAt_cell HX0.out 7, rowAt_cell HX0.out 8⟩ (fun hHeld => ?_)
          clear hK K
          try simp only [Act.put, List.setIfInBounds_toArray, List.set_cons_zero, List.set_cons_succ]
          refine wpAnyH_ready (rs := [7]) (by kernel_rfl) (by simp) ?_
          refine AllReadyH.cons (o := { dst := some 26, op := Op.call { callee := Callee.value (Operand.tmp 24), args := #[Operand.tmp 25], argTypes := #[44] }, type := 3, pos := "stamp.go:61", after := #[{ on := 5, ground := Ground.data }, { on := 6, ground := Ground.data }, { on := 3, ground := Ground.chain }], guard := none }) rfl (fun K hK => ?_) AllReadyH.nil
          go_simp
          go_at_call 25
          refine (thread2_2 _).mono ?_
          rintro e u15 ⟨rfl, hb⟩
          replace HX0 := Lib.hid (rowAt_below HX0.out hb rfl)
          replace HS0 := Lib.hid (HS0.out.past hb rfl)
          replace HB0 := Lib.hid (below_step HB0.out hb rfl rfl rfl rfl)
          replace HN := Lib.hid (rowAt_below HN.out hb rfl)
          clear hb
          refine hK.out _ _ ⟨rowAt_cell HX0.out 0, rowAt_cell HX0.out 1, rowAt_cell HX0.out 2, rowAt_cell HX0.out 3, rowAt_cell HX0.out 4, rowAt_cell HX0.out 5, rowAt_cell HX0.out 6, rowAt_cell HX0.out 7, rowAt_cell HX0.out 8⟩ (fun hHeld => ?_)
          clear hK K
          try simp only [Act.put, List.setIfInBounds_toArray, List.set_cons_zero, List.set_cons_succ]
          refine wpAnyH_take (i := 8) (oi := { dst := some 27, op := Op.indexAddr 52 (Operand.tmp 23) (Operand.tmp 26), type := 0, pos := "stamp.go:61", after := #[{ on := 4, ground := Ground.data }, { on := 7, ground := Ground.data }], guard := none }) (v := ?_) rfl (by kernel_rfl) (by kernel_rfl) (by kernel_rfl) (fun _ _ _ h => h) (Or.inl ⟨by rfl, ?_⟩) (by assumption) ?_
          rotate_left
          · (intro w0 hSw; (try dsimp only at hSw); go_split_ands; go_simp; with_reducible rfl)
          try simp only [Act.put, List.setIfInBounds_toArray, List.set_cons_zero, List.set_cons_succ]
          refine wpAnyH_ready (rs := [9]) (by kernel_rfl) (by simp) ?_
          refine AllReadyH.cons (o := { dst := some 28, op := Op.load 61 (Operand.tmp 27), type := 61, pos := "stamp.go:61", after := #[{ on := 8, ground := Ground.data }], guard := none }) rfl (fun K hK => ?_) AllReadyH.nil
          have hr : u15.cell? ⟨R, 0, none⟩ = some v0 := rowAt_cell HS0.out.rr 0
          go_simp
          refine hK.out _ _ ⟨rowAt_cell HX0.out 0, rowAt_cell HX0.out 1, rowAt_cell HX0.out 2, rowAt_cell HX0.out 3, rowAt_cell HX0.out 4, rowAt_cell HX0.out 5, rowAt_cell HX0.out 6, rowAt_cell HX0.out 7, rowAt_cell HX0.out 8⟩ (fun hHeld => ?_)
          clear hK K hr
          try simp only [Act.put, List.setIfInBounds_toArray, List.set_cons_zero, List.set_cons_succ]
          refine wpAnyH_ready (rs := [12]) (by kernel_rfl) (by simp) ?_
          refine AllReadyH.cons (o := { dst := some 31, op := Op.call { callee := Callee.builtin Builtin.append, args := #[Operand.tmp 28, Operand.tmp 30], argTypes := #[61, 61] }, type := 61, pos := "stamp.go:61", after := #[{ on := 9, ground := Ground.data }, { on := 11, ground := Ground.data }, { on := 7, ground := Ground.chain }], guard := none }) rfl (fun K hK => ?_) AllReadyH.nil
          refine step_append_lies _ (by rfl) (.tmp 28) (.tmp 30) 61 (by rfl) (R + 1) 3 i0 (.int .i64 0) 1 8 Try.underlying61 hi hz0 hz1 hz2 rfl (by omega) v0 1 [.int .i64 0] rfl HS0.out.o0 ⟨nb, 0, none⟩ 1 1 [.int .i64 2] rfl rfl (fun j u' hu => news1 HN.out j u' hu) (by intro u' hu; simp only [List.mem_singleton] at hu; subst hu; rfl) (by omega) (by decide) (by decide) (rowAt_lt HS0.out.rr) _ rfl ?_
          intro g cap w9 ho hg hl hlt9
          have hr9 := rowAt_gr HS0.out.rr hg (fun e => by have := (HS0.out.o0.lt _ e).1; omega)
          have HX9 : Hid (rowAt w9 x = some #[.int .i64 0, .int .i64 7, .int .i64 0, .int .i64 0, .int .i64 0, .bool false, .int .i64 0, .int .i64 0, .int .i64 3]) := Lib.hid (rowAt_gr HX0.out hg (fun e => by have := HK.out _ e; omega))
          have HS9 := Lib.hid (HS0.out.put0 ho hg hl)
          have HB9 : Hid (Below w.heap.size w (w9.setCell ⟨R, 0, none⟩ (.slice (some ⟨g, 0, none⟩) 2 cap))) := Lib.hid ((HB0.out.grown hg HB0.out.size (fun k hk => by have := (HS0.out.o0.lt k hk).1; omega)).setCell (p := ⟨R, 0, none⟩) hRw _)
          have hc9 : w9.cell? ⟨R, 0, none⟩ = some v0 := rowAt_cell hr9 0
          have hf9 : w9.frozen? ⟨R, 0, none⟩ = false := rowAt_frz hr9 0
          refine hK.out _ _ ⟨rowAt_cell HX9.out 0, rowAt_cell HX9.out 1, rowAt_cell HX9.out 2, rowAt_cell HX9.out 3, rowAt_cell HX9.out 4, rowAt_cell HX9.out 5, rowAt_cell HX9.out 6, rowAt_cell HX9.out 7, rowAt_cell HX9.out 8⟩ (fun hHeld => ?_)
          clear hK K
          try simp only [Act.put, List.setIfInBounds_toArray, List.set_cons_zero, List.set_cons_succ]
          refine wpAnyH_take (i := 13) (oi := { dst := some 32, op := Op.indexAddr 52 (Operand.tmp 19) (Operand.tmp 22), type := 0, pos := "stamp.go:61", after := #[{ on := 0, ground := Ground.data }, { on := 3, ground := Ground.data }, { on := 0, ground := Ground.phase }, { on := 1, ground := Ground.phase }, { on := 2, ground := Ground.phase }, { on := 3, ground := Ground.phase }, { on := 4, ground := Ground.phase }, { on := 5, ground := Ground.phase }, { on := 6, ground := Ground.phase }, { on := 7, ground := Ground.phase }, { on := 8, ground := Ground.phase }, { on := 9, ground := Ground.phase }, { on := 10, ground := Ground.phase }, { on := 11, ground := Ground.phase }, { on := 12, ground := Ground.phase }], guard := none }) (v := ?_) rfl (by kernel_rfl) (by kernel_rfl) (by kernel_rfl) (fun _ _ _ h => h) (Or.inl ⟨by rfl, ?_⟩) (by assumption) ?_
          rotate_left
          · (intro w0 hSw; (try dsimp only at hSw); go_split_ands; go_simp; with_reducible rfl)
          try simp only [Act.put, List.setIfInBounds_toArray, List.set_cons_zero, List.set_cons_succ]
          refine wpAnyH_ready (rs := [14]) (by kernel_rfl) (by simp) ?_
          refine AllReadyH.cons (o := { dst := none, op := Op.store 61 (Operand.tmp 32) (Operand.tmp 31), type := 0, pos := "stamp.go:61", after := #[{ on := 13, ground := Ground.data }, { on := 12, ground := Ground.data }, { on := 12, ground := Ground.chain }, { on := 0, ground := Ground.phase }, { on := 1, ground := Ground.phase }, { on := 2, ground := Ground.phase }, { on := 3, ground := Ground.phase }, { on := 4, ground := Ground.phase }, { on := 5, ground := Ground.phase }, { on := 6, ground := Ground.phase }, { on := 7, ground := Ground.phase }, { on := 8, ground := Ground.phase }, { on := 9, ground := Ground.phase }, { on := 10, ground := Ground.phase }, { on := 11, ground := Ground.phase }, { on := 12, ground := Ground.phase }], guard := none }) rfl (fun K hK => ?_) AllReadyH.nil
          go_simp
          have HX8 : Hid (rowAt (w9.setCell ⟨R, 0, none⟩ (.slice (some ⟨g, 0, none⟩) 2 cap)) x = some #[.int .i64 0, .int .i64 7, .int .i64 0, .int .i64 0, .int .i64 0, .bool false, .int .i64 0, .int .i64 0, .int .i64 3]) := Lib.hid (rowAt_set_far HX9.out (by omega) _ _)
          refine hK.out _ _ ⟨rowAt_cell HX8.out 0, rowAt_cell HX8.out 1, rowAt_cell HX8.out 2, rowAt_cell HX8.out 3, rowAt_cell HX8.out 4, rowAt_cell HX8.out 5, rowAt_cell HX8.out 6, rowAt_cell HX8.out 7, rowAt_cell HX8.out 8⟩ (fun hHeld => ?_)
          clear hK K
          try simp only [Act.put, List.setIfInBounds_toArray, List.set_cons_zero, List.set_cons_succ]
          refine wpAnyH_done (by kernel_rfl) ?_ _
          clear hHeld hc9 hf9 hr9
          go_wp2_with fail
          go_meet
          case rel => exact ⟨_, _, HS9.out, (fun h => by omega), (fun h => by first | exact HV1.out h | exact HV1.out trivial), HB9.out⟩
      case rest =>
        have hRd := hcut
        clear hcut HS HB HV0 HV1
        obtain ⟨W3, hW⟩ : ∃ W, W = wc := ⟨_, rfl⟩
        rw [← hW] at hRd ⊢
        clear hW
        go_wp2
        rw [rounds_succ]
        go_wp2
        go_ret
        obtain ⟨v0, v1, hS, hv0, hv1, hB⟩ := hRd
        exact ⟨R, v0, v1, rfl, hRw, hS.rr, ⟨hS.o0, fun h => by cases h⟩, ⟨hS.o1, fun h => by cases h⟩, hB⟩
end Go.Proofs.Ytnmgafaebggeiaa
