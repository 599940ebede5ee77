import Derived.Test.YtnmgafaebggeiaaSi
import Derived.Test.YtnmgafaebggeiaaKb
namespace Go.Proofs.Ytnmgafaebggeiaa.St
open Go.ChangeShapes Go.WideShapes Go.ChangeAt Go.RowKit Go.Maps
set_option linter.unusedVariables false
/-! ### split -/
theorem el61 : El 61 3 1 := by
  obtain ⟨i, hi, h1, h2, h3⟩ := info_parts info3
  exact ⟨i, .int .i64 0, 8, Try.underlying61, hi, h1, h2, h3, rfl, by omega, by omega⟩
def rowsOf (X : Nat → Ev) (n k : Nat) : List Nat := (List.range n).filter fun i => decide ((X i).th = (k : Nat))
theorem rowsOf_step (X : Nat → Ev) (n k : Nat) (h : (X n).th = (k : Nat)) : rowsOf X (n + 1) = upd (rowsOf X n) k (rowsOf X n k ++ [n]) := by
  funext j
  unfold rowsOf upd
  rw [List.range_succ, List.filter_append]
  by_cases e : j = k
  · subst e
    simp [h]
  · rw [if_neg e]
    have : ¬ (X n).th = (j : Nat) := by rw [h]; omega
    simp [this]
def intL (l : List Nat) : List Value := l.map fun i => .int .i64 (i : Nat)
/-- The rows in the making. -/
structure SpC (w0 : World) (R : Nat) (V : Nat → Value) (L : Nat → List Nat) (W : World) : Prop where
  rr : W.heap[R]? = some (.cells #[V 0, V 1, V 2, V 3] 61 (0, 0))
  rows : ∀ k, k < 4 → W.ownsRow (R + 1) 3 1 (V k) (L k).length (intL (L k))
  ap : ∀ j k, j < 4 → k < 4 → j ≠ k → ∀ q, (V j).ownBlock = some q → (V k).ownBlock ≠ some q
  lR : w0.heap.size ≤ R
  bel : Below w0.heap.size w0 W
section
variable {w0 W W' : World} {R : Nat} {V : Nat → Value} {L : Nat → List Nat}
theorem SpC.lr (h : SpC w0 R V L W) : R < W.heap.size := (Array.getElem?_eq_some_iff.1 h.rr).1
theorem SpC.past (h : SpC w0 R V L W) (hb : Below W.heap.size W W') : SpC w0 R V L W' :=
  ⟨(hb.block R h.lr).trans h.rr, fun k hk => own_past (h.rows k hk) hb, h.ap, h.lR, h.bel.trans (hb.mono h.bel.size)⟩
theorem SpC.cell (h : SpC w0 R V L W) {k : Nat} (hk : k < 4) : W.cell? ⟨R, k, none⟩ = some (V k) := by
  rw [cell_of_row W R k _ 61 _ h.rr]
  rcases k with _ | _ | _ | _ | k
  · rfl
  · rfl
  · rfl
  · rfl
  · omega
theorem SpC.put (h : SpC w0 R V L W) {k i : Nat} (hk : k < 4) {v : Value} (ho : W'.ownsRow (R + 1) 3 1 v ((L k).length + 1) (intL (L k) ++ [.int .i64 (i : Nat)])) (hg : W.grownBy W' (V k).ownBlock) (hl : v.ownBlock = (V k).ownBlock ∨ v.ownBlock = some W.heap.size) :
    SpC w0 R (upd V k v) (upd L k (L k ++ [i])) (W'.setCell ⟨R, k, none⟩ v) := by
  have hR := h.lr
  have hb : ∀ j, j < 4 → ∀ q, (V j).ownBlock = some q → R + 1 ≤ q ∧ q < W.heap.size := fun j hj q hq => (h.rows j hj).lt q hq
  have hRR : W'.heap[R]? = some (.cells #[V 0, V 1, V 2, V 3] 61 (0, 0)) := (hg.block R hR (fun e => by have := hb k hk R e.symm; omega)).trans h.rr
  refine ⟨?_, fun j hj => ?_, fun j j' hj hj' hne q hq => ?_, h.lR, (h.bel.grown hg h.bel.size (fun q hq => by have := hb k hk q hq; have := h.lR; omega)).setCell h.lR _⟩
  · rw [heap_setCell_same _ R k _ 61 v hRR]
    rcases k with _ | _ | _ | _ | k
    · rfl
    · rfl
    · rfl
    · rfl
    · omega
  · by_cases e : j = k
    · subst e
      rw [upd_same, upd_same]
      have := ownsRow_setCell_below ho (a := ⟨R, j, none⟩) (by show R < R + 1; omega) v
      rw [show (L j ++ [i]).length = (L j).length + 1 by simp, show intL (L j ++ [i]) = intL (L j) ++ [.int .i64 (i : Nat)] by simp [intL]]
      exact this
    · rw [upd_ne _ _ e, upd_ne _ _ e]
      have h1 : W'.ownsRow (R + 1) 3 1 (V j) (L j).length (intL (L j)) := own_kept (h.rows j hj) fun q hq => hg.block q (hb j hj q hq).2 fun e1 => h.ap j k hj hk e q hq e1.symm
      exact ownsRow_setCell_below h1 (a := ⟨R, k, none⟩) (by show R < R + 1; omega) v
  · have new : ∀ j, j < 4 → j ≠ k → ∀ q, (V j).ownBlock = some q → v.ownBlock ≠ some q := fun j hj hjk q hq e1 => by
      rcases hl with hl | hl
      · exact h.ap j k hj hk hjk q hq (hl ▸ e1)
      · rw [hl] at e1
        injection e1 with e1
        have := (hb j hj q hq).2
        omega
    by_cases e : j = k
    · subst e
      rw [upd_same] at hq
      rw [upd_ne _ _ (Ne.symm hne)]
      exact fun e1 => new j' hj' (Ne.symm hne) q e1 hq
    · rw [upd_ne _ _ e] at hq
      by_cases e' : j' = k
      · subst e'
        rw [upd_same]
        exact new j hj e q hq
      · rw [upd_ne _ _ e']
        exact h.ap j j' hj hj' hne q hq
/-- While one row grows. -/
structure J5 (w0 : World) (R x : Nat) (V : Nat → Value) (L : Nat → List Nat) (ev : Array Value) (W : World) : Prop where
  sp : SpC w0 R V L W
  ec : rowAt W x = some ev
theorem J5.past {x : Nat} {ev : Array Value} (h : J5 w0 R x V L ev W) (hb : Below W.heap.size W W') : J5 w0 R x V L ev W' := ⟨h.sp.past hb, rowAt_below h.ec hb rfl⟩
theorem J5.build {x : Nat} {ev : Array Value} (h : J5 w0 R x V L ev W) (i : Nat) : ∃ U' g, U' = W.alloc (.cells #[.int .i64 (i : Nat)] 3) ∧ g = W.heap.size ∧ J5 w0 R x V L ev U' ∧ rowAt U' g = some #[.int .i64 (i : Nat)] :=
  ⟨_, _, rfl, rfl, h.past ((Below.refl _ _).alloc (Nat.le_refl _) _), rowAt_new _ _ _⟩
theorem src_one {W : World} {g i : Nat} (h : rowAt W g = some #[.int .i64 (i : Nat)]) : Src W 1 (.slice (some ⟨g, 0, none⟩) 1 1) 1 [.int .i64 (i : Nat)] := by
  refine ⟨_, _, rfl, rfl, fun j x hj => ?_, fun x hx => ?_⟩
  · have hj0 : j = 0 := by
      rcases Nat.lt_or_ge j 1 with h1 | h1
      · omega
      · rw [List.getElem?_eq_none (by simpa using h1)] at hj; cases hj
    subst hj0
    injection hj with hj
    subst hj
    exact rowAt_cell h 0
  · rw [List.mem_singleton.1 hx]
    rfl
end
theorem split_app {w0 W : World} {R x : Nat} {V : Nat → Value} {L : Nat → List Nat} {e0 e1 e2 e3 e4 e5 e6 e7 e8 u v0 : Value} {k i : Nat} (h : J5 w0 R x V L #[e0, e1, e2, e3, e4, e5, e6, e7, e8] W) (hs : Src W 1 u 1 [.int .i64 (i : Nat)]) (hk : k < 4) (hv : V k = v0) (hl : (L k).length ≤ 150) (hx : ∀ k, k < 4 → ∀ q, (V k).ownBlock = some q → q ≠ x) :
    ∃ a' m' c' W', (Builtin.append_ #[61, 61] 61 #[v0, u]).run Try.prog W = .ok (.slice a' m' c') W' ∧ SpC w0 R (upd V k (.slice a' m' c')) (upd L k (L k ++ [i])) (W'.setCell ⟨R, k, none⟩ (.slice a' m' c')) ∧
      (W'.cell? ⟨x, 0, none⟩ = some e0 ∧ W'.cell? ⟨x, 1, none⟩ = some e1 ∧ W'.cell? ⟨x, 2, none⟩ = some e2 ∧ W'.cell? ⟨x, 3, none⟩ = some e3 ∧ W'.cell? ⟨x, 4, none⟩ = some e4 ∧ W'.cell? ⟨x, 5, none⟩ = some e5 ∧ W'.cell? ⟨x, 6, none⟩ = some e6 ∧ W'.cell? ⟨x, 7, none⟩ = some e7 ∧ W'.cell? ⟨x, 8, none⟩ = some e8 ∧ W'.cell? ⟨R, k, none⟩ = some v0 ∧ W'.frozen? ⟨R, k, none⟩ = false) := by
  subst hv
  obtain ⟨v', W', hr, ho, hg, hb⟩ := app_c el61 W (R + 1) (L k).length 1 (V k) u _ _ (h.sp.rows k hk) hs (by omega) h.sp.lr
  have hRR : W'.heap[R]? = some (.cells #[V 0, V 1, V 2, V 3] 61 (0, 0)) := (hg.block R h.sp.lr (fun e => by have := ((h.sp.rows k hk).lt R e.symm).1; omega)).trans h.sp.rr
  have hxx : rowAt W' x = some #[e0, e1, e2, e3, e4, e5, e6, e7, e8] := by
    obtain ⟨t, ht⟩ := rowAt_heap h.ec
    exact rowAt_of ((hg.block x (rowAt_lt h.ec) (fun e => hx k hk x e.symm rfl)).trans ht)
  obtain ⟨a', c', rfl, _⟩ := own_form ho
  refine ⟨a', _, c', W', hr, h.sp.put hk ho hg hb, rowAt_cell hxx 0, rowAt_cell hxx 1, rowAt_cell hxx 2, rowAt_cell hxx 3, rowAt_cell hxx 4, rowAt_cell hxx 5, rowAt_cell hxx 6, rowAt_cell hxx 7, rowAt_cell hxx 8, ?_, frozen_of_row _ R k _ 61 hRR⟩
  rw [cell_of_row W' R k _ 61 _ hRR]
  rcases k with _ | _ | _ | _ | k
  · rfl
  · rfl
  · rfl
  · rfl
  · omega
set_option maxRecDepth 100000 in
set_option maxHeartbeats 8000000 in
theorem split_c (a : Option Addr) (n c : Nat) (X : Nat → Ev) (w : World) (h : EvS w a n X) (hn : n ≤ 150) (hth : ∀ i, i < n → thB (X i).th = true) :
    Calls Try.prog 24 #[.slice a n c, .int .i64 4, .func (.func 25) #[] #[]] w fun r w' => ∃ R V, r = .returned (.slice (some ⟨R, 0, none⟩) 4 4) ∧ SpC w R V (rowsOf X n) w' := by
  have HH := Lib.hid h
  have HTHS := Lib.hid hth
  clear h hth
  have hmk : ∀ w, (Instr.makeSlice 52 (.int .i64 4) (.int .i64 4)).run Try.prog w = .ok (.slice (some ⟨w.heap.size, 0, none⟩) 4 4) (w.alloc (.cells #[.slice none 0 0, .slice none 0 0, .slice none 0 0, .slice none 0 0] 61)) := fun _ => by kernel_rfl
  have HS0 : Hid (SpC w w.heap.size (fun _ => .slice none 0 0) (rowsOf X 0) (w.alloc (.cells #[.slice none 0 0, .slice none 0 0, .slice none 0 0, .slice none 0 0] 61))) := Lib.hid ⟨by show (w.heap.push _)[w.heap.size]? = some _; exact Array.getElem?_push_size, fun k hk => ⟨rfl, .inl ⟨rfl, rfl⟩⟩, fun _ _ _ _ _ q hq => (by cases hq), Nat.le_refl _, (Below.refl _ _).alloc (Nat.le_refl _) _⟩
  go_enter Try.func24, Try.ntmps24
  go_wp2
  clear hmk
  obtain ⟨R, hR⟩ : ∃ R, R = w.heap.size := ⟨_, rfl⟩
  rw [← hR] at HS0 ⊢
  have HRR := Lib.hid hR
  clear hR
  generalize (w.alloc (.cells #[.slice none 0 0, .slice none 0 0, .slice none 0 0, .slice none 0 0] 61)) = W0 at HS0 ⊢
  go_loopw [14] (fun s14 wr => ∃ (j : Nat) (V : Nat → Value), s14 = .int .i64 j ∧ j ≤ n ∧ Hid (SpC w R V (rowsOf X j) wr)) (fun s14 _ => n - iof s14)
  case atStart => exact ⟨0, _, rfl, by omega, HS0⟩
  case round =>
    obtain ⟨j, V, rfl, hj, HS⟩ := hrel
    clear HS0
    by_cases hlt : j < n
    · have HE : Hid (∀ W, Below wr.heap.size wr W → EvS W a n X) := Lib.hid (fun W hb => (HH.out.past HS.out.bel).past hb)
      obtain ⟨b, o, rfl, hbl, hc⟩ : ∃ b o, a = some ⟨b, o, none⟩ ∧ b < wr.heap.size ∧ ∀ i, i < n → EvAt wr b (o + i * 9) (X i) := by
        rcases HH.out.past HS.out.bel with h | h
        · omega
        · exact h
      have hc := hc j hlt
      obtain ⟨k, hk, hk4⟩ : ∃ k : Nat, (X j).th = (k : Nat) ∧ k < 4 := by
        have := HTHS.out j hlt
        unfold thB at this
        simp at this
        exact ⟨(X j).th.toNat, by omega, by omega⟩
      have c0 := hc.c0
      rw [hk] at c0
      have c1 := hc.c1
      have c2 := hc.c2
      have c3 := hc.c3
      have c4 := hc.c4
      have c5 := hc.c5
      have c6 := hc.c6
      have c7 := hc.c7
      have c8 := hc.c8
      have HTH := Lib.hid hk
      have HK := Lib.hid hk4
      have g1 : (j : Int) < n := by omega
      have g0 : (0 : Int) ≤ j := by omega
      have gk : (k : Int) < 4 := by omega
      have gk0 : (0 : Int) ≤ k := by omega
      have gw : IntKind.i64.wrap ((j : Int) + 1) = ((j + 1 : Nat) : Int) := by rw [IntKind.wrap_i64]; omega
      clear hc hk hk4
      have HLN : Hid ((rowsOf X j k).length ≤ 150) := Lib.hid (by
        have : (rowsOf X j k).length ≤ (List.range j).length := List.length_filter_le _ _
        rw [List.length_range] at this
        omega)
      have HB : Hid (Below wr.heap.size wr (wr.alloc (.cells #[.int .i64 k, .int .i64 (X j).kd, .int .i64 (X j).ob, .int .i64 (X j).sl, .int .i64 (X j).va, .bool (X j).rf, .int .i64 (X j).f1, .int .i64 (X j).f2, .int .i64 (X j).tm] 44))) := Lib.hid ((Below.refl _ _).alloc (Nat.le_refl _) _)
      have HI0 : Hid (J5 w R wr.heap.size V (rowsOf X j) #[.int .i64 k, .int .i64 (X j).kd, .int .i64 (X j).ob, .int .i64 (X j).sl, .int .i64 (X j).va, .bool (X j).rf, .int .i64 (X j).f1, .int .i64 (X j).f2, .int .i64 (X j).tm] (wr.alloc (.cells #[.int .i64 k, .int .i64 (X j).kd, .int .i64 (X j).ob, .int .i64 (X j).sl, .int .i64 (X j).va, .bool (X j).rf, .int .i64 (X j).f1, .int .i64 (X j).f2, .int .i64 (X j).tm] 44))) := Lib.hid ⟨HS.out.past HB.out, rowAt_new _ _ _⟩
      have HXB0 : Hid (∀ k, k < 4 → ∀ q, (V k).ownBlock = some q → q ≠ wr.heap.size) := Lib.hid (fun k hk q hq e => by have := ((HS.out.rows k hk).lt q hq).2; omega)
      go_wp2
      clear c0 c1 c2 c3 c4 c5 c6 c7 c8
      generalize (wr.alloc (.cells #[.int .i64 k, .int .i64 (X j).kd, .int .i64 (X j).ob, .int .i64 (X j).sl, .int .i64 (X j).va, .bool (X j).rf, .int .i64 (X j).f1, .int .i64 (X j).f2, .int .i64 (X j).tm] 44)) = U at HI0 ⊢
      obtain ⟨x, hx⟩ : ∃ x, x = wr.heap.size := ⟨_, rfl⟩
      rw [← hx] at HI0 ⊢
      have HXB : Hid (∀ k, k < 4 → ∀ q, (V k).ownBlock = some q → q ≠ x) := Lib.hid (by rw [hx]; exact HXB0.out)
      clear hx HB HXB0 HE
      obtain ⟨a0, cp0, hv0, _⟩ := own_form (HI0.out.sp.rows k HK.out)
      obtain ⟨n0, hn0⟩ : ∃ n0, (rowsOf X j k).length = n0 := ⟨_, rfl⟩
      rw [hn0] at hv0
      clear hn0
      have HV0 := Lib.hid hv0
      have HHO : Hid (∀ W, J5 w R x V (rowsOf X j) #[.int .i64 k, .int .i64 (X j).kd, .int .i64 (X j).ob, .int .i64 (X j).sl, .int .i64 (X j).va, .bool (X j).rf, .int .i64 (X j).f1, .int .i64 (X j).f2, .int .i64 (X j).tm] W → W.cell? ⟨x, 0, none⟩ = some (.int .i64 k) ∧ W.cell? ⟨x, 1, none⟩ = some (.int .i64 (X j).kd) ∧ W.cell? ⟨x, 2, none⟩ = some (.int .i64 (X j).ob) ∧ W.cell? ⟨x, 3, none⟩ = some (.int .i64 (X j).sl) ∧ W.cell? ⟨x, 4, none⟩ = some (.int .i64 (X j).va) ∧ W.cell? ⟨x, 5, none⟩ = some (.bool (X j).rf) ∧ W.cell? ⟨x, 6, none⟩ = some (.int .i64 (X j).f1) ∧ W.cell? ⟨x, 7, none⟩ = some (.int .i64 (X j).f2) ∧ W.cell? ⟨x, 8, none⟩ = some (.int .i64 (X j).tm) ∧ W.cell? ⟨R, k, none⟩ = some (.slice a0 n0 cp0)) := Lib.hid (fun W h => ⟨rowAt_cell h.ec 0, rowAt_cell h.ec 1, rowAt_cell h.ec 2, rowAt_cell h.ec 3, rowAt_cell h.ec 4, rowAt_cell h.ec 5, rowAt_cell h.ec 6, rowAt_cell h.ec 7, rowAt_cell h.ec 8, hv0 ▸ h.sp.cell HK.out⟩)
      clear hv0
      have HI : Hid (J5 w R x V (rowsOf X j) #[.int .i64 k, .int .i64 (X j).kd, .int .i64 (X j).ob, .int .i64 (X j).sl, .int .i64 (X j).va, .bool (X j).rf, .int .i64 (X j).f1, .int .i64 (X j).f2, .int .i64 (X j).tm] U.drew) := Lib.hid (HI0.out.past (Below.refl _ _).drew)
      clear HI0
      refine region_e 14 (fun w' => w'.cell? ⟨x, 0, none⟩ = some (.int .i64 k) ∧ w'.cell? ⟨x, 1, none⟩ = some (.int .i64 (X j).kd) ∧ w'.cell? ⟨x, 2, none⟩ = some (.int .i64 (X j).ob) ∧ w'.cell? ⟨x, 3, none⟩ = some (.int .i64 (X j).sl) ∧ w'.cell? ⟨x, 4, none⟩ = some (.int .i64 (X j).va) ∧ w'.cell? ⟨x, 5, none⟩ = some (.bool (X j).rf) ∧ w'.cell? ⟨x, 6, none⟩ = some (.int .i64 (X j).f1) ∧ w'.cell? ⟨x, 7, none⟩ = some (.int .i64 (X j).f2) ∧ w'.cell? ⟨x, 8, none⟩ = some (.int .i64 (X j).tm) ∧ w'.cell? ⟨R, k, none⟩ = some (.slice a0 n0 cp0)) (by kernel_rfl) (HHO.out _ HI.out) (fun hHeld => ?_)
      generalize U.drew = u0 at hHeld HI ⊢
      refine AnyE.take (i := 0) (oi := { dst := some 19, op := Go.Op.move (Go.Operand.tmp 7), type := 52, pos := "stamp.go:61", after := #[], guard := none }) (v := ?_) rfl (by kernel_rfl) (by kernel_rfl) (by kernel_rfl) (by kernel_rfl) (fun _ _ _ h => h) (Or.inl ⟨by rfl, ?_⟩) (by assumption) ?_
      rotate_left
      · (intro w0 hSw; (try dsimp only at hSw); go_split_ands; go_simp; with_reducible rfl)
      try simp only [Act.put, List.setIfInBounds_toArray, List.set_cons_zero, List.set_cons_succ]
      refine AnyE.take (i := 1) (oi := { dst := some 20, op := Go.Op.move (Go.Operand.tmp 2), type := 54, pos := "stamp.go:61", after := #[], guard := none }) (v := ?_) rfl (by kernel_rfl) (by kernel_rfl) (by kernel_rfl) (by kernel_rfl) (fun _ _ _ h => h) (Or.inl ⟨by rfl, ?_⟩) (by assumption) ?_
      rotate_left
      · (intro w0 hSw; (try dsimp only at hSw); go_split_ands; go_simp; with_reducible rfl)
      try simp only [Act.put, List.setIfInBounds_toArray, List.set_cons_zero, List.set_cons_succ]
      refine AnyE.take (i := 2) (oi := { dst := some 21, op := Go.Op.load 44 (Go.Operand.tmp 9), type := 44, pos := "stamp.go:61", after := #[], guard := none }) (v := ?_) rfl (by kernel_rfl) (by kernel_rfl) (by kernel_rfl) (by kernel_rfl) (fun _ _ _ h => h) (Or.inl ⟨by rfl, ?_⟩) (by assumption) ?_
      rotate_left
      · (intro w0 hSw; (try dsimp only at hSw); go_split_ands; go_simp; with_reducible rfl)
      try simp only [Act.put, List.setIfInBounds_toArray, List.set_cons_zero, List.set_cons_succ]
      refine AnyE.take (i := 4) (oi := { dst := some 23, op := Go.Op.move (Go.Operand.tmp 7), type := 52, pos := "stamp.go:61", after := #[], guard := none }) (v := ?_) rfl (by kernel_rfl) (by kernel_rfl) (by kernel_rfl) (by kernel_rfl) (fun _ _ _ h => h) (Or.inl ⟨by rfl, ?_⟩) (by assumption) ?_
      rotate_left
      · (intro w0 hSw; (try dsimp only at hSw); go_split_ands; go_simp; with_reducible rfl)
      try simp only [Act.put, List.setIfInBounds_toArray, List.set_cons_zero, List.set_cons_succ]
      refine AnyE.take (i := 5) (oi := { dst := some 24, op := Go.Op.move (Go.Operand.tmp 2), type := 54, pos := "stamp.go:61", after := #[], guard := none }) (v := ?_) rfl (by kernel_rfl) (by kernel_rfl) (by kernel_rfl) (by kernel_rfl) (fun _ _ _ h => h) (Or.inl ⟨by rfl, ?_⟩) (by assumption) ?_
      rotate_left
      · (intro w0 hSw; (try dsimp only at hSw); go_split_ands; go_simp; with_reducible rfl)
      try simp only [Act.put, List.setIfInBounds_toArray, List.set_cons_zero, List.set_cons_succ]
      refine AnyE.take (i := 6) (oi := { dst := some 25, op := Go.Op.load 44 (Go.Operand.tmp 9), type := 44, pos := "stamp.go:61", after := #[], guard := none }) (v := ?_) rfl (by kernel_rfl) (by kernel_rfl) (by kernel_rfl) (by kernel_rfl) (fun _ _ _ h => h) (Or.inl ⟨by rfl, ?_⟩) (by assumption) ?_
      rotate_left
      · (intro w0 hSw; (try dsimp only at hSw); go_split_ands; go_simp; with_reducible rfl)
      try simp only [Act.put, List.setIfInBounds_toArray, List.set_cons_zero, List.set_cons_succ]
      refine AnyE.take (i := 10) (oi := { dst := some 29, op := Go.Op.move (Go.Operand.tmp 8), type := 3, pos := "stamp.go:61", after := #[], guard := none }) (v := ?_) rfl (by kernel_rfl) (by kernel_rfl) (by kernel_rfl) (by kernel_rfl) (fun _ _ _ h => h) (Or.inl ⟨by rfl, ?_⟩) (by assumption) ?_
      rotate_left
      · (intro w0 hSw; (try dsimp only at hSw); go_split_ands; go_simp; with_reducible rfl)
      try simp only [Act.put, List.setIfInBounds_toArray, List.set_cons_zero, List.set_cons_succ]
      refine AnyE.ready (rs := [3, 11]) (by kernel_rfl) (by simp) ?_
      refine AllE.cons (o := { dst := some 22, op := Go.Op.call { callee := Go.Callee.value (Go.Operand.tmp 20), args := #[Go.Operand.tmp 21], argTypes := #[44] }, type := 3, pos := "stamp.go:61", after := #[{ on := 1, ground := Go.Ground.data }, { on := 2, ground := Go.Ground.data }], guard := none }) rfl (fun K hK => ?_) (AllE.cons (o := { dst := some 30, op := Go.Op.buildSlice 61 1 #[(0, Go.Operand.tmp 29)], type := 61, pos := "stamp.go:61", after := #[{ on := 10, ground := Go.Ground.data }], guard := none }) rfl (fun K hK => ?_) AllE.nil)
      · go_simp
        go_at_call 25
        refine (tho_c _ _ _ _ _ _ _ _ _ _).mono ?_
        rintro e u1 ⟨rfl, hb⟩
        replace HI := Lib.hid (HI.out.past hb)
        clear hb
        refine hK.out _ _ (HHO.out _ HI.out) (fun hHeld => ?_)
        clear hK K
        try simp only [Act.put, List.setIfInBounds_toArray, List.set_cons_zero, List.set_cons_succ]
        refine AnyE.ready (rs := [7, 11]) (by kernel_rfl) (by simp) ?_
        refine AllE.cons (o := { dst := some 26, op := Go.Op.call { callee := Go.Callee.value (Go.Operand.tmp 24), args := #[Go.Operand.tmp 25], argTypes := #[44] }, type := 3, pos := "stamp.go:61", after := #[{ on := 5, ground := Go.Ground.data }, { on := 6, ground := Go.Ground.data }, { on := 3, ground := Go.Ground.chain }], guard := none }) rfl (fun K hK => ?_) (AllE.cons (o := { dst := some 30, op := Go.Op.buildSlice 61 1 #[(0, Go.Operand.tmp 29)], type := 61, pos := "stamp.go:61", after := #[{ on := 10, ground := Go.Ground.data }], guard := none }) rfl (fun K hK => ?_) AllE.nil)
        · go_simp
          go_at_call 25
          refine (tho_c _ _ _ _ _ _ _ _ _ _).mono ?_
          rintro e u1 ⟨rfl, hb⟩
          replace HI := Lib.hid (HI.out.past hb)
          clear hb
          refine hK.out _ _ (HHO.out _ HI.out) (fun hHeld => ?_)
          clear hK K
          try simp only [Act.put, List.setIfInBounds_toArray, List.set_cons_zero, List.set_cons_succ]
          refine AnyE.take2 (i := 8) [] (oi := { dst := some 27, op := Go.Op.indexAddr 52 (Go.Operand.tmp 23) (Go.Operand.tmp 26), type := 0, pos := "stamp.go:61", after := #[{ on := 4, ground := Go.Ground.data }, { on := 7, ground := Go.Ground.data }], guard := none }) (v := ?_) rfl (by kernel_rfl) (by kernel_rfl) (by kernel_rfl) (by kernel_rfl) (fun _ _ _ h => h) (Or.inl ⟨by rfl, ?_⟩) (by assumption) ?_
          rotate_left
          · (intro w0 hSw; (try dsimp only at hSw); go_split_ands; go_simp; with_reducible rfl)
          try simp only [Act.put, List.setIfInBounds_toArray, List.set_cons_zero, List.set_cons_succ]
          refine AnyE.take2 (i := 9) [] (oi := { dst := some 28, op := Go.Op.load 61 (Go.Operand.tmp 27), type := 61, pos := "stamp.go:61", after := #[{ on := 8, ground := Go.Ground.data }], guard := none }) (v := ?_) rfl (by kernel_rfl) (by kernel_rfl) (by kernel_rfl) (by kernel_rfl) (fun _ _ _ h => h) (Or.inl ⟨by rfl, ?_⟩) (by assumption) ?_
          rotate_left
          · (intro w0 hSw; (try dsimp only at hSw); go_split_ands; go_simp; with_reducible rfl)
          try simp only [Act.put, List.setIfInBounds_toArray, List.set_cons_zero, List.set_cons_succ]
          refine AnyE.ready (rs := [11]) (by kernel_rfl) (by simp) ?_
          refine AllE.cons (o := { dst := some 30, op := Go.Op.buildSlice 61 1 #[(0, Go.Operand.tmp 29)], type := 61, pos := "stamp.go:61", after := #[{ on := 10, ground := Go.Ground.data }], guard := none }) rfl (fun K hK => ?_) AllE.nil
          go_simp
          obtain ⟨U', g, hU', hg', hI', hS'⟩ := J5.build HI.out j
          rw [← hU', ← hg']
          replace HI := Lib.hid hI'
          have HSR := Lib.hid (src_one hS')
          clear hU' hg' hI' hS'
          refine hK.out _ _ (HHO.out _ HI.out) (fun hHeld => ?_)
          clear hK K
          try simp only [Act.put, List.setIfInBounds_toArray, List.set_cons_zero, List.set_cons_succ]
          obtain ⟨a9, m9, c9, W', HR, HPUT, HSW⟩ := split_app HI.out HSR.out HK.out HV0.out HLN.out HXB.out
          clear HI HSR
          refine AnyE.ready (rs := [12]) (by kernel_rfl) (by simp) ?_
          refine AllE.cons (o := { dst := some 31, op := Go.Op.call { callee := Go.Callee.builtin Go.Builtin.append, args := #[Go.Operand.tmp 28, Go.Operand.tmp 30], argTypes := #[61, 61] }, type := 61, pos := "stamp.go:61", after := #[{ on := 9, ground := Go.Ground.data }, { on := 11, ground := Go.Ground.data }, { on := 7, ground := Go.Ground.chain }], guard := none }) rfl (fun K hK => ?_) AllE.nil
          refine step_append_run rfl _ _ _ rfl _ _ _ _ rfl (by rfl) HR ?_
          refine hK.out _ _ ⟨HSW.1, HSW.2.1, HSW.2.2.1, HSW.2.2.2.1, HSW.2.2.2.2.1, HSW.2.2.2.2.2.1, HSW.2.2.2.2.2.2.1, HSW.2.2.2.2.2.2.2.1, HSW.2.2.2.2.2.2.2.2.1, HSW.2.2.2.2.2.2.2.2.2.1⟩ (fun hHeld => ?_)
          clear hK K
          try simp only [Act.put, List.setIfInBounds_toArray, List.set_cons_zero, List.set_cons_succ]
          refine AnyE.take (i := 13) (oi := { dst := some 32, op := Go.Op.indexAddr 52 (Go.Operand.tmp 19) (Go.Operand.tmp 22), type := 0, pos := "stamp.go:61", after := #[{ on := 0, ground := Go.Ground.data }, { on := 3, ground := Go.Ground.data }, { on := 0, ground := Go.Ground.phase }, { on := 1, ground := Go.Ground.phase }, { on := 2, ground := Go.Ground.phase }, { on := 3, ground := Go.Ground.phase }, { on := 4, ground := Go.Ground.phase }, { on := 5, ground := Go.Ground.phase }, { on := 6, ground := Go.Ground.phase }, { on := 7, ground := Go.Ground.phase }, { on := 8, ground := Go.Ground.phase }, { on := 9, ground := Go.Ground.phase }, { on := 10, ground := Go.Ground.phase }, { on := 11, ground := Go.Ground.phase }, { on := 12, ground := Go.Ground.phase }], guard := none }) (v := ?_) rfl (by kernel_rfl) (by kernel_rfl) (by kernel_rfl) (by kernel_rfl) (fun _ _ _ h => h) (Or.inl ⟨by rfl, ?_⟩) (by assumption) ?_
          rotate_left
          · (intro w0 hSw; (try dsimp only at hSw); go_split_ands; go_simp; with_reducible rfl)
          try simp only [Act.put, List.setIfInBounds_toArray, List.set_cons_zero, List.set_cons_succ]
          have f0 := HSW.2.2.2.2.2.2.2.2.2.2
          have f1 := HSW.2.2.2.2.2.2.2.2.2.1
          refine AnyE.ready (rs := [14]) (by kernel_rfl) (by simp) ?_
          refine AllE.last (o := { dst := none, op := Go.Op.store 61 (Go.Operand.tmp 32) (Go.Operand.tmp 31), type := 0, pos := "stamp.go:61", after := #[{ on := 13, ground := Go.Ground.data }, { on := 12, ground := Go.Ground.data }, { on := 12, ground := Go.Ground.chain }, { on := 0, ground := Go.Ground.phase }, { on := 1, ground := Go.Ground.phase }, { on := 2, ground := Go.Ground.phase }, { on := 3, ground := Go.Ground.phase }, { on := 4, ground := Go.Ground.phase }, { on := 5, ground := Go.Ground.phase }, { on := 6, ground := Go.Ground.phase }, { on := 7, ground := Go.Ground.phase }, { on := 8, ground := Go.Ground.phase }, { on := 9, ground := Go.Ground.phase }, { on := 10, ground := Go.Ground.phase }, { on := 11, ground := Go.Ground.phase }, { on := 12, ground := Go.Ground.phase }], guard := none }) rfl (by kernel_rfl) (fun K hK => ?_)
          clear hHeld HR
          go_simp
          refine hK.out _ _ ?_
          clear hK K
          try simp only [Act.put, List.setIfInBounds_toArray, List.set_cons_zero, List.set_cons_succ]
          clear f0 f1 HSW
          go_wp2
          exact ⟨⟨j + 1, _, by simp, by omega, Lib.hid (by rw [rowsOf_step X j k HTH.out]; exact HPUT)⟩, by simp [iof]; omega⟩
        · go_simp
          obtain ⟨U', g, hU', hg', hI', hS'⟩ := J5.build HI.out j
          rw [← hU', ← hg']
          replace HI := Lib.hid hI'
          have HSR := Lib.hid (src_one hS')
          clear hU' hg' hI' hS'
          refine hK.out _ _ (HHO.out _ HI.out) (fun hHeld => ?_)
          clear hK K
          try simp only [Act.put, List.setIfInBounds_toArray, List.set_cons_zero, List.set_cons_succ]
          refine AnyE.ready (rs := [7]) (by kernel_rfl) (by simp) ?_
          refine AllE.cons (o := { dst := some 26, op := Go.Op.call { callee := Go.Callee.value (Go.Operand.tmp 24), args := #[Go.Operand.tmp 25], argTypes := #[44] }, type := 3, pos := "stamp.go:61", after := #[{ on := 5, ground := Go.Ground.data }, { on := 6, ground := Go.Ground.data }, { on := 3, ground := Go.Ground.chain }], guard := none }) rfl (fun K hK => ?_) AllE.nil
          go_simp
          go_at_call 25
          refine (tho_c _ _ _ _ _ _ _ _ _ _).mono ?_
          rintro e u1 ⟨rfl, hb⟩
          replace HI := Lib.hid (HI.out.past hb)
          replace HSR := Lib.hid (HSR.out.past hb)
          clear hb
          refine hK.out _ _ (HHO.out _ HI.out) (fun hHeld => ?_)
          clear hK K
          try simp only [Act.put, List.setIfInBounds_toArray, List.set_cons_zero, List.set_cons_succ]
          refine AnyE.take2 (i := 8) [] (oi := { dst := some 27, op := Go.Op.indexAddr 52 (Go.Operand.tmp 23) (Go.Operand.tmp 26), type := 0, pos := "stamp.go:61", after := #[{ on := 4, ground := Go.Ground.data }, { on := 7, ground := Go.Ground.data }], guard := none }) (v := ?_) rfl (by kernel_rfl) (by kernel_rfl) (by kernel_rfl) (by kernel_rfl) (fun _ _ _ h => h) (Or.inl ⟨by rfl, ?_⟩) (by assumption) ?_
          rotate_left
          · (intro w0 hSw; (try dsimp only at hSw); go_split_ands; go_simp; with_reducible rfl)
          try simp only [Act.put, List.setIfInBounds_toArray, List.set_cons_zero, List.set_cons_succ]
          refine AnyE.take2 (i := 9) [] (oi := { dst := some 28, op := Go.Op.load 61 (Go.Operand.tmp 27), type := 61, pos := "stamp.go:61", after := #[{ on := 8, ground := Go.Ground.data }], guard := none }) (v := ?_) rfl (by kernel_rfl) (by kernel_rfl) (by kernel_rfl) (by kernel_rfl) (fun _ _ _ h => h) (Or.inl ⟨by rfl, ?_⟩) (by assumption) ?_
          rotate_left
          · (intro w0 hSw; (try dsimp only at hSw); go_split_ands; go_simp; with_reducible rfl)
          try simp only [Act.put, List.setIfInBounds_toArray, List.set_cons_zero, List.set_cons_succ]
          obtain ⟨a9, m9, c9, W', HR, HPUT, HSW⟩ := split_app HI.out HSR.out HK.out HV0.out HLN.out HXB.out
          clear HI HSR
          refine AnyE.ready (rs := [12]) (by kernel_rfl) (by simp) ?_
          refine AllE.cons (o := { dst := some 31, op := Go.Op.call { callee := Go.Callee.builtin Go.Builtin.append, args := #[Go.Operand.tmp 28, Go.Operand.tmp 30], argTypes := #[61, 61] }, type := 61, pos := "stamp.go:61", after := #[{ on := 9, ground := Go.Ground.data }, { on := 11, ground := Go.Ground.data }, { on := 7, ground := Go.Ground.chain }], guard := none }) rfl (fun K hK => ?_) AllE.nil
          refine step_append_run rfl _ _ _ rfl _ _ _ _ rfl (by rfl) HR ?_
          refine hK.out _ _ ⟨HSW.1, HSW.2.1, HSW.2.2.1, HSW.2.2.2.1, HSW.2.2.2.2.1, HSW.2.2.2.2.2.1, HSW.2.2.2.2.2.2.1, HSW.2.2.2.2.2.2.2.1, HSW.2.2.2.2.2.2.2.2.1, HSW.2.2.2.2.2.2.2.2.2.1⟩ (fun hHeld => ?_)
          clear hK K
          try simp only [Act.put, List.setIfInBounds_toArray, List.set_cons_zero, List.set_cons_succ]
          refine AnyE.take (i := 13) (oi := { dst := some 32, op := Go.Op.indexAddr 52 (Go.Operand.tmp 19) (Go.Operand.tmp 22), type := 0, pos := "stamp.go:61", after := #[{ on := 0, ground := Go.Ground.data }, { on := 3, ground := Go.Ground.data }, { on := 0, ground := Go.Ground.phase }, { on := 1, ground := Go.Ground.phase }, { on := 2, ground := Go.Ground.phase }, { on := 3, ground := Go.Ground.phase }, { on := 4, ground := Go.Ground.phase }, { on := 5, ground := Go.Ground.phase }, { on := 6, ground := Go.Ground.phase }, { on := 7, ground := Go.Ground.phase }, { on := 8, ground := Go.Ground.phase }, { on := 9, ground := Go.Ground.phase }, { on := 10, ground := Go.Ground.phase }, { on := 11, ground := Go.Ground.phase }, { on := 12, ground := Go.Ground.phase }], guard := none }) (v := ?_) rfl (by kernel_rfl) (by kernel_rfl) (by kernel_rfl) (by kernel_rfl) (fun _ _ _ h => h) (Or.inl ⟨by rfl, ?_⟩) (by assumption) ?_
          rotate_left
          · (intro w0 hSw; (try dsimp only at hSw); go_split_ands; go_simp; with_reducible rfl)
          try simp only [Act.put, List.setIfInBounds_toArray, List.set_cons_zero, List.set_cons_succ]
          have f0 := HSW.2.2.2.2.2.2.2.2.2.2
          have f1 := HSW.2.2.2.2.2.2.2.2.2.1
          refine AnyE.ready (rs := [14]) (by kernel_rfl) (by simp) ?_
          refine AllE.last (o := { dst := none, op := Go.Op.store 61 (Go.Operand.tmp 32) (Go.Operand.tmp 31), type := 0, pos := "stamp.go:61", after := #[{ on := 13, ground := Go.Ground.data }, { on := 12, ground := Go.Ground.data }, { on := 12, ground := Go.Ground.chain }, { on := 0, ground := Go.Ground.phase }, { on := 1, ground := Go.Ground.phase }, { on := 2, ground := Go.Ground.phase }, { on := 3, ground := Go.Ground.phase }, { on := 4, ground := Go.Ground.phase }, { on := 5, ground := Go.Ground.phase }, { on := 6, ground := Go.Ground.phase }, { on := 7, ground := Go.Ground.phase }, { on := 8, ground := Go.Ground.phase }, { on := 9, ground := Go.Ground.phase }, { on := 10, ground := Go.Ground.phase }, { on := 11, ground := Go.Ground.phase }, { on := 12, ground := Go.Ground.phase }], guard := none }) rfl (by kernel_rfl) (fun K hK => ?_)
          clear hHeld HR
          go_simp
          refine hK.out _ _ ?_
          clear hK K
          try simp only [Act.put, List.setIfInBounds_toArray, List.set_cons_zero, List.set_cons_succ]
          clear f0 f1 HSW
          go_wp2
          exact ⟨⟨j + 1, _, by simp, by omega, Lib.hid (by rw [rowsOf_step X j k HTH.out]; exact HPUT)⟩, by simp [iof]; omega⟩
      · go_simp
        obtain ⟨U', g, hU', hg', hI', hS'⟩ := J5.build HI.out j
        rw [← hU', ← hg']
        replace HI := Lib.hid hI'
        have HSR := Lib.hid (src_one hS')
        clear hU' hg' hI' hS'
        refine hK.out _ _ (HHO.out _ HI.out) (fun hHeld => ?_)
        clear hK K
        try simp only [Act.put, List.setIfInBounds_toArray, List.set_cons_zero, List.set_cons_succ]
        refine AnyE.ready (rs := [3]) (by kernel_rfl) (by simp) ?_
        refine AllE.cons (o := { dst := some 22, op := Go.Op.call { callee := Go.Callee.value (Go.Operand.tmp 20), args := #[Go.Operand.tmp 21], argTypes := #[44] }, type := 3, pos := "stamp.go:61", after := #[{ on := 1, ground := Go.Ground.data }, { on := 2, ground := Go.Ground.data }], guard := none }) rfl (fun K hK => ?_) AllE.nil
        go_simp
        go_at_call 25
        refine (tho_c _ _ _ _ _ _ _ _ _ _).mono ?_
        rintro e u1 ⟨rfl, hb⟩
        replace HI := Lib.hid (HI.out.past hb)
        replace HSR := Lib.hid (HSR.out.past hb)
        clear hb
        refine hK.out _ _ (HHO.out _ HI.out) (fun hHeld => ?_)
        clear hK K
        try simp only [Act.put, List.setIfInBounds_toArray, List.set_cons_zero, List.set_cons_succ]
        refine AnyE.ready (rs := [7]) (by kernel_rfl) (by simp) ?_
        refine AllE.cons (o := { dst := some 26, op := Go.Op.call { callee := Go.Callee.value (Go.Operand.tmp 24), args := #[Go.Operand.tmp 25], argTypes := #[44] }, type := 3, pos := "stamp.go:61", after := #[{ on := 5, ground := Go.Ground.data }, { on := 6, ground := Go.Ground.data }, { on := 3, ground := Go.Ground.chain }], guard := none }) rfl (fun K hK => ?_) AllE.nil
        go_simp
        go_at_call 25
        refine (tho_c _ _ _ _ _ _ _ _ _ _).mono ?_
        rintro e u1 ⟨rfl, hb⟩
        replace HI := Lib.hid (HI.out.past hb)
        replace HSR := Lib.hid (HSR.out.past hb)
        clear hb
        refine hK.out _ _ (HHO.out _ HI.out) (fun hHeld => ?_)
        clear hK K
        try simp only [Act.put, List.setIfInBounds_toArray, List.set_cons_zero, List.set_cons_succ]
        refine AnyE.take2 (i := 8) [] (oi := { dst := some 27, op := Go.Op.indexAddr 52 (Go.Operand.tmp 23) (Go.Operand.tmp 26), type := 0, pos := "stamp.go:61", after := #[{ on := 4, ground := Go.Ground.data }, { on := 7, ground := Go.Ground.data }], guard := none }) (v := ?_) rfl (by kernel_rfl) (by kernel_rfl) (by kernel_rfl) (by kernel_rfl) (fun _ _ _ h => h) (Or.inl ⟨by rfl, ?_⟩) (by assumption) ?_
        rotate_left
        · (intro w0 hSw; (try dsimp only at hSw); go_split_ands; go_simp; with_reducible rfl)
        try simp only [Act.put, List.setIfInBounds_toArray, List.set_cons_zero, List.set_cons_succ]
        refine AnyE.take2 (i := 9) [] (oi := { dst := some 28, op := Go.Op.load 61 (Go.Operand.tmp 27), type := 61, pos := "stamp.go:61", after := #[{ on := 8, ground := Go.Ground.data }], guard := none }) (v := ?_) rfl (by kernel_rfl) (by kernel_rfl) (by kernel_rfl) (by kernel_rfl) (fun _ _ _ h => h) (Or.inl ⟨by rfl, ?_⟩) (by assumption) ?_
        rotate_left
        · (intro w0 hSw; (try dsimp only at hSw); go_split_ands; go_simp; with_reducible rfl)
        try simp only [Act.put, List.setIfInBounds_toArray, List.set_cons_zero, List.set_cons_succ]
        obtain ⟨a9, m9, c9, W', HR, HPUT, HSW⟩ := split_app HI.out HSR.out HK.out HV0.out HLN.out HXB.out
        clear HI HSR
        refine AnyE.ready (rs := [12]) (by kernel_rfl) (by simp) ?_
        refine AllE.cons (o := { dst := some 31, op := Go.Op.call { callee := Go.Callee.builtin Go.Builtin.append, args := #[Go.Operand.tmp 28, Go.Operand.tmp 30], argTypes := #[61, 61] }, type := 61, pos := "stamp.go:61", after := #[{ on := 9, ground := Go.Ground.data }, { on := 11, ground := Go.Ground.data }, { on := 7, ground := Go.Ground.chain }], guard := none }) rfl (fun K hK => ?_) AllE.nil
        refine step_append_run rfl _ _ _ rfl _ _ _ _ rfl (by rfl) HR ?_
        refine hK.out _ _ ⟨HSW.1, HSW.2.1, HSW.2.2.1, HSW.2.2.2.1, HSW.2.2.2.2.1, HSW.2.2.2.2.2.1, HSW.2.2.2.2.2.2.1, HSW.2.2.2.2.2.2.2.1, HSW.2.2.2.2.2.2.2.2.1, HSW.2.2.2.2.2.2.2.2.2.1⟩ (fun hHeld => ?_)
        clear hK K
        try simp only [Act.put, List.setIfInBounds_toArray, List.set_cons_zero, List.set_cons_succ]
        refine AnyE.take (i := 13) (oi := { dst := some 32, op := Go.Op.indexAddr 52 (Go.Operand.tmp 19) (Go.Operand.tmp 22), type := 0, pos := "stamp.go:61", after := #[{ on := 0, ground := Go.Ground.data }, { on := 3, ground := Go.Ground.data }, { on := 0, ground := Go.Ground.phase }, { on := 1, ground := Go.Ground.phase }, { on := 2, ground := Go.Ground.phase }, { on := 3, ground := Go.Ground.phase }, { on := 4, ground := Go.Ground.phase }, { on := 5, ground := Go.Ground.phase }, { on := 6, ground := Go.Ground.phase }, { on := 7, ground := Go.Ground.phase }, { on := 8, ground := Go.Ground.phase }, { on := 9, ground := Go.Ground.phase }, { on := 10, ground := Go.Ground.phase }, { on := 11, ground := Go.Ground.phase }, { on := 12, ground := Go.Ground.phase }], guard := none }) (v := ?_) rfl (by kernel_rfl) (by kernel_rfl) (by kernel_rfl) (by kernel_rfl) (fun _ _ _ h => h) (Or.inl ⟨by rfl, ?_⟩) (by assumption) ?_
        rotate_left
        · (intro w0 hSw; (try dsimp only at hSw); go_split_ands; go_simp; with_reducible rfl)
        try simp only [Act.put, List.setIfInBounds_toArray, List.set_cons_zero, List.set_cons_succ]
        have f0 := HSW.2.2.2.2.2.2.2.2.2.2
        have f1 := HSW.2.2.2.2.2.2.2.2.2.1
        refine AnyE.ready (rs := [14]) (by kernel_rfl) (by simp) ?_
        refine AllE.last (o := { dst := none, op := Go.Op.store 61 (Go.Operand.tmp 32) (Go.Operand.tmp 31), type := 0, pos := "stamp.go:61", after := #[{ on := 13, ground := Go.Ground.data }, { on := 12, ground := Go.Ground.data }, { on := 12, ground := Go.Ground.chain }, { on := 0, ground := Go.Ground.phase }, { on := 1, ground := Go.Ground.phase }, { on := 2, ground := Go.Ground.phase }, { on := 3, ground := Go.Ground.phase }, { on := 4, ground := Go.Ground.phase }, { on := 5, ground := Go.Ground.phase }, { on := 6, ground := Go.Ground.phase }, { on := 7, ground := Go.Ground.phase }, { on := 8, ground := Go.Ground.phase }, { on := 9, ground := Go.Ground.phase }, { on := 10, ground := Go.Ground.phase }, { on := 11, ground := Go.Ground.phase }, { on := 12, ground := Go.Ground.phase }], guard := none }) rfl (by kernel_rfl) (fun K hK => ?_)
        clear hHeld HR
        go_simp
        refine hK.out _ _ ?_
        clear hK K
        try simp only [Act.put, List.setIfInBounds_toArray, List.set_cons_zero, List.set_cons_succ]
        clear f0 f1 HSW
        go_wp2
        exact ⟨⟨j + 1, _, by simp, by omega, Lib.hid (by rw [rowsOf_step X j k HTH.out]; exact HPUT)⟩, by simp [iof]; omega⟩
    · have d1 : decide (j < n) = false := decide_eq_false hlt
      have HJ : Hid (j = n) := Lib.hid (by omega)
      clear hlt
      go_wp2
      go_ret
      exact ⟨R, V, rfl, HJ.out ▸ HS.out⟩
end Go.Proofs.Ytnmgafaebggeiaa.St
