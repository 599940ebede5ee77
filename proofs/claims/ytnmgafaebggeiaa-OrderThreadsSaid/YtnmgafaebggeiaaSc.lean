import Derived.Test.YtnmgafaebggeiaaSb
import Derived.Test.YtnmgafaebggeiaaOb
import Derived.Deep.CutBlock
import Derived.RegionTactic
import Derived.Below
import Derived.OpenShut
import Derived.Outline
import Derived.WalkSmall
import Derived.WalkLawsBesides
import Derived.WalkSpells
import Derived.BigGuardPart
namespace Go.Proofs.Ytnmgafaebggeiaa.St
open Go.ChangeShapes Go.WideShapes Go.ChangeAt Go.RowKit Go.Maps
set_option linter.unusedVariables false
/-! ### What the stamper holds -/
structure Ev where
  th : Int
  kd : Int
  ob : Int
  sl : Int
  va : Int
  rf : Bool
  f1 : Int
  f2 : Int
  tm : Int
def Ev.v (e : Ev) : Value := .agg #[.int .i64 e.th, .int .i64 e.kd, .int .i64 e.ob, .int .i64 e.sl, .int .i64 e.va, .bool e.rf, .int .i64 e.f1, .int .i64 e.f2, .int .i64 e.tm]
def Ev.ok (e : Ev) : Prop := Wf e.th ∧ Wf e.kd ∧ Wf e.ob ∧ Wf e.sl ∧ Wf e.va ∧ Wf e.tm
def Ev.joins (e : Ev) : Prop := e.kd = 6 ∧ 0 ≤ e.va ∧ e.va < 4 ∧ e.va ≠ e.th
structure EvAt (w : World) (b o : Nat) (e : Ev) : Prop where
  c0 : w.cell? ⟨b, o, none⟩ = some (.int .i64 e.th)
  c1 : w.cell? ⟨b, o + 1, none⟩ = some (.int .i64 e.kd)
  c2 : w.cell? ⟨b, o + 2, none⟩ = some (.int .i64 e.ob)
  c3 : w.cell? ⟨b, o + 3, none⟩ = some (.int .i64 e.sl)
  c4 : w.cell? ⟨b, o + 4, none⟩ = some (.int .i64 e.va)
  c5 : w.cell? ⟨b, o + 5, none⟩ = some (.bool e.rf)
  c6 : w.cell? ⟨b, o + 6, none⟩ = some (.int .i64 e.f1)
  c7 : w.cell? ⟨b, o + 7, none⟩ = some (.int .i64 e.f2)
  c8 : w.cell? ⟨b, o + 8, none⟩ = some (.int .i64 e.tm)
theorem EvAt.kept {w w' : World} {b o : Nat} {e : Ev} (h : EvAt w b o e) (hk : ∀ q, w'.cell? ⟨b, q, none⟩ = w.cell? ⟨b, q, none⟩) : EvAt w' b o e :=
  ⟨(hk _).trans h.c0, (hk _).trans h.c1, (hk _).trans h.c2, (hk _).trans h.c3, (hk _).trans h.c4, (hk _).trans h.c5, (hk _).trans h.c6, (hk _).trans h.c7, (hk _).trans h.c8⟩
/-- Where the parts lie. -/
structure Pc where
  s : Nat
  cb : Nat
  xb : Nat
  wb : Nat
  sb : Nat
  rb : Nat
  eb : Nat
  eo : Nat
  ea : Option Addr
  ec : Nat
  V : Nat → Value
/-- What does not turn. -/
structure Fx where
  N : Nat
  X : Nat → Ev
  sy : Nat → Bool
  rows : Nat → List Nat
structure St where
  gone : Nat → Nat
  now : Nat → Ck
  beg : Nat → Ck
  ex : Int → Ck
  wr : Int → Int → Ck
  out : Nat → Ck
  mx : Nat
  mw : Nat
def Ck.at (x : Ck) (j : Nat) : Value := .int .i64 (if j = 0 then x.a else if j = 1 then x.b else if j = 2 then x.c else x.d)
/-- The stamper's cells. -/
def cellS (P : Pc) (F : Fx) (S : St) (j : Nat) : Value :=
  if j = 0 then .slice P.ea F.N P.ec
  else if j = 1 then .slice (some ⟨P.sb, 0, none⟩) F.N F.N
  else if j = 2 then .slice (some ⟨P.rb, 0, none⟩) 4 4
  else if j < 7 then .int .i64 (S.gone (j - 3))
  else if j < 23 then (S.now ((j - 7) / 4)).at ((j - 7) % 4)
  else if j < 39 then (S.beg ((j - 23) / 4)).at ((j - 23) % 4)
  else if j = 39 then .map (some P.xb)
  else if j = 40 then .map (some P.wb)
  else .slice (some ⟨P.cb, 0, none⟩) F.N F.N
def rowS (P : Pc) (F : Fx) (S : St) : Array Value := Array.ofFn (n := 42) fun j => cellS P F S j
def rowC (F : Fx) (S : St) : Array Value := Array.ofFn (n := F.N * 4) fun j => (S.out (j / 4)).at (j % 4)
structure SmC (w : World) (P : Pc) (F : Fx) (S : St) : Prop where
  row : w.heap[P.s]? = some (.cells (rowS P F S) 59 (0, 0))
  clk : w.heap[P.cb]? = some (.cells (rowC F S) 24 (0, 0))
  mx : MpE w P.xb S.mx S.ex
  mw : MpW w P.wb S.mw S.wr
  sy : w.ownsRow 0 4 1 (.slice (some ⟨P.sb, 0, none⟩) F.N F.N) F.N ((List.range F.N).map fun i => .bool (F.sy i))
  rr : w.ownsRow 0 61 1 (.slice (some ⟨P.rb, 0, none⟩) 4 4) 4 ((List.range 4).map P.V)
  rows : ∀ k, k < 4 → w.ownsRow 0 3 1 (P.V k) (F.rows k).length ((F.rows k).map fun i => .int .i64 (i : Nat))
  ev : ∀ i, i < F.N → P.ea = some ⟨P.eb, P.eo, none⟩ ∧ EvAt w P.eb (P.eo + i * 9) (F.X i)
  el : P.eb < w.heap.size
  ne : P.xb ≠ P.wb ∧ P.eb ≠ P.s ∧ P.eb ≠ P.cb ∧ P.eb ≠ P.xb ∧ P.eb ≠ P.wb
  rg : ∀ k, k < 4 → ∀ i ∈ F.rows k, i < F.N ∧ (F.X i).th = (k : Nat)
  xs : ∀ i, i < F.N → (F.X i).ok ∧ 0 ≤ (F.X i).th ∧ (F.X i).th < 4
  n150 : F.N ≤ 150
/-- The blocks that turn. -/
def Pc.fp (P : Pc) (k : Nat) : Prop := k = P.s ∨ k = P.cb ∨ k = P.xb ∨ k = P.wb
def St.jn (S : St) (e : Ev) (b : Bool) : Ck := if e.kd = 3 then S.ex e.ob else if e.kd = 1 ∧ b = true then S.wr e.ob e.sl else Ck.zero
theorem size_alloc (w : World) (o : Obj) : (w.alloc o).heap.size = w.heap.size + 1 := by simp
section
variable {w w' : World} {P : Pc} {F : Fx} {S : St}
theorem SmC.sl (h : SmC w P F S) : P.s < w.heap.size := (Array.getElem?_eq_some_iff.1 h.row).1
theorem SmC.cl (h : SmC w P F S) : P.cb < w.heap.size := (Array.getElem?_eq_some_iff.1 h.clk).1
theorem SmC.cell (h : SmC w P F S) {j : Nat} (hj : j < 42) : w.cell? ⟨P.s, j, none⟩ = some (cellS P F S j) := by
  rw [cell_of_row w P.s j _ 59 _ h.row]
  unfold rowS
  simp [hj]
theorem SmC.frz (h : SmC w P F S) (j : Nat) : w.frozen? ⟨P.s, j, none⟩ = false := frozen_of_row w P.s j _ 59 h.row
theorem SmC.zs (h : SmC w P F S) : w.cell? ⟨P.s, 39, none⟩ = some (.map (some P.xb)) ∧ w.cell? ⟨P.s, 40, none⟩ = some (.map (some P.wb)) ∧ P.s < w.heap.size := ⟨h.cell (by omega), h.cell (by omega), h.sl⟩
theorem SmC.kept (h : SmC w P F S) (hs : w.heap.size ≤ w'.heap.size) (hk : ∀ k, k < w.heap.size → w'.heap[k]? = w.heap[k]?) : SmC w' P F S :=
  ⟨(hk _ h.sl).trans h.row, (hk _ h.cl).trans h.clk, h.mx.kept (hk _ h.mx.lt), h.mw.kept (hk _ h.mw.lt), own_kept h.sy fun g hg => hk g (h.sy.lt g hg).2, own_kept h.rr fun g hg => hk g (h.rr.lt g hg).2,
    fun k hk4 => own_kept (h.rows k hk4) fun g hg => hk g ((h.rows k hk4).lt g hg).2, fun i hi => ⟨(h.ev i hi).1, (h.ev i hi).2.kept fun q => by unfold World.cell?; rw [hk _ h.el]⟩, Nat.lt_of_lt_of_le h.el hs, h.ne, h.rg, h.xs, h.n150⟩
theorem SmC.past (h : SmC w P F S) (hb : Below w.heap.size w w') : SmC w' P F S := h.kept hb.size fun k hk => hb.block k hk
end
set_option maxRecDepth 100000 in
set_option maxHeartbeats 4000000 in
theorem joined_x {w : World} {P : Pc} {F : Fx} {S : St} (h : SmC w P F S) (th kd ob sl va : Int) (rf : Bool) (f1 f2 tm : Int) (b : Bool) (x : Ck) (hk : Wf ob) (q3 : (kd == 3) = true) (hx : S.ex ob = x) :
    Calls Try.prog 34 #[.pointer (some ⟨P.s, 0, none⟩), .agg #[.int .i64 th, .int .i64 kd, .int .i64 ob, .int .i64 sl, .int .i64 va, .bool rf, .int .i64 f1, .int .i64 f2, .int .i64 tm], .bool b] w fun r w' => r = .returned x.v ∧ Below w.heap.size w w' := by
  obtain ⟨hz, hw0, _⟩ := h.zs
  have HH := Lib.hid h
  have HB : Hid (Below w.heap.size w ((w.alloc (.cells #[.int .i64 th, .int .i64 kd, .int .i64 ob, .int .i64 sl, .int .i64 va, .bool rf, .int .i64 f1, .int .i64 f2, .int .i64 tm] 44)).alloc (.cells #[.int .i64 0, .int .i64 0, .int .i64 0, .int .i64 0] 24))) := Lib.hid (((Below.refl _ _).alloc (Nat.le_refl _) _).alloc (by simp) _)
  have HT : Hid (rowAt ((w.alloc (.cells #[.int .i64 th, .int .i64 kd, .int .i64 ob, .int .i64 sl, .int .i64 va, .bool rf, .int .i64 f1, .int .i64 f2, .int .i64 tm] 44)).alloc (.cells #[.int .i64 0, .int .i64 0, .int .i64 0, .int .i64 0] 24)) (w.heap.size + 1) = some #[.int .i64 0, .int .i64 0, .int .i64 0, .int .i64 0]) := Lib.hid (by have := rowAt_new (w.alloc (.cells #[.int .i64 th, .int .i64 kd, .int .i64 ob, .int .i64 sl, .int .i64 va, .bool rf, .int .i64 f1, .int .i64 f2, .int .i64 tm] 44)) #[.int .i64 0, .int .i64 0, .int .i64 0, .int .i64 0] 24; rwa [size_alloc] at this)
  have HE : Hid (rowAt ((w.alloc (.cells #[.int .i64 th, .int .i64 kd, .int .i64 ob, .int .i64 sl, .int .i64 va, .bool rf, .int .i64 f1, .int .i64 f2, .int .i64 tm] 44)).alloc (.cells #[.int .i64 0, .int .i64 0, .int .i64 0, .int .i64 0] 24)) w.heap.size = some #[.int .i64 th, .int .i64 kd, .int .i64 ob, .int .i64 sl, .int .i64 va, .bool rf, .int .i64 f1, .int .i64 f2, .int .i64 tm]) := Lib.hid (rowAt_past (rowAt_new _ _ _) _)
  clear h
  go_enter Try.func34, Try.ntmps34
  go_upto_region 2 with (fail)
  clear hz hw0 q3
  obtain ⟨U, hU⟩ : ∃ U, U = ((w.alloc (.cells #[.int .i64 th, .int .i64 kd, .int .i64 ob, .int .i64 sl, .int .i64 va, .bool rf, .int .i64 f1, .int .i64 f2, .int .i64 tm] 44)).alloc (.cells #[.int .i64 0, .int .i64 0, .int .i64 0, .int .i64 0] 24)) := ⟨_, rfl⟩
  rw [← hU] at HB HT HE ⊢
  clear hU
  obtain ⟨t, ht⟩ : ∃ t, t = w.heap.size := ⟨_, rfl⟩
  have HTT := Lib.hid ht
  have HBW : Hid (∀ k, k < t → k < w.heap.size) := Lib.hid (fun k hk => by omega)
  rw [← ht] at HT HE ⊢
  clear ht
  have HSM := Lib.hid (HH.out.past HB.out)
  have HSD : Hid (SmC U.drew P F S) := Lib.hid (HSM.out.past (Below.refl _ _).drew)
  have HL : Hid ((Instr.lookup 55 (.map (some P.xb)) (.int .i64 ob) false).run Try.prog U.drew = .ok x.v U.drew) := Lib.hid (by have := HSD.out.mx.look hk; rwa [hx] at this)
  refine region_e 7 (fun w' => w'.cell? ⟨P.s, 39, none⟩ = some (.map (some P.xb)) ∧ w'.cell? ⟨t, 2, none⟩ = some (.int .i64 ob) ∧ (Instr.lookup 55 (.map (some P.xb)) (.int .i64 ob) false).run Try.prog w' = .ok (.agg #[.int .i64 x.a, .int .i64 x.b, .int .i64 x.c, .int .i64 x.d]) w') (by kernel_rfl) ⟨HSM.out.zs.1, rowAt_cell HE.out 2, HL.out⟩ (fun hHeld => ?_)
  refine AnyE.take (i := 0) (oi := { dst := some 11, op := Go.Op.move (Go.Operand.tmp 0), type := 50, pos := "stamp.go:132", after := #[], guard := none }) (v := ?_) rfl (by kernel_rfl) (by kernel_rfl) (by kernel_rfl) (by kernel_rfl) (fun _ _ _ h => h) (Or.inl ⟨by rfl, ?_⟩) (by assumption) ?_
  rotate_left
  · (intro w0 hSw; (try dsimp only at hSw); go_split_ands; go_simp; with_reducible rfl)
  try simp only [Act.put, List.setIfInBounds_toArray, List.set_cons_zero, List.set_cons_succ]
  refine AnyE.take (i := 1) (oi := { dst := some 12, op := Go.Op.nilCheck (Go.Operand.tmp 11), type := 0, pos := "stamp.go:132", after := #[{ on := 0, ground := Go.Ground.data }], guard := none }) (v := ?_) rfl (by kernel_rfl) (by kernel_rfl) (by kernel_rfl) (by kernel_rfl) (fun _ _ _ h => h) (Or.inl ⟨by rfl, ?_⟩) (by assumption) ?_
  rotate_left
  · (intro w0 hSw; (try dsimp only at hSw); go_split_ands; go_simp; with_reducible rfl)
  try simp only [Act.put, List.setIfInBounds_toArray, List.set_cons_zero, List.set_cons_succ]
  refine AnyE.take (i := 2) (oi := { dst := some 13, op := Go.Op.fieldAddr 59 (Go.Operand.tmp 12) 6, type := 0, pos := "stamp.go:132", after := #[{ on := 1, ground := Go.Ground.data }], guard := none }) (v := ?_) rfl (by kernel_rfl) (by kernel_rfl) (by kernel_rfl) (by kernel_rfl) (fun _ _ _ h => h) (Or.inl ⟨by rfl, ?_⟩) (by assumption) ?_
  rotate_left
  · (intro w0 hSw; (try dsimp only at hSw); go_split_ands; go_simp; with_reducible rfl)
  try simp only [Act.put, List.setIfInBounds_toArray, List.set_cons_zero, List.set_cons_succ]
  refine AnyE.take (i := 3) (oi := { dst := some 14, op := Go.Op.load 55 (Go.Operand.tmp 13), type := 55, pos := "stamp.go:132", after := #[{ on := 2, ground := Go.Ground.data }], guard := none }) (v := ?_) rfl (by kernel_rfl) (by kernel_rfl) (by kernel_rfl) (by kernel_rfl) (fun _ _ _ h => h) (Or.inl ⟨by rfl, ?_⟩) (by assumption) ?_
  rotate_left
  · (intro w0 hSw; (try dsimp only at hSw); go_split_ands; go_simp; with_reducible rfl)
  try simp only [Act.put, List.setIfInBounds_toArray, List.set_cons_zero, List.set_cons_succ]
  refine AnyE.take (i := 4) (oi := { dst := some 15, op := Go.Op.fieldAddr 44 (Go.Operand.tmp 4) 2, type := 0, pos := "stamp.go:132", after := #[], guard := none }) (v := ?_) rfl (by kernel_rfl) (by kernel_rfl) (by kernel_rfl) (by kernel_rfl) (fun _ _ _ h => h) (Or.inl ⟨by rfl, ?_⟩) (by assumption) ?_
  rotate_left
  · (intro w0 hSw; (try dsimp only at hSw); go_split_ands; go_simp; with_reducible rfl)
  try simp only [Act.put, List.setIfInBounds_toArray, List.set_cons_zero, List.set_cons_succ]
  refine AnyE.take (i := 5) (oi := { dst := some 16, op := Go.Op.load 3 (Go.Operand.tmp 15), type := 3, pos := "stamp.go:132", after := #[{ on := 4, ground := Go.Ground.data }], guard := none }) (v := ?_) rfl (by kernel_rfl) (by kernel_rfl) (by kernel_rfl) (by kernel_rfl) (fun _ _ _ h => h) (Or.inl ⟨by rfl, ?_⟩) (by assumption) ?_
  rotate_left
  · (intro w0 hSw; (try dsimp only at hSw); go_split_ands; go_simp; with_reducible rfl)
  try simp only [Act.put, List.setIfInBounds_toArray, List.set_cons_zero, List.set_cons_succ]
  refine AnyE.take (i := 6) (oi := { dst := some 17, op := Go.Op.lookup 55 (Go.Operand.tmp 14) (Go.Operand.tmp 16) false, type := 24, pos := "stamp.go:132", after := #[{ on := 3, ground := Go.Ground.data }, { on := 5, ground := Go.Ground.data }], guard := none }) (v := ?_) rfl (by kernel_rfl) (by kernel_rfl) (by kernel_rfl) (by kernel_rfl) (fun _ _ _ h => h) (Or.inl ⟨by rfl, ?_⟩) (by assumption) ?_
  rotate_left
  · (intro w0 hSw; (try dsimp only at hSw); go_split_ands; go_simp; with_reducible rfl)
  try simp only [Act.put, List.setIfInBounds_toArray, List.set_cons_zero, List.set_cons_succ]
  refine AnyE.ready (rs := [7]) (by kernel_rfl) (by simp) ?_
  refine AllE.last (o := { dst := none, op := Go.Op.store 24 (Go.Operand.tmp 6) (Go.Operand.tmp 17), type := 0, pos := "stamp.go:132", after := #[{ on := 6, ground := Go.Ground.data }, { on := 0, ground := Go.Ground.phase }, { on := 1, ground := Go.Ground.phase }, { on := 2, ground := Go.Ground.phase }, { on := 3, ground := Go.Ground.phase }, { on := 4, ground := Go.Ground.phase }, { on := 5, ground := Go.Ground.phase }, { on := 6, ground := Go.Ground.phase }], guard := none }) rfl (by kernel_rfl) (fun K hK => ?_)
  clear hHeld
  obtain ⟨V, hV⟩ : ∃ V, V = U.drew := ⟨_, rfl⟩
  have HTV : Hid (rowAt V (t + 1) = some #[.int .i64 0, .int .i64 0, .int .i64 0, .int .i64 0]) := Lib.hid (by rw [hV]; exact HT.out)
  have HBV : Hid (Below w.heap.size w V) := Lib.hid (by rw [hV]; exact HB.out.drew)
  rw [← hV]
  clear hV
  have z0 := rowAt_cell HTV.out 0
  have z1 := rowAt_cell HTV.out 1
  have z2 := rowAt_cell HTV.out 2
  have z3 := rowAt_cell HTV.out 3
  have f0 := rowAt_frz HTV.out 0
  have f1' := rowAt_frz HTV.out 1
  have f2' := rowAt_frz HTV.out 2
  have f3 := rowAt_frz HTV.out 3
  simp only [List.getElem?_toArray, List.getElem?_cons_zero, List.getElem?_cons_succ] at z0 z1 z2 z3
  go_simp
  refine hK.out _ _ ?_
  clear hK K
  have HBD : Hid (Below w.heap.size w ((((V.setCell ⟨t + 1, 0, none⟩ (.int .i64 x.a)).setCell ⟨t + 1, 1, none⟩ (.int .i64 x.b)).setCell ⟨t + 1, 2, none⟩ (.int .i64 x.c)).setCell ⟨t + 1, 3, none⟩ (.int .i64 x.d))) := Lib.hid ((((HBV.out.setCell (by show _ ≤ t + 1; have := HTT.out; omega) _).setCell (by show _ ≤ t + 1; have := HTT.out; omega) _).setCell (by show _ ≤ t + 1; have := HTT.out; omega) _).setCell (by show _ ≤ t + 1; have := HTT.out; omega) _)
  have HR : Hid (rowAt ((((V.setCell ⟨t + 1, 0, none⟩ (.int .i64 x.a)).setCell ⟨t + 1, 1, none⟩ (.int .i64 x.b)).setCell ⟨t + 1, 2, none⟩ (.int .i64 x.c)).setCell ⟨t + 1, 3, none⟩ (.int .i64 x.d)) (t + 1) = some #[.int .i64 x.a, .int .i64 x.b, .int .i64 x.c, .int .i64 x.d]) := Lib.hid (rowAt_set (rowAt_set (rowAt_set (rowAt_set HTV.out 0 _) 1 _) 2 _) 3 _)
  generalize ((((V.setCell ⟨t + 1, 0, none⟩ (.int .i64 x.a)).setCell ⟨t + 1, 1, none⟩ (.int .i64 x.b)).setCell ⟨t + 1, 2, none⟩ (.int .i64 x.c)).setCell ⟨t + 1, 3, none⟩ (.int .i64 x.d)) = V5 at HBD HR ⊢
  clear z0 z1 z2 z3 f0 f1' f2' f3
  have y0 : V5.cell? ⟨t + 1, 0, none⟩ = some (.int .i64 x.a) := rowAt_cell HR.out 0
  have y1 : V5.cell? ⟨t + 1, 1, none⟩ = some (.int .i64 x.b) := rowAt_cell HR.out 1
  have y2 : V5.cell? ⟨t + 1, 2, none⟩ = some (.int .i64 x.c) := rowAt_cell HR.out 2
  have y3 : V5.cell? ⟨t + 1, 3, none⟩ = some (.int .i64 x.d) := rowAt_cell HR.out 3
  go_wp2
  refine bodyPost_ret (v := x.v) (by simp [results, Try.results34, go_sem, Ck.v, y0, y1, y2, y3]) rfl ⟨rfl, ?_⟩
  exact HBD.out
set_option maxRecDepth 100000 in
set_option maxHeartbeats 4000000 in
theorem joined_w {w : World} {P : Pc} {F : Fx} {S : St} (h : SmC w P F S) (th kd ob sl va : Int) (rf : Bool) (f1 f2 tm : Int) (b : Bool) (x : Ck) (hk1 : Wf ob) (hk2 : Wf sl) (q3 : (kd == 3) = false) (q1 : (kd == 1) = true) (hb : b = true) (hx : S.wr ob sl = x) :
    Calls Try.prog 34 #[.pointer (some ⟨P.s, 0, none⟩), .agg #[.int .i64 th, .int .i64 kd, .int .i64 ob, .int .i64 sl, .int .i64 va, .bool rf, .int .i64 f1, .int .i64 f2, .int .i64 tm], .bool b] w fun r w' => r = .returned x.v ∧ Below w.heap.size w w' := by
  obtain ⟨hz, hw0, _⟩ := h.zs
  have HH := Lib.hid h
  have HB : Hid (Below w.heap.size w ((w.alloc (.cells #[.int .i64 th, .int .i64 kd, .int .i64 ob, .int .i64 sl, .int .i64 va, .bool rf, .int .i64 f1, .int .i64 f2, .int .i64 tm] 44)).alloc (.cells #[.int .i64 0, .int .i64 0, .int .i64 0, .int .i64 0] 24))) := Lib.hid (((Below.refl _ _).alloc (Nat.le_refl _) _).alloc (by simp) _)
  have HT : Hid (rowAt ((w.alloc (.cells #[.int .i64 th, .int .i64 kd, .int .i64 ob, .int .i64 sl, .int .i64 va, .bool rf, .int .i64 f1, .int .i64 f2, .int .i64 tm] 44)).alloc (.cells #[.int .i64 0, .int .i64 0, .int .i64 0, .int .i64 0] 24)) (w.heap.size + 1) = some #[.int .i64 0, .int .i64 0, .int .i64 0, .int .i64 0]) := Lib.hid (by have := rowAt_new (w.alloc (.cells #[.int .i64 th, .int .i64 kd, .int .i64 ob, .int .i64 sl, .int .i64 va, .bool rf, .int .i64 f1, .int .i64 f2, .int .i64 tm] 44)) #[.int .i64 0, .int .i64 0, .int .i64 0, .int .i64 0] 24; rwa [size_alloc] at this)
  have HE : Hid (rowAt ((w.alloc (.cells #[.int .i64 th, .int .i64 kd, .int .i64 ob, .int .i64 sl, .int .i64 va, .bool rf, .int .i64 f1, .int .i64 f2, .int .i64 tm] 44)).alloc (.cells #[.int .i64 0, .int .i64 0, .int .i64 0, .int .i64 0] 24)) w.heap.size = some #[.int .i64 th, .int .i64 kd, .int .i64 ob, .int .i64 sl, .int .i64 va, .bool rf, .int .i64 f1, .int .i64 f2, .int .i64 tm]) := Lib.hid (rowAt_past (rowAt_new _ _ _) _)
  subst hb
  clear h
  go_enter Try.func34, Try.ntmps34
  go_upto_region 4 with (fail)
  clear hz hw0 q3 q1
  obtain ⟨U, hU⟩ : ∃ U, U = ((w.alloc (.cells #[.int .i64 th, .int .i64 kd, .int .i64 ob, .int .i64 sl, .int .i64 va, .bool rf, .int .i64 f1, .int .i64 f2, .int .i64 tm] 44)).alloc (.cells #[.int .i64 0, .int .i64 0, .int .i64 0, .int .i64 0] 24)) := ⟨_, rfl⟩
  rw [← hU] at HB HT HE ⊢
  clear hU
  obtain ⟨t, ht⟩ : ∃ t, t = w.heap.size := ⟨_, rfl⟩
  have HTT := Lib.hid ht
  have HBW : Hid (∀ k, k < t → k < w.heap.size) := Lib.hid (fun k hk => by omega)
  rw [← ht] at HT HE ⊢
  clear ht
  have HSM := Lib.hid (HH.out.past HB.out)
  have HSD : Hid (SmC U.drew P F S) := Lib.hid (HSM.out.past (Below.refl _ _).drew)
  have HL : Hid ((Instr.lookup 56 (.map (some P.wb)) (.agg #[.int .i64 ob, .int .i64 sl]) false).run Try.prog U.drew = .ok x.v U.drew) := Lib.hid (by have := HSD.out.mw.look hk1 hk2; rwa [hx] at this)
  refine region_e 10 (fun w' => w'.cell? ⟨P.s, 40, none⟩ = some (.map (some P.wb)) ∧ w'.cell? ⟨t, 2, none⟩ = some (.int .i64 ob) ∧ w'.cell? ⟨t, 3, none⟩ = some (.int .i64 sl) ∧ (Instr.lookup 56 (.map (some P.wb)) (.agg #[.int .i64 ob, .int .i64 sl]) false).run Try.prog w' = .ok (.agg #[.int .i64 x.a, .int .i64 x.b, .int .i64 x.c, .int .i64 x.d]) w') (by kernel_rfl) ⟨HSM.out.zs.2.1, rowAt_cell HE.out 2, rowAt_cell HE.out 3, HL.out⟩ (fun hHeld => ?_)
  refine AnyE.take (i := 0) (oi := { dst := some 25, op := Go.Op.move (Go.Operand.tmp 0), type := 50, pos := "stamp.go:134", after := #[], guard := none }) (v := ?_) rfl (by kernel_rfl) (by kernel_rfl) (by kernel_rfl) (by kernel_rfl) (fun _ _ _ h => h) (Or.inl ⟨by rfl, ?_⟩) (by assumption) ?_
  rotate_left
  · (intro w0 hSw; (try dsimp only at hSw); go_split_ands; go_simp; with_reducible rfl)
  try simp only [Act.put, List.setIfInBounds_toArray, List.set_cons_zero, List.set_cons_succ]
  refine AnyE.take (i := 1) (oi := { dst := some 26, op := Go.Op.nilCheck (Go.Operand.tmp 25), type := 0, pos := "stamp.go:134", after := #[{ on := 0, ground := Go.Ground.data }], guard := none }) (v := ?_) rfl (by kernel_rfl) (by kernel_rfl) (by kernel_rfl) (by kernel_rfl) (fun _ _ _ h => h) (Or.inl ⟨by rfl, ?_⟩) (by assumption) ?_
  rotate_left
  · (intro w0 hSw; (try dsimp only at hSw); go_split_ands; go_simp; with_reducible rfl)
  try simp only [Act.put, List.setIfInBounds_toArray, List.set_cons_zero, List.set_cons_succ]
  refine AnyE.take (i := 2) (oi := { dst := some 27, op := Go.Op.fieldAddr 59 (Go.Operand.tmp 26) 7, type := 0, pos := "stamp.go:134", after := #[{ on := 1, ground := Go.Ground.data }], guard := none }) (v := ?_) rfl (by kernel_rfl) (by kernel_rfl) (by kernel_rfl) (by kernel_rfl) (fun _ _ _ h => h) (Or.inl ⟨by rfl, ?_⟩) (by assumption) ?_
  rotate_left
  · (intro w0 hSw; (try dsimp only at hSw); go_split_ands; go_simp; with_reducible rfl)
  try simp only [Act.put, List.setIfInBounds_toArray, List.set_cons_zero, List.set_cons_succ]
  refine AnyE.take (i := 3) (oi := { dst := some 28, op := Go.Op.load 56 (Go.Operand.tmp 27), type := 56, pos := "stamp.go:134", after := #[{ on := 2, ground := Go.Ground.data }], guard := none }) (v := ?_) rfl (by kernel_rfl) (by kernel_rfl) (by kernel_rfl) (by kernel_rfl) (fun _ _ _ h => h) (Or.inl ⟨by rfl, ?_⟩) (by assumption) ?_
  rotate_left
  · (intro w0 hSw; (try dsimp only at hSw); go_split_ands; go_simp; with_reducible rfl)
  try simp only [Act.put, List.setIfInBounds_toArray, List.set_cons_zero, List.set_cons_succ]
  refine AnyE.take (i := 4) (oi := { dst := some 29, op := Go.Op.fieldAddr 44 (Go.Operand.tmp 4) 2, type := 0, pos := "stamp.go:134", after := #[], guard := none }) (v := ?_) rfl (by kernel_rfl) (by kernel_rfl) (by kernel_rfl) (by kernel_rfl) (fun _ _ _ h => h) (Or.inl ⟨by rfl, ?_⟩) (by assumption) ?_
  rotate_left
  · (intro w0 hSw; (try dsimp only at hSw); go_split_ands; go_simp; with_reducible rfl)
  try simp only [Act.put, List.setIfInBounds_toArray, List.set_cons_zero, List.set_cons_succ]
  refine AnyE.take (i := 5) (oi := { dst := some 30, op := Go.Op.load 3 (Go.Operand.tmp 29), type := 3, pos := "stamp.go:134", after := #[{ on := 4, ground := Go.Ground.data }], guard := none }) (v := ?_) rfl (by kernel_rfl) (by kernel_rfl) (by kernel_rfl) (by kernel_rfl) (fun _ _ _ h => h) (Or.inl ⟨by rfl, ?_⟩) (by assumption) ?_
  rotate_left
  · (intro w0 hSw; (try dsimp only at hSw); go_split_ands; go_simp; with_reducible rfl)
  try simp only [Act.put, List.setIfInBounds_toArray, List.set_cons_zero, List.set_cons_succ]
  refine AnyE.take (i := 6) (oi := { dst := some 31, op := Go.Op.fieldAddr 44 (Go.Operand.tmp 4) 3, type := 0, pos := "stamp.go:134", after := #[], guard := none }) (v := ?_) rfl (by kernel_rfl) (by kernel_rfl) (by kernel_rfl) (by kernel_rfl) (fun _ _ _ h => h) (Or.inl ⟨by rfl, ?_⟩) (by assumption) ?_
  rotate_left
  · (intro w0 hSw; (try dsimp only at hSw); go_split_ands; go_simp; with_reducible rfl)
  try simp only [Act.put, List.setIfInBounds_toArray, List.set_cons_zero, List.set_cons_succ]
  refine AnyE.take (i := 7) (oi := { dst := some 32, op := Go.Op.load 3 (Go.Operand.tmp 31), type := 3, pos := "stamp.go:134", after := #[{ on := 6, ground := Go.Ground.data }], guard := none }) (v := ?_) rfl (by kernel_rfl) (by kernel_rfl) (by kernel_rfl) (by kernel_rfl) (fun _ _ _ h => h) (Or.inl ⟨by rfl, ?_⟩) (by assumption) ?_
  rotate_left
  · (intro w0 hSw; (try dsimp only at hSw); go_split_ands; go_simp; with_reducible rfl)
  try simp only [Act.put, List.setIfInBounds_toArray, List.set_cons_zero, List.set_cons_succ]
  refine AnyE.take (i := 8) (oi := { dst := some 33, op := Go.Op.build 70 #[(0, Go.Operand.tmp 30), (1, Go.Operand.tmp 32)], type := 70, pos := "stamp.go:134", after := #[{ on := 5, ground := Go.Ground.data }, { on := 7, ground := Go.Ground.data }], guard := none }) (v := ?_) rfl (by kernel_rfl) (by kernel_rfl) (by kernel_rfl) (by kernel_rfl) (fun _ _ _ h => h) (Or.inl ⟨by rfl, ?_⟩) (by assumption) ?_
  rotate_left
  · (intro w0 hSw; (try dsimp only at hSw); go_split_ands; go_simp; with_reducible rfl)
  try simp only [Act.put, List.setIfInBounds_toArray, List.set_cons_zero, List.set_cons_succ]
  refine AnyE.take (i := 9) (oi := { dst := some 34, op := Go.Op.lookup 56 (Go.Operand.tmp 28) (Go.Operand.tmp 33) false, type := 24, pos := "stamp.go:134", after := #[{ on := 3, ground := Go.Ground.data }, { on := 8, ground := Go.Ground.data }], guard := none }) (v := ?_) rfl (by kernel_rfl) (by kernel_rfl) (by kernel_rfl) (by kernel_rfl) (fun _ _ _ h => h) (Or.inl ⟨by rfl, ?_⟩) (by assumption) ?_
  rotate_left
  · (intro w0 hSw; (try dsimp only at hSw); go_split_ands; go_simp; with_reducible rfl)
  try simp only [Act.put, List.setIfInBounds_toArray, List.set_cons_zero, List.set_cons_succ]
  refine AnyE.ready (rs := [10]) (by kernel_rfl) (by simp) ?_
  refine AllE.last (o := { dst := none, op := Go.Op.store 24 (Go.Operand.tmp 6) (Go.Operand.tmp 34), type := 0, pos := "stamp.go:134", after := #[{ on := 9, ground := Go.Ground.data }, { on := 0, ground := Go.Ground.phase }, { on := 1, ground := Go.Ground.phase }, { on := 2, ground := Go.Ground.phase }, { on := 3, ground := Go.Ground.phase }, { on := 4, ground := Go.Ground.phase }, { on := 5, ground := Go.Ground.phase }, { on := 6, ground := Go.Ground.phase }, { on := 7, ground := Go.Ground.phase }, { on := 8, ground := Go.Ground.phase }, { on := 9, ground := Go.Ground.phase }], guard := none }) rfl (by kernel_rfl) (fun K hK => ?_)
  clear hHeld
  obtain ⟨V, hV⟩ : ∃ V, V = U.drew := ⟨_, rfl⟩
  have HTV : Hid (rowAt V (t + 1) = some #[.int .i64 0, .int .i64 0, .int .i64 0, .int .i64 0]) := Lib.hid (by rw [hV]; exact HT.out)
  have HBV : Hid (Below w.heap.size w V) := Lib.hid (by rw [hV]; exact HB.out.drew)
  rw [← hV]
  clear hV
  have z0 := rowAt_cell HTV.out 0
  have z1 := rowAt_cell HTV.out 1
  have z2 := rowAt_cell HTV.out 2
  have z3 := rowAt_cell HTV.out 3
  have f0 := rowAt_frz HTV.out 0
  have f1' := rowAt_frz HTV.out 1
  have f2' := rowAt_frz HTV.out 2
  have f3 := rowAt_frz HTV.out 3
  simp only [List.getElem?_toArray, List.getElem?_cons_zero, List.getElem?_cons_succ] at z0 z1 z2 z3
  go_simp
  refine hK.out _ _ ?_
  clear hK K
  have HBD : Hid (Below w.heap.size w ((((V.setCell ⟨t + 1, 0, none⟩ (.int .i64 x.a)).setCell ⟨t + 1, 1, none⟩ (.int .i64 x.b)).setCell ⟨t + 1, 2, none⟩ (.int .i64 x.c)).setCell ⟨t + 1, 3, none⟩ (.int .i64 x.d))) := Lib.hid ((((HBV.out.setCell (by show _ ≤ t + 1; have := HTT.out; omega) _).setCell (by show _ ≤ t + 1; have := HTT.out; omega) _).setCell (by show _ ≤ t + 1; have := HTT.out; omega) _).setCell (by show _ ≤ t + 1; have := HTT.out; omega) _)
  have HR : Hid (rowAt ((((V.setCell ⟨t + 1, 0, none⟩ (.int .i64 x.a)).setCell ⟨t + 1, 1, none⟩ (.int .i64 x.b)).setCell ⟨t + 1, 2, none⟩ (.int .i64 x.c)).setCell ⟨t + 1, 3, none⟩ (.int .i64 x.d)) (t + 1) = some #[.int .i64 x.a, .int .i64 x.b, .int .i64 x.c, .int .i64 x.d]) := Lib.hid (rowAt_set (rowAt_set (rowAt_set (rowAt_set HTV.out 0 _) 1 _) 2 _) 3 _)
  generalize ((((V.setCell ⟨t + 1, 0, none⟩ (.int .i64 x.a)).setCell ⟨t + 1, 1, none⟩ (.int .i64 x.b)).setCell ⟨t + 1, 2, none⟩ (.int .i64 x.c)).setCell ⟨t + 1, 3, none⟩ (.int .i64 x.d)) = V5 at HBD HR ⊢
  clear z0 z1 z2 z3 f0 f1' f2' f3
  have y0 : V5.cell? ⟨t + 1, 0, none⟩ = some (.int .i64 x.a) := rowAt_cell HR.out 0
  have y1 : V5.cell? ⟨t + 1, 1, none⟩ = some (.int .i64 x.b) := rowAt_cell HR.out 1
  have y2 : V5.cell? ⟨t + 1, 2, none⟩ = some (.int .i64 x.c) := rowAt_cell HR.out 2
  have y3 : V5.cell? ⟨t + 1, 3, none⟩ = some (.int .i64 x.d) := rowAt_cell HR.out 3
  go_wp2
  refine bodyPost_ret (v := x.v) (by simp [results, Try.results34, go_sem, Ck.v, y0, y1, y2, y3]) rfl ⟨rfl, ?_⟩
  exact HBD.out
set_option maxRecDepth 100000 in
set_option maxHeartbeats 4000000 in
theorem joined_z {w : World} (s : Nat) (th kd ob sl va : Int) (rf : Bool) (f1 f2 tm : Int) (b : Bool) (q3 : (kd == 3) = false) (h : ((kd == 1) = true ∧ (kd == 6) = false ∧ b = false) ∨ ((kd == 1) = false ∧ ((kd == 6) = false ∨ ((kd == 6) = true ∧ (decide (0 ≤ va) = false ∨ (decide (0 ≤ va) = true ∧ (decide (va < 4) = false ∨ (decide (va < 4) = true ∧ (va != th) = false)))))))) :
    Calls Try.prog 34 #[.pointer (some ⟨s, 0, none⟩), .agg #[.int .i64 th, .int .i64 kd, .int .i64 ob, .int .i64 sl, .int .i64 va, .bool rf, .int .i64 f1, .int .i64 f2, .int .i64 tm], .bool b] w fun r w' => r = .returned Ck.zero.v ∧ Below w.heap.size w w' := by
  rcases h with ⟨q1, q6, rfl⟩ | ⟨q1, q6 | ⟨q6, qa | ⟨qa, qb | ⟨qb, qc⟩⟩⟩⟩
  all_goals
    go_enter Try.func34, Try.ntmps34
    go_wp2
    refine bodyPost_ret (v := Ck.zero.v) (by simp [results, Try.results34, go_sem, Ck.v, Ck.zero]) rfl ⟨rfl, ?_⟩
    exact ((Below.refl _ _).alloc (Nat.le_refl _) _).alloc (by simp) _
theorem joined_n {w : World} {P : Pc} {F : Fx} {S : St} (h : SmC w P F S) (e : Ev) (he : e.ok) (b : Bool) (hn : ¬ e.joins) :
    Calls Try.prog 34 #[.pointer (some ⟨P.s, 0, none⟩), e.v, .bool b] w fun r w' => r = .returned (S.jn e b).v ∧ Below w.heap.size w w' := by
  obtain ⟨k1, k2, k3, k4, k5, k6⟩ := he
  unfold St.jn
  by_cases a3 : e.kd = 3
  · rw [if_pos a3]
    exact joined_x h _ _ _ _ _ _ _ _ _ _ _ k3 (by simp [a3]) rfl
  · rw [if_neg a3]
    by_cases a1 : e.kd = 1 ∧ b = true
    · rw [if_pos a1]
      exact joined_w h _ _ _ _ _ _ _ _ _ _ _ k3 k4 (by simp [a3]) (by simp [a1.1]) a1.2 rfl
    · rw [if_neg a1]
      refine joined_z _ _ _ _ _ _ _ _ _ _ _ (by simp [a3]) ?_
      by_cases c1 : e.kd = 1
      · exact .inl ⟨by simp [c1], by simp [c1], by cases b with | true => exact absurd ⟨c1, rfl⟩ a1 | false => rfl⟩
      · refine .inr ⟨by simp [c1], ?_⟩
        by_cases c6 : e.kd = 6
        · refine .inr ⟨by simp [c6], ?_⟩
          by_cases ca : 0 ≤ e.va
          · refine .inr ⟨by simp [ca], ?_⟩
            by_cases cb : e.va < 4
            · refine .inr ⟨by simp [cb], ?_⟩
              by_cases cc : e.va = e.th
              · simp [cc]
              · exact absurd ⟨c6, ca, cb, cc⟩ hn
            · exact .inl (by simpa using cb)
          · exact .inl (by simpa using ca)
        · exact .inl (by simp [c6])
end Go.Proofs.Ytnmgafaebggeiaa.St
