import Derived.RangeFuncNested
import Derived.RangeFuncCalls
import Derived.RangeFuncLeaves
import Derived.Test.YtnbpgoacooddjaaLe
namespace Go.Proofs.Ytnbpgoacooddjaa.Lab
open Go.ChangeShapes Go.WideShapes Go.ChangeAt Go.RowKit Go.Maps
open Go.Proofs.Ytnbpgoacooddjaa.En
set_option linter.unusedVariables false
attribute [local go_sem] rowAt_drew rowAt_drewN
/-- Code again, wherever its parts lie. -/
def LbQ (w : World) (FP : Nat → Prop) (p : Nat) (S' : Lb) (w' : World) : Prop :=
  ∃ (FP' : Nat → Prop) (mb : Nat) (v1' v3' : Value) (bx bY bz : Nat → Nat), LbC w' FP' p S' mb v1' v3' bx bY bz ∧ (∀ k, FP' k → FP k ∨ w.heap.size ≤ k) ∧ (∀ k, FP k → FP' k) ∧ Kp FP w w'
theorem LbP.q {w w' : World} {FP : Nat → Prop} {p : Nat} {S' : Lb} {mb : Nat} {v3 : Value} {bx bY bz : Nat → Nat} (h : LbP w FP p S' mb v3 bx bY bz w') : LbQ w FP p S' w' := by
  obtain ⟨FP', v1', h1, h2, h3, h4⟩ := h
  exact ⟨FP', mb, v1', v3, bx, bY, bz, h1, h2, h3, h4⟩
theorem Boxed.kp {w w' : World} {FP : Nat → Prop} {b : Nat} {t : TypeId} {v : Value} (h : Boxed w b t v) (hk : Kp FP w w') (hb : ¬ FP b) : Boxed w' b t v := (hk.block b h.lt hb).trans h
def jumpB (o : Int) : Bool := o == 20 || o == 21 || o == 22 || o == 23 || o == 24
set_option maxRecDepth 100000 in
theorem isJump_c (o : Int) (w : World) : Calls Try.prog 106 #[.int .i64 o] w fun e w' => e = .returned (.bool (jumpB o)) ∧ w = w' := by
  by_cases h : o = 20 ∨ o = 21 ∨ o = 22 ∨ o = 23 ∨ o = 24
  · rcases h with rfl | rfl | rfl | rfl | rfl
    all_goals go_enter Try.func106, Try.ntmps106
    all_goals go_wp2
    all_goals go_ret
    all_goals exact ⟨rfl, rfl⟩
  · have e1 : (o == 20) = false := by simp; omega
    have e2 : (o == 21) = false := by simp; omega
    have e3 : (o == 22) = false := by simp; omega
    have e4 : (o == 23) = false := by simp; omega
    have e5 : (o == 24) = false := by simp; omega
    have hj : jumpB o = false := by unfold jumpB; rw [e1, e2, e3, e4, e5]; rfl
    rw [hj]
    go_enter Try.func106, Try.ntmps106
    go_wp2
    go_ret
    exact ⟨rfl, rfl⟩
/-- The instruction that a jump lays. -/
def zIn (x : In) : In := { x with i := 0 }
def Lb.jump (S : Lb) (x : In) (s : ByteArray) : Lb :=
  { S.app (fun _ => zIn x) 1 with jn := S.jn + 1, nm := fun k => if k = S.jn then s else S.nm k, pl := fun k => if k = S.jn then (S.n : Int) else S.pl k }
theorem info152 : (Try.prog.info? 152).map (fun i => (i.zero, i.size, i.bytes)) = some (some .nilFunc, 1, 8) := by kernel_rfl
theorem run_append1 (w : World) (ty : TypeId) (v : Value) (n : Nat) (xs : List Value) (hown : w.ownsRow 0 152 1 v n xs) (g : Nat) (jv : Value) (hg : rowAt w g = some #[jv]) (h1 : jv.oneCell' = true) (hn : n < 10000000) :
    ∃ v' w', (Builtin.append_ #[147, 147] ty #[v, .slice (some ⟨g, 0, none⟩) 1 1]).run Try.prog w = .ok v' w' ∧ w'.ownsRow 0 152 1 v' (n + 1) (xs ++ [jv]) ∧ w.grownBy w' v.ownBlock ∧ (v'.ownBlock = v.ownBlock ∨ v'.ownBlock = some w.heap.size) := by
  have hb := info152
  cases hi : Try.prog.info? 152 with
  | none => rw [hi] at hb; cases hb
  | some i =>
    rw [hi] at hb
    simp only [Option.map_some, Option.some.injEq, Prod.mk.injEq] at hb
    obtain ⟨hz0, hz1, hz2⟩ := hb
    have hnews : ∀ j u, [jv][j]? = some u → w.cell? ((⟨g, 0, none⟩ : Addr).add j) = some u := fun j u hu => by
      obtain rfl : j = 0 := by
        have := (List.getElem?_eq_some_iff.1 hu).1
        simp at this
        exact this
      have := rowAt_cell hg 0
      rw [show (⟨g, 0, none⟩ : Addr).add 0 = ⟨g, 0, none⟩ from rfl, this]
      exact hu
    obtain ⟨v', w', hr, h2, h3, _, h5⟩ := run_append_own_at (P := Try.prog) w 0 147 ty 152 i _ 1 8 Try.underlying147 hi hz0 hz1 hz2 rfl (by decide) v n xs hown ⟨g, 0, none⟩ 1 1 [jv] rfl hnews (by simpa using h1) (by unfold maxLen; omega) (by omega) (Nat.zero_le _)
    exact ⟨v', w', hr, h2, h3, h5⟩
theorem step_append_run {P : Program} {w : World} {ops : Array Oper} {o : Oper} {a : Act} {K : Act → World → Prop} {Q : Exit → Act → World → Prop} {E : Prop} (hgd : o.guard = none) (s x : Operand) (t : TypeId)
    (ho : o.op = .call { callee := .builtin .append, args := #[s, x], argTypes := #[t, t] }) (v v2 v' : Value) (w' : World) (hs : a.eval s = v) (hx : a.eval x = v2)
    (hr : (Builtin.append_ #[t, t] o.type #[v, v2]).run P w = .ok v' w') (h : K (a.put o.dst v') w') : if Region.wanted o (yielded ops a.tmps) = true then Oper.wp P o a w K Q else E := by
  have hw : Region.wanted o (yielded ops a.tmps) = true := by simp [Region.wanted, hgd]
  rw [if_pos hw]
  unfold Oper.wp execOp
  simp only [ho, resolve, invoke, builtin, Sem.run_bind, Sem.run_pure, Result.andThen_ok, List.map_toArray, List.map_cons, List.map_nil, hs, hx, hr]
  exact h
section
variable {w : World} {FP : Nat → Prop} {p mb : Nat} {S : Lb} {v1 v3 : Value} {bx bY bz : Nat → Nat}
theorem jmpL_snoc (bx bY bz : Nat → Nat) (n nb ny nz : Nat) : jmpL (fun k => if k = n then nb else bx k) (fun k => if k = n then ny else bY k) (fun k => if k = n then nz else bz k) (n + 1) = jmpL bx bY bz n ++ [jmpV nb ny nz] := by
  unfold jmpL
  rw [List.range_succ, List.map_append]
  congr 1
  · apply List.map_congr_left
    intro k hk
    have := List.mem_range.1 hk
    show jmpV (if k = n then nb else bx k) (if k = n then ny else bY k) (if k = n then nz else bz k) = _
    rw [if_neg (by omega), if_neg (by omega), if_neg (by omega)]
  · simp
theorem LbC.jumped (h : LbC w FP p S mb v1 v3 bx bY bz) {w1 : World} {v' : Value} {nb ny nz : Nat} {s : ByteArray} {pl0 : Int} (ho : w1.ownsRow 0 152 1 v' (S.jn + 1) (jmpL bx bY bz S.jn ++ [jmpV nb ny nz])) (hg : w.grownBy w1 v3.ownBlock) (hl : v'.ownBlock = v3.ownBlock ∨ v'.ownBlock = some w.heap.size)
    (b1 : Boxed w nb 43 (.pointer (some ⟨p, 0, none⟩))) (b2 : Boxed w ny 9 (.string s)) (b3 : Boxed w nz 3 (.int .i64 pl0)) :
    LbC (w1.setCell ⟨p, 3, none⟩ v') (fun k => FP k ∨ v'.ownBlock = some k ∨ k = nb ∨ k = ny ∨ k = nz) p { S with jn := S.jn + 1, nm := fun k => if k = S.jn then s else S.nm k, pl := fun k => if k = S.jn then pl0 else S.pl k } mb v1 v' (fun k => if k = S.jn then nb else bx k) (fun k => if k = S.jn then ny else bY k) (fun k => if k = S.jn then nz else bz k) ∧
      Kp FP w (w1.setCell ⟨p, 3, none⟩ v') := by
  have hp1 : w1.heap[p]? = some (.cells (cellsL S.at0 v1 mb v3 S.err) 149 (0, 0)) := (hg.block p (h.fl p h.fp) (fun e => h.p3 e.symm rfl)).trans h.row
  have hne : ∀ k, k ≠ p → (w1.setCell ⟨p, 3, none⟩ v').heap[k]? = w1.heap[k]? := fun k hk => Below.heap_setCell _ _ _ _ hk
  have hown : ∀ g, v'.ownBlock = some g → g ≠ p := fun g hg' => by
    obtain ⟨cur, hc⟩ := own_heap ho hg'
    exact ne_of_obj hc hp1 (ne_ty (by decide))
  have keep : ∀ (b : Nat) (o : Obj), w.heap[b]? = some o → (∀ C fr, o ≠ Obj.cells C 152 fr) → (∀ C fr, o ≠ Obj.cells C 149 fr) → (w1.setCell ⟨p, 3, none⟩ v').heap[b]? = some o := fun b o hb h1 h2 => by
    have hbp : b ≠ p := fun e => by
      subst e
      rw [h.row] at hb
      injection hb with hb
      exact h2 _ _ hb.symm
    rw [hne b hbp, hg.block b (Array.getElem?_eq_some_iff.1 hb).1 (fun e => by
      obtain ⟨cur, hc⟩ := own_heap h.jmp e.symm
      rw [hc] at hb
      injection hb with hb
      exact h1 _ _ hb.symm)]
    exact hb
  have nt : ∀ {v : Value} {t u : TypeId}, t ≠ u → ∀ C fr, Obj.cells #[v] t (0, 0) ≠ Obj.cells C u fr := fun hn C fr => ne_ty hn
  have hs : (w1.setCell ⟨p, 3, none⟩ v').heap.size = w1.heap.size := by simp
  refine ⟨⟨setP_heap hp1, ?_, ?_, ?_, ?_, .inl h.fp, .inl h.fm, fun g hg => .inl (h.f1 g hg), fun g hg => .inr (.inl hg), ?_, h.nl⟩, ?_⟩
  · refine ownsRow_kept h.ins fun g hg' => ?_
    obtain ⟨cur, hc⟩ := own_heap h.ins hg'
    rw [keep g _ hc (fun C fr => ne_ty (by decide)) (fun C fr => ne_ty (by decide)), hc]
  · obtain ⟨es, ck, hb, r⟩ := h.map
    exact ⟨es, ck, keep mb _ hb (fun C fr => ne_map) (fun C fr => ne_map), r⟩
  · show (w1.setCell ⟨p, 3, none⟩ v').ownsRow 0 152 1 v' (S.jn + 1) _
    rw [jmpL_snoc]
    exact ownsRow_kept ho fun g hg' => hne g (hown g hg')
  · intro k hk
    have hk' : k < S.jn + 1 := hk
    show Boxed _ (if k = S.jn then nb else bx k) 43 _ ∧ Boxed _ (if k = S.jn then ny else bY k) 9 (.string (if k = S.jn then s else S.nm k)) ∧ Boxed _ (if k = S.jn then nz else bz k) 3 (.int .i64 (if k = S.jn then pl0 else S.pl k)) ∧ _
    by_cases e : k = S.jn
    · simp only [e, if_true]
      exact ⟨keep _ _ b1 (nt (by decide)) (nt (by decide)), keep _ _ b2 (nt (by decide)) (nt (by decide)), keep _ _ b3 (nt (by decide)) (nt (by decide)), .inr (.inr (.inl trivial)), .inr (.inr (.inr (.inl trivial))), .inr (.inr (.inr (.inr trivial)))⟩
    · simp only [e, if_false]
      obtain ⟨a, b, c, fa, fb, fc⟩ := h.box k (by omega)
      exact ⟨keep _ _ a (nt (by decide)) (nt (by decide)), keep _ _ b (nt (by decide)) (nt (by decide)), keep _ _ c (nt (by decide)) (nt (by decide)), .inl fa, .inl fb, .inl fc⟩
  · intro k hf
    rw [hs]
    rcases hf with hf | hf | hf | hf | hf
    · exact Nat.lt_of_lt_of_le (h.fl k hf) hg.size
    · obtain ⟨cur, hc⟩ := own_heap ho hf
      exact (Array.getElem?_eq_some_iff.1 hc).1
    · subst hf; exact Nat.lt_of_lt_of_le b1.lt hg.size
    · subst hf; exact Nat.lt_of_lt_of_le b2.lt hg.size
    · subst hf; exact Nat.lt_of_lt_of_le b3.lt hg.size
  · exact (Kp.of_grown hg (fun b hb => h.f3 b hb)).trans (kp_set (FP := FP) w1 p 3 v' h.fp) fun k hf => .inl hf
end
set_option maxRecDepth 100000 in
set_option maxHeartbeats 8000000 in
theorem jump_y (w : World) (FP : Nat → Prop) (p : Nat) (S : Lb) (mb : Nat) (v1 v3 : Value) (bx bY bz : Nat → Nat) (x : In) (s : ByteArray) (h : LbC w FP p S mb v1 v3 bx bY bz) (hj : jumpB x.op = true) (hx : (zIn x).e = 0) (hn : S.n < 65536) (hjn : S.jn < 1000000) :
    Calls Try.prog 28 #[.pointer (some ⟨p, 0, none⟩), x.v, .string s] w fun e w' => e = .returned (.tuple #[]) ∧ LbQ w FP p (S.jump x s) w' := by
  have H := Lib.hid h
  have HX := Lib.hid hx
  have HJ := Lib.hid hj
  clear h hx hj
  show Calls Try.prog 28 #[.pointer (some ⟨p, 0, none⟩), .agg #[.int .i64 x.op, .int .i64 x.d, .int .i64 x.n, .int .i64 x.m, .int .i64 x.a, .int .i64 x.c, .int .i64 x.i], .string s] w _
  go_enter Try.func28, Try.ntmps28
  obtain ⟨W0, hW0⟩ : ∃ W0, ((((w.alloc (.cells #[.pointer (some ⟨p, 0, none⟩)] 43)).alloc (.cells #[.int .i64 x.op, .int .i64 x.d, .int .i64 x.n, .int .i64 x.m, .int .i64 x.a, .int .i64 x.c, .int .i64 x.i] 29)).alloc (.cells #[.string s] 9)).setCell ⟨w.heap.size + 1, 6, none⟩ (.int .i64 0)) = W0 := ⟨_, rfl⟩
  have z1 : (w.alloc (.cells #[.pointer (some ⟨p, 0, none⟩)] 43)).heap.size = w.heap.size + 1 := by simp
  have z2 : ((w.alloc (.cells #[.pointer (some ⟨p, 0, none⟩)] 43)).alloc (.cells #[.int .i64 x.op, .int .i64 x.d, .int .i64 x.n, .int .i64 x.m, .int .i64 x.a, .int .i64 x.c, .int .i64 x.i] 29)).heap.size = w.heap.size + 2 := by simp
  have b0 : Boxed (((w.alloc (.cells #[.pointer (some ⟨p, 0, none⟩)] 43)).alloc (.cells #[.int .i64 x.op, .int .i64 x.d, .int .i64 x.n, .int .i64 x.m, .int .i64 x.a, .int .i64 x.c, .int .i64 x.i] 29)).alloc (.cells #[.string s] 9)) w.heap.size 43 (.pointer (some ⟨p, 0, none⟩)) := ((Boxed.new w 43 _).alloc _).alloc _
  have b1 : rowAt (((w.alloc (.cells #[.pointer (some ⟨p, 0, none⟩)] 43)).alloc (.cells #[.int .i64 x.op, .int .i64 x.d, .int .i64 x.n, .int .i64 x.m, .int .i64 x.a, .int .i64 x.c, .int .i64 x.i] 29)).alloc (.cells #[.string s] 9)) (w.heap.size + 1) = some #[.int .i64 x.op, .int .i64 x.d, .int .i64 x.n, .int .i64 x.m, .int .i64 x.a, .int .i64 x.c, .int .i64 x.i] := rowAt_past (by rw [← z1]; exact rowAt_new _ _ _) _
  have b2 : Boxed (((w.alloc (.cells #[.pointer (some ⟨p, 0, none⟩)] 43)).alloc (.cells #[.int .i64 x.op, .int .i64 x.d, .int .i64 x.n, .int .i64 x.m, .int .i64 x.a, .int .i64 x.c, .int .i64 x.i] 29)).alloc (.cells #[.string s] 9)) (w.heap.size + 2) 9 (.string s) := by rw [← z2]; exact Boxed.new _ 9 _
  have B0 : Boxed W0 w.heap.size 43 (.pointer (some ⟨p, 0, none⟩)) := by rw [← hW0]; exact (Below.heap_setCell _ _ _ _ (by simp)).trans b0
  have B1 : rowAt W0 (w.heap.size + 1) = some #[.int .i64 x.op, .int .i64 x.d, .int .i64 x.n, .int .i64 x.m, .int .i64 x.a, .int .i64 x.c, .int .i64 0] := by rw [← hW0]; exact rowAt_set b1 6 _
  have B2 : Boxed W0 (w.heap.size + 2) 9 (.string s) := by rw [← hW0]; exact (Below.heap_setCell _ _ _ _ (by simp)).trans b2
  have L0 : Below w.heap.size w W0 := by rw [← hW0]; exact ((((Below.refl _ _).alloc (Nat.le_refl _) _).alloc (by simp) _).alloc (by simp; omega) _).setCell (p := ⟨w.heap.size + 1, 6, none⟩) (by simp) _
  have S0 : W0.heap.size = w.heap.size + 3 := by rw [← hW0]; simp
  have HB0 := Lib.hid B0
  have HB1 := Lib.hid B1
  have HB2 := Lib.hid B2
  have HL0 := Lib.hid L0
  have HS0 := Lib.hid S0
  have HC0 := Lib.hid (H.out.past L0)
  clear z1 z2 b0 b1 b2 B0 B2 L0 S0
  go_upto_region 2 with (fail)
  try rw [hW0]
  clear hW0
  have x0 := rowAt_cell B1 0
  have x1 := rowAt_cell B1 1
  have x2 := rowAt_cell B1 2
  have x3 := rowAt_cell B1 3
  have x4 := rowAt_cell B1 4
  have x5 := rowAt_cell B1 5
  have x6 := rowAt_cell B1 6
  clear B1
  have HCK := Lib.hid ((zIn x).check W0)
  obtain ⟨a1, cp1, rfl, _⟩ := own_form H.out.ins
  go_upto_region 4 with (first | (go_at_call 106; refine (isJump_c _ _).mono ?_; rintro e w2 ⟨rfl, rfl⟩; rw [HJ.out]) | (go_at_call 31; refine HCK.out.mono ?_; rintro e w3 ⟨he, hb3⟩; rw [HX.out] at he; subst he; have HB3 := Lib.hid hb3; clear hb3))
  clear x0 x1 x2 x3 x4 x5 x6
  have hs3 : w.heap.size + 3 ≤ w3.heap.size := by have := HB3.out.size; have := HS0.out; omega
  have HC3 := Lib.hid (HC0.out.past HB3.out)
  have B0 : Boxed w3 w.heap.size 43 (.pointer (some ⟨p, 0, none⟩)) := (HB3.out.block _ (by have := HS0.out; omega)).trans HB0.out
  have B1 : rowAt w3 (w.heap.size + 1) = some #[.int .i64 x.op, .int .i64 x.d, .int .i64 x.n, .int .i64 x.m, .int .i64 x.a, .int .i64 x.c, .int .i64 0] := rowAt_below HB1.out HB3.out rfl
  have B2 : Boxed w3 (w.heap.size + 2) 9 (.string s) := (HB3.out.block _ (by have := HS0.out; omega)).trans HB2.out
  have L3 : Below w.heap.size w w3 := HL0.out.trans (HB3.out.mono HL0.out.size)
  have cX := B0.cell
  have c1 := rowAt_cell HC3.out.rw 1
  simp only [cellsL] at c1
  obtain ⟨W4, hW4⟩ : ∃ W4, (w3.alloc (.cells #[.int .i64 0] 3)).setCell ⟨w3.heap.size, 0, none⟩ (.int .i64 (S.n : Int)) = W4 := ⟨_, rfl⟩
  have D0 : Boxed W4 w.heap.size 43 (.pointer (some ⟨p, 0, none⟩)) := by rw [← hW4]; exact Boxed.other (B0.alloc _) (by omega : w.heap.size ≠ w3.heap.size) _
  have D1 : rowAt W4 (w.heap.size + 1) = some #[.int .i64 x.op, .int .i64 x.d, .int .i64 x.n, .int .i64 x.m, .int .i64 x.a, .int .i64 x.c, .int .i64 0] := by rw [← hW4]; exact rowAt_set_far (rowAt_past B1 _) (by omega) _ _
  have D2 : Boxed W4 (w.heap.size + 2) 9 (.string s) := by rw [← hW4]; exact Boxed.other (B2.alloc _) (by omega : w.heap.size + 2 ≠ w3.heap.size) _
  have D3 : Boxed W4 w3.heap.size 3 (.int .i64 (S.n : Int)) := by rw [← hW4]; exact Boxed.set _ (Boxed.new w3 3 (.int .i64 0))
  have L4 : Below w3.heap.size w3 W4 := by rw [← hW4]; exact ((Below.refl _ _).alloc (Nat.le_refl _) _).setCell (p := ⟨w3.heap.size, 0, none⟩) (Nat.le_refl _) _
  have S4 : W4.heap.size = w3.heap.size + 1 := by rw [← hW4]; simp
  have HD0 := Lib.hid D0
  have HD1 := Lib.hid D1
  have HD2 := Lib.hid D2
  have HD3 := Lib.hid D3
  have HL3 := Lib.hid L3
  have HL4 := Lib.hid L4
  have HS4 := Lib.hid S4
  have HC4 := Lib.hid (HC3.out.past L4)
  have cX4 := D0.cell
  have y0 := rowAt_cell D1 0
  have y1 := rowAt_cell D1 1
  have y2 := rowAt_cell D1 2
  have y3 := rowAt_cell D1 3
  have y4 := rowAt_cell D1 4
  have y5 := rowAt_cell D1 5
  have y6 := rowAt_cell D1 6
  clear B0 B1 B2 L3 D0 D1 D2 D3 L4 S4 HC3 HC0 HB0 HB1 HB2 HB3 HL0 HCK
  go_upto_region 5 with (fail)
  try rw [hW4]
  clear hW4 cX c1
  have HSRC : Hid (∀ bt, rowAt (W4.alloc (.cells #[.int .i64 x.op, .int .i64 x.d, .int .i64 x.n, .int .i64 x.m, .int .i64 x.a, .int .i64 x.c, .int .i64 0] 29)) bt = some #[.int .i64 x.op, .int .i64 x.d, .int .i64 x.n, .int .i64 x.m, .int .i64 x.a, .int .i64 x.c, .int .i64 0] → SrcI (W4.alloc (.cells #[.int .i64 x.op, .int .i64 x.d, .int .i64 x.n, .int .i64 x.m, .int .i64 x.a, .int .i64 x.c, .int .i64 0] 29)) (some ⟨bt, 0, none⟩) 1 (fun _ => zIn x)) := Lib.hid (fun bt hb => .inr ⟨bt, 0, rfl, rowAt_lt hb, fun k hk => by
    obtain rfl : k = 0 := by omega
    exact ⟨rowAt_cell hb 0, rowAt_cell hb 1, rowAt_cell hb 2, rowAt_cell hb 3, rowAt_cell hb 4, rowAt_cell hb 5, rowAt_cell hb 6⟩⟩)
  go_upto_region 6 with (go_at_call 29; refine (put_y _ FP p S mb _ v3 bx bY bz _ 1 1 (fun _ => zIn x) (HC4.out.past ((Below.refl _ _).alloc (Nat.le_refl _) _)) (by omega) (Lib.hid (HSRC.out W4.heap.size (rowAt_new _ _ _))) (fun j hj => HX.out)).mono ?_; rintro e w5 ⟨rfl, hp5⟩; have HP5 := Lib.hid hp5; clear hp5)
  clear y0 y1 y2 y3 y4 y5 y6 cX4 HSRC
  obtain ⟨F5, v5, hc5, h52, h53, hk5⟩ := HP5.out
  obtain ⟨a5, cp5, rfl, _⟩ := own_form hc5.ins
  obtain ⟨a3, cp3, rfl, _⟩ := own_form hc5.jmp
  have hfl := H.out.fl
  have hs4 := HS4.out
  have E0 : Boxed w5 w.heap.size 43 (.pointer (some ⟨p, 0, none⟩)) := Boxed.kp (HD0.out.alloc _) hk5 (fun hf => by have := hfl _ hf; omega)
  have E2 : Boxed w5 (w.heap.size + 2) 9 (.string s) := Boxed.kp (HD2.out.alloc _) hk5 (fun hf => by have := hfl _ hf; omega)
  have E3 : Boxed w5 w3.heap.size 3 (.int .i64 (S.n : Int)) := Boxed.kp (HD3.out.alloc _) hk5 (fun hf => by have := hfl _ hf; omega)
  have cX5 : w5.drew.cell? ⟨w.heap.size, 0, none⟩ = some (.pointer (some ⟨p, 0, none⟩)) := E0.cell
  have c15 : w5.drew.cell? ⟨p, 1, none⟩ = some (.slice a5 (S.n + 1) cp5) := rowAt_cell hc5.rw 1
  have cZ5 : w5.drew.cell? ⟨w3.heap.size, 0, none⟩ = some (.int .i64 (S.n : Int)) := E3.cell
  have cX6 : w5.drew.drew.cell? ⟨w.heap.size, 0, none⟩ = some (.pointer (some ⟨p, 0, none⟩)) := E0.cell
  have c36 : w5.drew.drew.cell? ⟨p, 3, none⟩ = some (.slice a3 S.jn cp3) := rowAt_cell hc5.rw 3
  have f36 : w5.drew.drew.frozen? ⟨p, 3, none⟩ = false := rowAt_frz hc5.rw 3
  have HC5 := Lib.hid hc5
  have HE0 := Lib.hid E0
  have HE2 := Lib.hid E2
  have HE3 := Lib.hid E3
  have H52 := Lib.hid h52
  have H53 := Lib.hid h53
  have HK5 := Lib.hid hk5
  clear hc5 h52 h53 hk5 E0 E2 E3 HP5
  refine wp_region_held_drew (S := fun w' => w'.cell? ⟨w.heap.size, 0, none⟩ = some (.pointer (some ⟨p, 0, none⟩)) ∧ w'.cell? ⟨p, 1, none⟩ = some (.slice a5 (S.n + 1) cp5) ∧ w'.cell? ⟨w3.heap.size, 0, none⟩ = some (.int .i64 (S.n : Int))) (by kernel_rfl) ⟨cX5, c15, cZ5⟩ (fun hHeld => ?_)
  refine wpAnyH_take (i := 0) (oi := { dst := some 28, op := Go.Op.load 43 (Go.Operand.tmp 3), type := 43, pos := "lab.go:63", after := #[], guard := none }) (v := ?_) rfl (by kernel_rfl) (by kernel_rfl) (by kernel_rfl) (fun _ _ _ h => h) (Or.inl ⟨by rfl, ?_⟩) (by assumption) ?_
  rotate_left
  · (intro w0 hSw; (try dsimp only at hSw); go_split_ands; go_simp; with_reducible rfl)
  try simp only [Act.put, List.setIfInBounds_toArray, List.set_cons_zero, List.set_cons_succ]
  refine wpAnyH_take (i := 1) (oi := { dst := some 29, op := Go.Op.nilCheck (Go.Operand.tmp 28), type := 0, pos := "lab.go:63", after := #[{ on := 0, ground := Go.Ground.data }], guard := none }) (v := ?_) rfl (by kernel_rfl) (by kernel_rfl) (by kernel_rfl) (fun _ _ _ h => h) (Or.inl ⟨by rfl, ?_⟩) (by assumption) ?_
  rotate_left
  · (intro w0 hSw; (try dsimp only at hSw); go_split_ands; go_simp; with_reducible rfl)
  try simp only [Act.put, List.setIfInBounds_toArray, List.set_cons_zero, List.set_cons_succ]
  refine wpAnyH_take (i := 2) (oi := { dst := some 30, op := Go.Op.fieldAddr 149 (Go.Operand.tmp 29) 1, type := 0, pos := "lab.go:63", after := #[{ on := 1, ground := Go.Ground.data }], guard := none }) (v := ?_) rfl (by kernel_rfl) (by kernel_rfl) (by kernel_rfl) (fun _ _ _ h => h) (Or.inl ⟨by rfl, ?_⟩) (by assumption) ?_
  rotate_left
  · (intro w0 hSw; (try dsimp only at hSw); go_split_ands; go_simp; with_reducible rfl)
  try simp only [Act.put, List.setIfInBounds_toArray, List.set_cons_zero, List.set_cons_succ]
  refine wpAnyH_take (i := 3) (oi := { dst := some 31, op := Go.Op.load 63 (Go.Operand.tmp 30), type := 63, pos := "lab.go:63", after := #[{ on := 2, ground := Go.Ground.data }], guard := none }) (v := ?_) rfl (by kernel_rfl) (by kernel_rfl) (by kernel_rfl) (fun _ _ _ h => h) (Or.inl ⟨by rfl, ?_⟩) (by assumption) ?_
  rotate_left
  · (intro w0 hSw; (try dsimp only at hSw); go_split_ands; go_simp; with_reducible rfl)
  try simp only [Act.put, List.setIfInBounds_toArray, List.set_cons_zero, List.set_cons_succ]
  refine wpAnyH_take (i := 4) (oi := { dst := some 32, op := Go.Op.call { callee := Go.Callee.builtin Go.Builtin.len, args := #[Go.Operand.tmp 31], argTypes := #[63] }, type := 3, pos := "lab.go:63", after := #[{ on := 3, ground := Go.Ground.data }], guard := none }) (v := ?_) rfl (by kernel_rfl) (by kernel_rfl) (by kernel_rfl) (fun _ _ _ h => h) (Or.inl ⟨by rfl, ?_⟩) (by assumption) ?_
  rotate_left
  · (intro w0 hSw; (try dsimp only at hSw); go_split_ands; go_simp; with_reducible rfl)
  try simp only [Act.put, List.setIfInBounds_toArray, List.set_cons_zero, List.set_cons_succ]
  refine wpAnyH_take (i := 5) (oi := { dst := some 33, op := Go.Op.load 3 (Go.Operand.tmp 6), type := 3, pos := "lab.go:63", after := #[], guard := none }) (v := ?_) rfl (by kernel_rfl) (by kernel_rfl) (by kernel_rfl) (fun _ _ _ h => h) (Or.inl ⟨by rfl, ?_⟩) (by assumption) ?_
  rotate_left
  · (intro w0 hSw; (try dsimp only at hSw); go_split_ands; go_simp; with_reducible rfl)
  try simp only [Act.put, List.setIfInBounds_toArray, List.set_cons_zero, List.set_cons_succ]
  refine wpAnyH_take (i := 6) (oi := { dst := some 34, op := Go.Op.binOp Go.BinOp.eql 3 (Go.Operand.tmp 32) (Go.Operand.tmp 33) 3, type := 4, pos := "lab.go:63", after := #[{ on := 4, ground := Go.Ground.data }, { on := 5, ground := Go.Ground.data }], guard := none }) (v := ?_) rfl (by kernel_rfl) (by kernel_rfl) (by kernel_rfl) (fun _ _ _ h => h) (Or.inl ⟨by rfl, ?_⟩) (by assumption) ?_
  rotate_left
  · (intro w0 hSw; (try dsimp only at hSw); go_split_ands; go_simp; with_reducible rfl)
  try simp only [Act.put, List.setIfInBounds_toArray, List.set_cons_zero, List.set_cons_succ]
  refine wpAnyH_done (by kernel_rfl) ?_ _
  clear hHeld
  go_upto_region 7 with (fail)
  have hcv : LbC w5.drew.drew F5 p (S.app (fun _ => zIn x) 1) mb _ _ bx bY bz := HC5.out.past ((Below.refl _ _).drew.drew)
  refine wp_region_held_drew (S := fun w' => w'.cell? ⟨w.heap.size, 0, none⟩ = some (.pointer (some ⟨p, 0, none⟩))) (by kernel_rfl) cX6 (fun hHeld => ?_)
  have G0 : Boxed w5.drew.drew w.heap.size 43 (.pointer (some ⟨p, 0, none⟩)) := HE0.out
  have G2 : Boxed w5.drew.drew (w.heap.size + 2) 9 (.string s) := HE2.out
  have G3 : Boxed w5.drew.drew w3.heap.size 3 (.int .i64 (S.n : Int)) := HE3.out
  have KV : Kp FP (W4.alloc (.cells #[.int .i64 x.op, .int .i64 x.d, .int .i64 x.n, .int .i64 x.m, .int .i64 x.a, .int .i64 x.c, .int .i64 0] 29)) w5.drew.drew := HK5.out.trans (FP' := FP) (Kp.of_below ((Below.refl _ _).drew.drew)) (fun k hf => .inl hf)
  have HG0 := Lib.hid G0
  have HG2 := Lib.hid G2
  have HG3 := Lib.hid G3
  have HKV := Lib.hid KV
  clear G0 G2 G3 KV HE0 HE2 HE3 HK5 HC5
  generalize w5.drew.drew = V at cX6 c36 f36 hHeld hcv HG0 HG2 HG3 HKV ⊢
  obtain ⟨jv, hjv⟩ : ∃ jv, jmpV w.heap.size (w.heap.size + 2) w3.heap.size = jv := ⟨_, rfl⟩
  have hcw := hcv.past ((Below.refl V.heap.size V).alloc (Nat.le_refl _) (.cells #[jv] 152))
  have cX7 := (HG0.out.alloc (.cells #[jv] 152)).cell
  have c37 := rowAt_cell hcw.rw 3
  simp only [cellsL] at c37
  obtain ⟨v', W7, hr, ho7, hg7, hl7⟩ := run_append1 _ 147 (.slice a3 S.jn cp3) S.jn _ hcw.jmp V.heap.size jv (rowAt_new V #[jv] 152) (by rw [← hjv]; rfl) (by omega)
  obtain ⟨a7, cp7, rfl, _⟩ := own_form ho7
  have hQ := hcw.jumped (s := s) (pl0 := (S.n : Int)) (nb := w.heap.size) (ny := w.heap.size + 2) (nz := w3.heap.size) (by rw [hjv]; exact ho7) hg7 hl7 (HG0.out.alloc _) (HG2.out.alloc _) (HG3.out.alloc _)
  have hsV : (V.alloc (.cells #[jv] 152)).heap.size = V.heap.size + 1 := by simp
  have HL7 := Lib.hid hl7
  have hp7 : rowAt W7 p = some (cellsL S.at0 (.slice a5 (S.n + 1) cp5) mb (.slice a3 S.jn cp3) S.err) := rowAt_of ((hg7.block p (hcw.fl p hcw.fp) (fun e => hcw.p3 e.symm rfl)).trans hcw.row)
  have c77 := rowAt_cell hp7 3
  have f77 := rowAt_frz hp7 3
  simp only [cellsL] at c77
  have hb8 := (hQ.1.box S.jn (Nat.lt_succ_self _)).1
  change Boxed _ (if S.jn = S.jn then w.heap.size else bx S.jn) 43 _ at hb8
  rw [if_pos rfl] at hb8
  have hpn : w.heap.size ≠ p := fun e => by have := hfl p H.out.fp; omega
  have hb7 : Boxed W7 w.heap.size 43 (.pointer (some ⟨p, 0, none⟩)) := (Below.heap_setCell _ _ _ _ hpn).symm.trans hb8
  have cX77 := hb7.cell
  have cX78 := hb8.cell
  have hs3' := hs3
  have hVs := HKV.out.size
  have hA4 : (W4.alloc (.cells #[.int .i64 x.op, .int .i64 x.d, .int .i64 x.n, .int .i64 x.m, .int .i64 x.a, .int .i64 x.c, .int .i64 0] 29)).heap.size = W4.heap.size + 1 := by simp
  have h5 : ∀ k, F5 k → FP k ∨ w.heap.size ≤ k := fun k hf => (H52.out k hf).imp id (fun h => by omega)
  have hLQ : LbQ w FP p (S.jump x s) (W7.setCell ⟨p, 3, none⟩ (.slice a7 (S.jn + 1) cp7)) := by
    refine ⟨_, mb, _, _, _, _, _, hQ.1, fun k hf => ?_, fun k hf => .inl (H53.out k hf), ?_⟩
    · rcases hf with hf | hf | hf | hf | hf
      · exact h5 k hf
      · rcases HL7.out with hl | hl
        · exact h5 k (hcw.f3 k (hl.symm.trans hf))
        · rw [hl] at hf
          injection hf with hf
          exact .inr (by omega)
      · exact .inr (by omega)
      · exact .inr (by omega)
      · exact .inr (by omega)
    · have K1 : Kp FP w (W4.alloc (.cells #[.int .i64 x.op, .int .i64 x.d, .int .i64 x.n, .int .i64 x.m, .int .i64 x.a, .int .i64 x.c, .int .i64 0] 29)) := Kp.of_below ((HL3.out.trans (HL4.out.mono (by omega))).alloc (by omega) _)
      have K3 : Kp FP V (V.alloc (.cells #[jv] 152)) := Kp.of_below ((Below.refl _ _).alloc (Nat.le_refl _) _)
      exact ((K1.trans HKV.out fun k hf => .inl hf).trans K3 fun k hf => .inl hf).trans hQ.2 h5
  have HQ := Lib.hid hLQ
  clear hQ hLQ ho7 hg7 hl7 hp7 hcw hcv hb7 hb8 h5 hpn
  refine wpAnyH_take (i := 0) (oi := { dst := some 35, op := Go.Op.load 43 (Go.Operand.tmp 3), type := 43, pos := "lab.go:66", after := #[], guard := none }) (v := ?_) rfl (by kernel_rfl) (by kernel_rfl) (by kernel_rfl) (fun _ _ _ h => h) (Or.inl ⟨by rfl, ?_⟩) (by assumption) ?_
  rotate_left
  · (intro w0 hSw; (try dsimp only at hSw); go_split_ands; go_simp; with_reducible rfl)
  try simp only [Act.put, List.setIfInBounds_toArray, List.set_cons_zero, List.set_cons_succ]
  refine wpAnyH_take (i := 1) (oi := { dst := some 36, op := Go.Op.load 43 (Go.Operand.tmp 3), type := 43, pos := "lab.go:66", after := #[], guard := none }) (v := ?_) rfl (by kernel_rfl) (by kernel_rfl) (by kernel_rfl) (fun _ _ _ h => h) (Or.inl ⟨by rfl, ?_⟩) (by assumption) ?_
  rotate_left
  · (intro w0 hSw; (try dsimp only at hSw); go_split_ands; go_simp; with_reducible rfl)
  try simp only [Act.put, List.setIfInBounds_toArray, List.set_cons_zero, List.set_cons_succ]
  refine wpAnyH_take (i := 2) (oi := { dst := some 37, op := Go.Op.nilCheck (Go.Operand.tmp 36), type := 0, pos := "lab.go:66", after := #[{ on := 1, ground := Go.Ground.data }], guard := none }) (v := ?_) rfl (by kernel_rfl) (by kernel_rfl) (by kernel_rfl) (fun _ _ _ h => h) (Or.inl ⟨by rfl, ?_⟩) (by assumption) ?_
  rotate_left
  · (intro w0 hSw; (try dsimp only at hSw); go_split_ands; go_simp; with_reducible rfl)
  try simp only [Act.put, List.setIfInBounds_toArray, List.set_cons_zero, List.set_cons_succ]
  refine wpAnyH_take (i := 3) (oi := { dst := some 38, op := Go.Op.fieldAddr 149 (Go.Operand.tmp 37) 3, type := 0, pos := "lab.go:66", after := #[{ on := 2, ground := Go.Ground.data }], guard := none }) (v := ?_) rfl (by kernel_rfl) (by kernel_rfl) (by kernel_rfl) (fun _ _ _ h => h) (Or.inl ⟨by rfl, ?_⟩) (by assumption) ?_
  rotate_left
  · (intro w0 hSw; (try dsimp only at hSw); go_split_ands; go_simp; with_reducible rfl)
  try simp only [Act.put, List.setIfInBounds_toArray, List.set_cons_zero, List.set_cons_succ]
  refine wpAnyH_take (i := 5) (oi := { dst := some 40, op := Go.Op.makeFunc (Go.Fn.func 107) #[] #[Go.Operand.tmp 3, Go.Operand.tmp 5, Go.Operand.tmp 6], type := 152, pos := "lab.go:66", after := #[], guard := none }) (v := ?_) rfl (by kernel_rfl) (by kernel_rfl) (by kernel_rfl) (fun _ _ _ h => h) (Or.inl ⟨by rfl, ?_⟩) (by assumption) ?_
  rotate_left
  · (intro w0 hSw; (try dsimp only at hSw); go_split_ands; go_simp; with_reducible rfl)
  try simp only [Act.put, List.setIfInBounds_toArray, List.set_cons_zero, List.set_cons_succ]
  refine wpAnyH_ready (rs := [4, 6]) (by kernel_rfl) (by simp) ?_
  refine AllReadyH.cons (o := { dst := some 39, op := Go.Op.load 147 (Go.Operand.tmp 38), type := 147, pos := "lab.go:66", after := #[{ on := 3, ground := Go.Ground.data }], guard := none }) rfl (fun K hK => ?_) ?_
  · go_simp
    refine hK.out _ _ cX6 (fun hHeld => ?_)
    clear hK K
    try simp only [Act.put, List.setIfInBounds_toArray, List.set_cons_zero, List.set_cons_succ]
    refine wpAnyH_ready (rs := [6]) (by kernel_rfl) (by simp) ?_
    refine AllReadyH.cons (o := { dst := some 41, op := Go.Op.buildSlice 147 1 #[(0, Go.Operand.tmp 40)], type := 147, pos := "lab.go:66", after := #[{ on := 5, ground := Go.Ground.data }], guard := none }) rfl (fun K hK => ?_) AllReadyH.nil
    go_simp
    rw [show (Value.func (.func 107) #[] #[.pointer (some ⟨w.heap.size, 0, none⟩), .pointer (some ⟨w.heap.size + 1 + 1, 0, none⟩), .pointer (some ⟨w3.heap.size, 0, none⟩)]) = jv from hjv]
    refine hK.out _ _ cX7 (fun hHeld => ?_)
    clear hK K
    try simp only [Act.put, List.setIfInBounds_toArray, List.set_cons_zero, List.set_cons_succ]
    refine wpAnyH_ready (rs := [7]) (by kernel_rfl) (by simp) ?_
    refine AllReadyH.cons (o := { dst := some 42, op := Go.Op.call { callee := Go.Callee.builtin Go.Builtin.append, args := #[Go.Operand.tmp 39, Go.Operand.tmp 41], argTypes := #[147, 147] }, type := 147, pos := "lab.go:66", after := #[{ on := 4, ground := Go.Ground.data }, { on := 6, ground := Go.Ground.data }], guard := none }) rfl (fun K hK => ?_) AllReadyH.nil
    refine step_append_run rfl _ _ _ rfl _ _ _ _ rfl (by rw [← hjv]; rfl) hr ?_
    refine hK.out _ _ cX77 (fun hHeld => ?_)
    clear hK K
    try simp only [Act.put, List.setIfInBounds_toArray, List.set_cons_zero, List.set_cons_succ]
    refine wpAnyH_take (i := 8) (oi := { dst := some 43, op := Go.Op.nilCheck (Go.Operand.tmp 35), type := 0, pos := "lab.go:66", after := #[{ on := 0, ground := Go.Ground.data }, { on := 0, ground := Go.Ground.phase }, { on := 1, ground := Go.Ground.phase }, { on := 2, ground := Go.Ground.phase }, { on := 3, ground := Go.Ground.phase }, { on := 4, ground := Go.Ground.phase }, { on := 5, ground := Go.Ground.phase }, { on := 6, ground := Go.Ground.phase }, { on := 7, ground := Go.Ground.phase }], guard := none }) (v := ?_) rfl (by kernel_rfl) (by kernel_rfl) (by kernel_rfl) (fun _ _ _ h => h) (Or.inl ⟨by rfl, ?_⟩) (by assumption) ?_
    rotate_left
    · (intro w0 hSw; (try dsimp only at hSw); go_split_ands; go_simp; with_reducible rfl)
    try simp only [Act.put, List.setIfInBounds_toArray, List.set_cons_zero, List.set_cons_succ]
    refine wpAnyH_take (i := 9) (oi := { dst := some 44, op := Go.Op.fieldAddr 149 (Go.Operand.tmp 43) 3, type := 0, pos := "lab.go:66", after := #[{ on := 8, ground := Go.Ground.data }, { on := 0, ground := Go.Ground.phase }, { on := 1, ground := Go.Ground.phase }, { on := 2, ground := Go.Ground.phase }, { on := 3, ground := Go.Ground.phase }, { on := 4, ground := Go.Ground.phase }, { on := 5, ground := Go.Ground.phase }, { on := 6, ground := Go.Ground.phase }, { on := 7, ground := Go.Ground.phase }], guard := none }) (v := ?_) rfl (by kernel_rfl) (by kernel_rfl) (by kernel_rfl) (fun _ _ _ h => h) (Or.inl ⟨by rfl, ?_⟩) (by assumption) ?_
    rotate_left
    · (intro w0 hSw; (try dsimp only at hSw); go_split_ands; go_simp; with_reducible rfl)
    try simp only [Act.put, List.setIfInBounds_toArray, List.set_cons_zero, List.set_cons_succ]
    refine wpAnyH_ready (rs := [10]) (by kernel_rfl) (by simp) ?_
    refine AllReadyH.cons (o := { dst := none, op := Go.Op.store 147 (Go.Operand.tmp 44) (Go.Operand.tmp 42), type := 0, pos := "lab.go:66", after := #[{ on := 9, ground := Go.Ground.data }, { on := 7, ground := Go.Ground.data }, { on := 7, ground := Go.Ground.chain }, { on := 0, ground := Go.Ground.phase }, { on := 1, ground := Go.Ground.phase }, { on := 2, ground := Go.Ground.phase }, { on := 3, ground := Go.Ground.phase }, { on := 4, ground := Go.Ground.phase }, { on := 5, ground := Go.Ground.phase }, { on := 6, ground := Go.Ground.phase }, { on := 7, ground := Go.Ground.phase }], guard := none }) rfl (fun K hK => ?_) AllReadyH.nil
    go_simp
    refine hK.out _ _ cX78 (fun hHeld => ?_)
    clear hK K
    try simp only [Act.put, List.setIfInBounds_toArray, List.set_cons_zero, List.set_cons_succ]
    refine wpAnyH_done (by kernel_rfl) ?_ _
    clear hHeld
    go_end0
    exact ⟨rfl, HQ.out⟩
  refine AllReadyH.cons (o := { dst := some 41, op := Go.Op.buildSlice 147 1 #[(0, Go.Operand.tmp 40)], type := 147, pos := "lab.go:66", after := #[{ on := 5, ground := Go.Ground.data }], guard := none }) rfl (fun K hK => ?_) AllReadyH.nil
  go_simp
  rw [show (Value.func (.func 107) #[] #[.pointer (some ⟨w.heap.size, 0, none⟩), .pointer (some ⟨w.heap.size + 1 + 1, 0, none⟩), .pointer (some ⟨w3.heap.size, 0, none⟩)]) = jv from hjv]
  refine hK.out _ _ cX7 (fun hHeld => ?_)
  clear hK K
  try simp only [Act.put, List.setIfInBounds_toArray, List.set_cons_zero, List.set_cons_succ]
  refine wpAnyH_ready (rs := [4]) (by kernel_rfl) (by simp) ?_
  refine AllReadyH.cons (o := { dst := some 39, op := Go.Op.load 147 (Go.Operand.tmp 38), type := 147, pos := "lab.go:66", after := #[{ on := 3, ground := Go.Ground.data }], guard := none }) rfl (fun K hK => ?_) AllReadyH.nil
  go_simp
  refine hK.out _ _ cX7 (fun hHeld => ?_)
  clear hK K
  try simp only [Act.put, List.setIfInBounds_toArray, List.set_cons_zero, List.set_cons_succ]
  refine wpAnyH_ready (rs := [7]) (by kernel_rfl) (by simp) ?_
  refine AllReadyH.cons (o := { dst := some 42, op := Go.Op.call { callee := Go.Callee.builtin Go.Builtin.append, args := #[Go.Operand.tmp 39, Go.Operand.tmp 41], argTypes := #[147, 147] }, type := 147, pos := "lab.go:66", after := #[{ on := 4, ground := Go.Ground.data }, { on := 6, ground := Go.Ground.data }], guard := none }) rfl (fun K hK => ?_) AllReadyH.nil
  refine step_append_run rfl _ _ _ rfl _ _ _ _ rfl (by rw [← hjv]; rfl) hr ?_
  refine hK.out _ _ cX77 (fun hHeld => ?_)
  clear hK K
  try simp only [Act.put, List.setIfInBounds_toArray, List.set_cons_zero, List.set_cons_succ]
  refine wpAnyH_take (i := 8) (oi := { dst := some 43, op := Go.Op.nilCheck (Go.Operand.tmp 35), type := 0, pos := "lab.go:66", after := #[{ on := 0, ground := Go.Ground.data }, { on := 0, ground := Go.Ground.phase }, { on := 1, ground := Go.Ground.phase }, { on := 2, ground := Go.Ground.phase }, { on := 3, ground := Go.Ground.phase }, { on := 4, ground := Go.Ground.phase }, { on := 5, ground := Go.Ground.phase }, { on := 6, ground := Go.Ground.phase }, { on := 7, ground := Go.Ground.phase }], guard := none }) (v := ?_) rfl (by kernel_rfl) (by kernel_rfl) (by kernel_rfl) (fun _ _ _ h => h) (Or.inl ⟨by rfl, ?_⟩) (by assumption) ?_
  rotate_left
  · (intro w0 hSw; (try dsimp only at hSw); go_split_ands; go_simp; with_reducible rfl)
  try simp only [Act.put, List.setIfInBounds_toArray, List.set_cons_zero, List.set_cons_succ]
  refine wpAnyH_take (i := 9) (oi := { dst := some 44, op := Go.Op.fieldAddr 149 (Go.Operand.tmp 43) 3, type := 0, pos := "lab.go:66", after := #[{ on := 8, ground := Go.Ground.data }, { on := 0, ground := Go.Ground.phase }, { on := 1, ground := Go.Ground.phase }, { on := 2, ground := Go.Ground.phase }, { on := 3, ground := Go.Ground.phase }, { on := 4, ground := Go.Ground.phase }, { on := 5, ground := Go.Ground.phase }, { on := 6, ground := Go.Ground.phase }, { on := 7, ground := Go.Ground.phase }], guard := none }) (v := ?_) rfl (by kernel_rfl) (by kernel_rfl) (by kernel_rfl) (fun _ _ _ h => h) (Or.inl ⟨by rfl, ?_⟩) (by assumption) ?_
  rotate_left
  · (intro w0 hSw; (try dsimp only at hSw); go_split_ands; go_simp; with_reducible rfl)
  try simp only [Act.put, List.setIfInBounds_toArray, List.set_cons_zero, List.set_cons_succ]
  refine wpAnyH_ready (rs := [10]) (by kernel_rfl) (by simp) ?_
  refine AllReadyH.cons (o := { dst := none, op := Go.Op.store 147 (Go.Operand.tmp 44) (Go.Operand.tmp 42), type := 0, pos := "lab.go:66", after := #[{ on := 9, ground := Go.Ground.data }, { on := 7, ground := Go.Ground.data }, { on := 7, ground := Go.Ground.chain }, { on := 0, ground := Go.Ground.phase }, { on := 1, ground := Go.Ground.phase }, { on := 2, ground := Go.Ground.phase }, { on := 3, ground := Go.Ground.phase }, { on := 4, ground := Go.Ground.phase }, { on := 5, ground := Go.Ground.phase }, { on := 6, ground := Go.Ground.phase }, { on := 7, ground := Go.Ground.phase }], guard := none }) rfl (fun K hK => ?_) AllReadyH.nil
  go_simp
  refine hK.out _ _ cX78 (fun hHeld => ?_)
  clear hK K
  try simp only [Act.put, List.setIfInBounds_toArray, List.set_cons_zero, List.set_cons_succ]
  refine wpAnyH_done (by kernel_rfl) ?_ _
  clear hHeld
  go_end0
  exact ⟨rfl, HQ.out⟩
end Go.Proofs.Ytnbpgoacooddjaa.Lab
