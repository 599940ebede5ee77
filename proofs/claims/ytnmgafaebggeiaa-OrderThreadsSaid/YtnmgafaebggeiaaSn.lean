import Derived.Test.YtnmgafaebggeiaaSj
import Derived.Test.YtnmgafaebggeiaaSl
import Derived.Test.YtnmgafaebggeiaaSm
import Derived.Laws.MakeOwn
namespace Go.Proofs.Ytnmgafaebggeiaa.St
open Go.ChangeShapes Go.WideShapes Go.ChangeAt Go.RowKit Go.Maps
set_option linter.unusedVariables false
/-! ### Stamp's makers -/
theorem info4z : (Try.prog.info? 4).map (fun i => (i.zero, i.size, i.bytes)) = some (some (.bool false), 1, 1) := by kernel_rfl
theorem info24z : (Try.prog.info? 24).map (fun i => (i.zero, i.size, i.bytes)) = some (some Ck.zero.v, 4, 32) := by kernel_rfl
theorem madeC (n : Nat) : madeCells Ck.zero.v.cells (n * 4) = Array.ofFn (n := n * 4) fun j => Ck.zero.at (j % 4) := by
  apply Array.ext
  · simp [size_madeCells]
  · intro q h1 h2
    have hq : q < n * 4 := by simpa using h2
    simp [madeCells, Ck.zero, Ck.v, Value.cells, Ck.at]
    have h4 : q % 4 = 0 ∨ q % 4 = 1 ∨ q % 4 = 2 ∨ q % 4 = 3 := by omega
    rcases h4 with h4 | h4 | h4 | h4 <;> simp [h4]
theorem madeB (n : Nat) : madeCells (Value.bool false).cells (n * 1) = Array.ofFn (n := n) fun j => Value.bool false := by
  apply Array.ext
  · simp [size_madeCells]
  · intro q h1 h2
    simp [madeCells, Value.cells, Nat.mod_one]
theorem make_51 (w : World) (n : Nat) (hn : n ≤ 150) : (Instr.makeSlice 51 (.int .i64 n) (.int .i64 n)).run Try.prog w = .ok (.slice (some ⟨w.heap.size, 0, none⟩) n n) (w.alloc (.cells (Array.ofFn (n := n) fun j => Value.bool false) 4)) := by
  obtain ⟨i0, hi, hz0, hz1, hz2⟩ := info_parts info4z
  have h := run_makeSlice (P := Try.prog) w 51 4 i0 _ Try.underlying51 hi hz0 .i64 .i64 n n (by omega) (by omega) (by rw [hz1]; omega) (by rw [hz2]; omega) (by omega)
  rw [Int.toNat_natCast, hz1, madeB] at h
  exact h
theorem make_37 (w : World) (n : Nat) (hn : n ≤ 150) : (Instr.makeSlice 37 (.int .i64 n) (.int .i64 n)).run Try.prog w = .ok (.slice (some ⟨w.heap.size, 0, none⟩) n n) (w.alloc (.cells (Array.ofFn (n := n * 4) fun j => Ck.zero.at (j % 4)) 24)) := by
  obtain ⟨i0, hi, hz0, hz1, hz2⟩ := info_parts info24z
  have h := run_makeSlice (P := Try.prog) w 37 24 i0 _ Try.underlying37 hi hz0 .i64 .i64 n n (by omega) (by omega) (by rw [hz1]; omega) (by rw [hz2]; omega) (by omega)
  rw [Int.toNat_natCast, hz1, madeC] at h
  exact h
/-- What the makers have made so far. -/
structure Mk (w0 : World) (n : Nat) (X : Nat → Ev) (b3 b5 b6 b7 b10 : Bool) (v19 v21 v22 v23 v26 : Value) (y k m1 m2 R : Nat) (V : Nat → Value) (W : World) : Prop where
  bel : Below w0.heap.size w0 W
  hy : b3 = true → v19 = .slice (some ⟨y, 0, none⟩) n n ∧ W.heap[y]? = some (.cells (Array.ofFn (n := n) fun j => Value.bool false) 4 (0, 0)) ∧ w0.heap.size ≤ y
  hr : b5 = true → v21 = .slice (some ⟨R, 0, none⟩) 4 4 ∧ SpC w0 R V (rowsOf X n) W
  h1 : b6 = true → v22 = .map (some m1) ∧ MpE W m1 0 (fun _ => Ck.zero) ∧ w0.heap.size ≤ m1
  h2 : b7 = true → v23 = .map (some m2) ∧ MpW W m2 0 (fun _ _ => Ck.zero) ∧ w0.heap.size ≤ m2
  hk : b10 = true → v26 = .slice (some ⟨k, 0, none⟩) n n ∧ W.heap[k]? = some (.cells (Array.ofFn (n := n * 4) fun j => Ck.zero.at (j % 4)) 24 (0, 0)) ∧ w0.heap.size ≤ k
  ne : b6 = true → b7 = true → m1 ≠ m2
section
variable {w0 W W' : World} {n : Nat} {X : Nat → Ev} {b3 b5 b6 b7 b10 : Bool} {v19 v21 v22 v23 v26 : Value} {y k m1 m2 R : Nat} {V : Nat → Value}
theorem Mk.past (h : Mk w0 n X b3 b5 b6 b7 b10 v19 v21 v22 v23 v26 y k m1 m2 R V W) (hb : Below W.heap.size W W') : Mk w0 n X b3 b5 b6 b7 b10 v19 v21 v22 v23 v26 y k m1 m2 R V W' :=
  ⟨h.bel.trans (hb.mono h.bel.size), fun e => ⟨(h.hy e).1, (hb.block y (Array.getElem?_eq_some_iff.1 (h.hy e).2.1).1).trans (h.hy e).2.1, (h.hy e).2.2⟩, fun e => ⟨(h.hr e).1, (h.hr e).2.past hb⟩,
    fun e => ⟨(h.h1 e).1, (h.h1 e).2.1.kept (hb.block _ (h.h1 e).2.1.lt), (h.h1 e).2.2⟩, fun e => ⟨(h.h2 e).1, (h.h2 e).2.1.kept (hb.block _ (h.h2 e).2.1.lt), (h.h2 e).2.2⟩,
    fun e => ⟨(h.hk e).1, (hb.block k (Array.getElem?_eq_some_iff.1 (h.hk e).2.1).1).trans (h.hk e).2.1, (h.hk e).2.2⟩, h.ne⟩
theorem heap_new (w : World) (o : Obj) : (w.alloc o).heap[w.heap.size]? = some o := by show (w.heap.push _)[w.heap.size]? = some _; exact Array.getElem?_push_size
theorem Mk.s3 (h : Mk w0 n X b3 b5 b6 b7 b10 v19 v21 v22 v23 v26 y k m1 m2 R V W) : Mk w0 n X true b5 b6 b7 b10 (.slice (some ⟨W.heap.size, 0, none⟩) n n) v21 v22 v23 v26 W.heap.size k m1 m2 R V (W.alloc (.cells (Array.ofFn (n := n) fun j => Value.bool false) 4)) := by
  have h' := h.past ((Below.refl W.heap.size W).alloc (Nat.le_refl _) (.cells (Array.ofFn (n := n) fun j => Value.bool false) 4))
  exact ⟨h'.bel, fun _ => ⟨rfl, heap_new _ _, h.bel.size⟩, h'.hr, h'.h1, h'.h2, h'.hk, h'.ne⟩
theorem Mk.s10 (h : Mk w0 n X b3 b5 b6 b7 b10 v19 v21 v22 v23 v26 y k m1 m2 R V W) : Mk w0 n X b3 b5 b6 b7 true v19 v21 v22 v23 (.slice (some ⟨W.heap.size, 0, none⟩) n n) y W.heap.size m1 m2 R V (W.alloc (.cells (Array.ofFn (n := n * 4) fun j => Ck.zero.at (j % 4)) 24)) := by
  have h' := h.past ((Below.refl W.heap.size W).alloc (Nat.le_refl _) (.cells (Array.ofFn (n := n * 4) fun j => Ck.zero.at (j % 4)) 24))
  exact ⟨h'.bel, h'.hy, h'.hr, h'.h1, h'.h2, fun _ => ⟨rfl, heap_new _ _, h.bel.size⟩, h'.ne⟩
theorem Mk.s6 (h : Mk w0 n X b3 b5 b6 b7 b10 v19 v21 v22 v23 v26 y k m1 m2 R V W) : Mk w0 n X b3 b5 true b7 b10 v19 v21 (.map (some W.heap.size)) v23 v26 y k W.heap.size m2 R V (W.alloc (.map #[] 0)) := by
  have h' := h.past ((Below.refl W.heap.size W).alloc (Nat.le_refl _) (.map #[] 0))
  exact ⟨h'.bel, h'.hy, h'.hr, fun _ => ⟨rfl, MpE.made W, h.bel.size⟩, h'.h2, h'.hk, fun _ e => by have := (h.h2 e).2.1.lt; omega⟩
theorem Mk.s7 (h : Mk w0 n X b3 b5 b6 b7 b10 v19 v21 v22 v23 v26 y k m1 m2 R V W) : Mk w0 n X b3 b5 b6 true b10 v19 v21 v22 (.map (some W.heap.size)) v26 y k m1 W.heap.size R V (W.alloc (.map #[] 0)) := by
  have h' := h.past ((Below.refl W.heap.size W).alloc (Nat.le_refl _) (.map #[] 0))
  exact ⟨h'.bel, h'.hy, h'.hr, h'.h1, fun _ => ⟨rfl, MpW.made W, h.bel.size⟩, h'.hk, fun e _ => by have := (h.h1 e).2.1.lt; omega⟩
theorem SpC.back {L : Nat → List Nat} (h : SpC W R V L W') (hb : Below w0.heap.size w0 W) : SpC w0 R V L W' := ⟨h.rr, h.rows, h.ap, Nat.le_trans hb.size h.lR, hb.trans (h.bel.mono hb.size)⟩
theorem Mk.s5 {R' : Nat} {V' : Nat → Value} (h : Mk w0 n X b3 b5 b6 b7 b10 v19 v21 v22 v23 v26 y k m1 m2 R V W) (hs : SpC W R' V' (rowsOf X n) W') : Mk w0 n X b3 true b6 b7 b10 v19 (.slice (some ⟨R', 0, none⟩) 4 4) v22 v23 v26 y k m1 m2 R' V' W' := by
  have h' := h.past hs.bel
  exact ⟨h'.bel, h'.hy, fun _ => ⟨rfl, hs.back h.bel⟩, h'.h1, h'.h2, h'.hk, h'.ne⟩
end
abbrev ops3 : Array Oper := #[{ dst := some 16, op := Go.Op.move (Go.Operand.tmp 0), type := 36, pos := "stamp.go:32", after := #[], guard := none }, { dst := some 17, op := Go.Op.move (Go.Operand.tmp 0), type := 36, pos := "stamp.go:32", after := #[], guard := none }, { dst := some 18, op := Go.Op.call { callee := Go.Callee.builtin Go.Builtin.len, args := #[Go.Operand.tmp 17], argTypes := #[36] }, type := 3, pos := "stamp.go:32", after := #[{ on := 1, ground := Go.Ground.data }], guard := none }, { dst := some 19, op := Go.Op.makeSlice 51 (Go.Operand.tmp 18) (Go.Operand.tmp 18), type := 51, pos := "stamp.go:32", after := #[{ on := 2, ground := Go.Ground.data }, { on := 2, ground := Go.Ground.data }], guard := none }, { dst := some 20, op := Go.Op.move (Go.Operand.tmp 0), type := 36, pos := "stamp.go:32", after := #[], guard := none }, { dst := some 21, op := Go.Op.call { callee := Go.Callee.value (Go.Operand.func 24), args := #[Go.Operand.tmp 20, Go.Operand.const (Go.Value.int Go.IntKind.i64 4), Go.Operand.func 25], argTypes := #[36, 3, 54] }, type := 52, pos := "stamp.go:35", after := #[{ on := 4, ground := Go.Ground.data }], guard := none }, { dst := some 22, op := Go.Op.makeMap 55 none, type := 55, pos := "stamp.go:32", after := #[], guard := none }, { dst := some 23, op := Go.Op.makeMap 56 none, type := 56, pos := "stamp.go:32", after := #[], guard := none }, { dst := some 24, op := Go.Op.move (Go.Operand.tmp 0), type := 36, pos := "stamp.go:32", after := #[], guard := none }, { dst := some 25, op := Go.Op.call { callee := Go.Callee.builtin Go.Builtin.len, args := #[Go.Operand.tmp 24], argTypes := #[36] }, type := 3, pos := "stamp.go:32", after := #[{ on := 8, ground := Go.Ground.data }], guard := none }, { dst := some 26, op := Go.Op.makeSlice 37 (Go.Operand.tmp 25) (Go.Operand.tmp 25), type := 37, pos := "stamp.go:32", after := #[{ on := 9, ground := Go.Ground.data }, { on := 9, ground := Go.Ground.data }], guard := none }, { dst := some 27, op := Go.Op.build 59 #[(0, Go.Operand.tmp 16), (1, Go.Operand.tmp 19), (2, Go.Operand.tmp 21), (6, Go.Operand.tmp 22), (7, Go.Operand.tmp 23), (8, Go.Operand.tmp 26)], type := 59, pos := "stamp.go:32", after := #[{ on := 0, ground := Go.Ground.data }, { on := 3, ground := Go.Ground.data }, { on := 5, ground := Go.Ground.data }, { on := 6, ground := Go.Ground.data }, { on := 7, ground := Go.Ground.data }, { on := 10, ground := Go.Ground.data }], guard := none }, { dst := some 28, op := Go.Op.box 59 (Go.Operand.tmp 27), type := 50, pos := "stamp.go:32", after := #[{ on := 11, ground := Go.Ground.data }], guard := none }, { dst := some 6, op := Go.Op.assign (Go.Operand.tmp 28), type := 50, pos := "stamp.go:32", after := #[{ on := 12, ground := Go.Ground.data }, { on := 5, ground := Go.Ground.chain }, { on := 0, ground := Go.Ground.phase }, { on := 1, ground := Go.Ground.phase }, { on := 2, ground := Go.Ground.phase }, { on := 3, ground := Go.Ground.phase }, { on := 4, ground := Go.Ground.phase }, { on := 5, ground := Go.Ground.phase }, { on := 6, ground := Go.Ground.phase }, { on := 7, ground := Go.Ground.phase }, { on := 8, ground := Go.Ground.phase }, { on := 9, ground := Go.Ground.phase }, { on := 10, ground := Go.Ground.phase }, { on := 11, ground := Go.Ground.phase }, { on := 12, ground := Go.Ground.phase }], guard := none }]
def lb3 (b3 b5 b6 b7 b10 : Bool) : Array Bool := #[true, true, true, b3, true, b5, b6, b7, true, true, b10, false, false, false]
theorem ready3 (b3 b5 b6 b7 b10 : Bool) : Region.ready .any ops3 (lb3 b3 b5 b6 b7 b10) = if b3 && b5 && b6 && b7 && b10 then [11] else (if b3 then [] else [3]) ++ (if b5 then [] else [5]) ++ (if b6 then [] else [6]) ++ (if b7 then [] else [7]) ++ (if b10 then [] else [10]) := by
  cases b3 <;> cases b5 <;> cases b6 <;> cases b7 <;> cases b10 <;> kernel_rfl
set_option maxRecDepth 100000 in
set_option maxHeartbeats 8000000 in
theorem mk_inv {Q : Exit → Act → World → Prop} {w0 : World} {n c : Nat} {a : Option Addr} {f : Value} {X : Nat → Ev} (hn : n ≤ 150) (hev : EvS w0 a n X) (hth : ∀ i, i < n → thB (X i).th = true)
    (HF : ∀ v19 v21 v22 v23 v26 W y k m1 m2 R V, Mk w0 n X true true true true true v19 v21 v22 v23 v26 y k m1 m2 R V W → AnyE Try.prog .any ops3 Q (fun _ => True) 13 3 (lb3 true true true true true) { tmps := #[.slice a n c, f, undef, undef, .slice none 0 0, .int .i64 0, undef, undef, undef, undef, undef, undef, undef, undef, .slice a n c, .bool false, .slice a n c, .slice a n c, .int .i64 n, v19, .slice a n c, v21, v22, v23, .slice a n c, .int .i64 n, v26, undef, undef, undef, undef, undef, undef, undef, undef, undef, undef, undef, undef, undef, undef, undef, undef, undef, undef, undef, undef, undef, undef, undef, undef, undef, undef, undef, undef, undef, undef, undef, undef, undef, undef, undef, undef, undef, undef, undef, undef, undef, undef, undef, undef, undef, undef, undef, undef, undef, undef, undef, undef, undef, undef, undef, undef, undef, undef, undef], defers := [] } W) :
    ∀ (m : Nat) (b3 b5 b6 b7 b10 : Bool) (v19 v21 v22 v23 v26 : Value) (W : World) (y k m1 m2 R : Nat) (V : Nat → Value), m + b3.toNat + b5.toNat + b6.toNat + b7.toNat + b10.toNat = 8 → Mk w0 n X b3 b5 b6 b7 b10 v19 v21 v22 v23 v26 y k m1 m2 R V W →
      AnyE Try.prog .any ops3 Q (fun _ => True) 13 m (lb3 b3 b5 b6 b7 b10) { tmps := #[.slice a n c, f, undef, undef, .slice none 0 0, .int .i64 0, undef, undef, undef, undef, undef, undef, undef, undef, .slice a n c, .bool false, .slice a n c, .slice a n c, .int .i64 n, v19, .slice a n c, v21, v22, v23, .slice a n c, .int .i64 n, v26, undef, undef, undef, undef, undef, undef, undef, undef, undef, undef, undef, undef, undef, undef, undef, undef, undef, undef, undef, undef, undef, undef, undef, undef, undef, undef, undef, undef, undef, undef, undef, undef, undef, undef, undef, undef, undef, undef, undef, undef, undef, undef, undef, undef, undef, undef, undef, undef, undef, undef, undef, undef, undef, undef, undef, undef, undef, undef, undef], defers := [] } W := by
  have HFH := Lib.hid HF
  have HEV := Lib.hid hev
  have HTH := Lib.hid hth
  have HN := Lib.hid hn
  clear HF hev hth
  intro m
  induction m with
  | zero =>
    intro b3 b5 b6 b7 b10 v19 v21 v22 v23 v26 W y k m1 m2 R V hm hM
    have := b3.toNat_le
    have := b5.toNat_le
    have := b6.toNat_le
    have := b7.toNat_le
    have := b10.toNat_le
    omega
  | succ m ih =>
    intro b3 b5 b6 b7 b10 v19 v21 v22 v23 v26 W y k m1 m2 R V hm hM
    by_cases hall : b3 && b5 && b6 && b7 && b10
    · simp at hall
      obtain ⟨⟨⟨⟨rfl, rfl⟩, rfl⟩, rfl⟩, rfl⟩ := hall
      obtain rfl : m = 2 := by simp at hm; omega
      exact HFH.out _ _ _ _ _ _ _ _ _ _ _ _ hM
    · have HIH := Lib.hid ih
      have HM := Lib.hid hM
      clear ih hM
      refine ⟨fun h0 => ?_, fun i hi => ?_⟩
      · rw [ready3, if_neg hall] at h0
        exfalso
        revert h0 hall
        cases b3 <;> cases b5 <;> cases b6 <;> cases b7 <;> cases b10 <;> simp
      · rw [ready3, if_neg hall] at hi
        simp only [List.mem_append] at hi
        have one : ∀ (b : Bool) (q : Nat), i ∈ (if b = true then [] else [q]) → b = false ∧ i = q := fun b q h => by
          cases b
          · exact ⟨rfl, by simpa using h⟩
          · simp at h
        rcases hi with (((hi | hi) | hi) | hi) | hi
        · obtain ⟨rfl, rfl⟩ := one _ _ hi
          refine AllE.cons (rs := []) (o := { dst := some 19, op := Go.Op.makeSlice 51 (Go.Operand.tmp 18) (Go.Operand.tmp 18), type := 51, pos := "stamp.go:32", after := #[{ on := 2, ground := Go.Ground.data }, { on := 2, ground := Go.Ground.data }], guard := none }) rfl (fun K hK => ?_) AllE.nil 3 (List.mem_singleton_self 3)
          clear one hi hall
          have hrun := make_51 W n HN.out
          go_simp
          refine hK.out _ _ trivial (fun _ => ?_)
          clear hK K
          try simp only [Act.put, List.setIfInBounds_toArray, List.set_cons_zero, List.set_cons_succ]
          exact HIH.out true b5 b6 b7 b10 _ _ _ _ _ _ _ _ _ _ _ _ (by simp at hm ⊢; omega) HM.out.s3
        · obtain ⟨rfl, rfl⟩ := one _ _ hi
          refine AllE.cons (rs := []) (o := { dst := some 21, op := Go.Op.call { callee := Go.Callee.value (Go.Operand.func 24), args := #[Go.Operand.tmp 20, Go.Operand.const (Go.Value.int Go.IntKind.i64 4), Go.Operand.func 25], argTypes := #[36, 3, 54] }, type := 52, pos := "stamp.go:35", after := #[{ on := 4, ground := Go.Ground.data }], guard := none }) rfl (fun K hK => ?_) AllE.nil 5 (List.mem_singleton_self 5)
          clear one hi hall
          go_simp
          go_at_call 24
          refine (split_c a n c X W (HEV.out.past HM.out.bel) HN.out HTH.out).mono ?_
          rintro e W1 ⟨R1, V1, rfl, hs⟩
          have HS5 := Lib.hid (HM.out.s5 hs)
          clear hs
          refine hK.out _ _ trivial (fun _ => ?_)
          clear hK K
          try simp only [Act.put, List.setIfInBounds_toArray, List.set_cons_zero, List.set_cons_succ]
          exact HIH.out b3 true b6 b7 b10 _ _ _ _ _ _ _ _ _ _ _ _ (by simp at hm ⊢; omega) HS5.out
        · obtain ⟨rfl, rfl⟩ := one _ _ hi
          refine AllE.cons (rs := []) (o := { dst := some 22, op := Go.Op.makeMap 55 none, type := 55, pos := "stamp.go:32", after := #[], guard := none }) rfl (fun K hK => ?_) AllE.nil 6 (List.mem_singleton_self 6)
          clear one hi hall
          have hmm := @run_makeMap Try.prog
          go_simp
          refine hK.out _ _ trivial (fun _ => ?_)
          clear hK K
          try simp only [Act.put, List.setIfInBounds_toArray, List.set_cons_zero, List.set_cons_succ]
          exact HIH.out b3 b5 true b7 b10 _ _ _ _ _ _ _ _ _ _ _ _ (by simp at hm ⊢; omega) HM.out.s6
        · obtain ⟨rfl, rfl⟩ := one _ _ hi
          refine AllE.cons (rs := []) (o := { dst := some 23, op := Go.Op.makeMap 56 none, type := 56, pos := "stamp.go:32", after := #[], guard := none }) rfl (fun K hK => ?_) AllE.nil 7 (List.mem_singleton_self 7)
          clear one hi hall
          have hmm := @run_makeMap Try.prog
          go_simp
          refine hK.out _ _ trivial (fun _ => ?_)
          clear hK K
          try simp only [Act.put, List.setIfInBounds_toArray, List.set_cons_zero, List.set_cons_succ]
          exact HIH.out b3 b5 b6 true b10 _ _ _ _ _ _ _ _ _ _ _ _ (by simp at hm ⊢; omega) HM.out.s7
        · obtain ⟨rfl, rfl⟩ := one _ _ hi
          refine AllE.cons (rs := []) (o := { dst := some 26, op := Go.Op.makeSlice 37 (Go.Operand.tmp 25) (Go.Operand.tmp 25), type := 37, pos := "stamp.go:32", after := #[{ on := 9, ground := Go.Ground.data }, { on := 9, ground := Go.Ground.data }], guard := none }) rfl (fun K hK => ?_) AllE.nil 10 (List.mem_singleton_self 10)
          clear one hi hall
          have hrun := make_37 W n HN.out
          go_simp
          refine hK.out _ _ trivial (fun _ => ?_)
          clear hK K
          try simp only [Act.put, List.setIfInBounds_toArray, List.set_cons_zero, List.set_cons_succ]
          exact HIH.out b3 b5 b6 b7 true _ _ _ _ _ _ _ _ _ _ _ _ (by simp at hm ⊢; omega) HM.out.s10
end Go.Proofs.Ytnmgafaebggeiaa.St
