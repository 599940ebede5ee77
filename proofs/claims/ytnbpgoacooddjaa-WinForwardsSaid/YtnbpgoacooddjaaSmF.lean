import Derived.Test.YtnbpgoacooddjaaRows
import Derived.WalkKit
import Derived.ProofKit
import Derived.OpenShut
import Derived.Deep.QuietTactic
import Derived.BigQuiet
import Derived.Outline
import Derived.WalkSmall
import Derived.WalkLawsBesides
import Derived.WalkSpells
import Derived.BigGuardPart
import Derived.RegionTactic
import Derived.Deep.RegionHeld3
import Derived.Lib.Hide
import Derived.Deep.MidRow
import Derived.Below
import Derived.Deep.RegionWith
import Derived.Test.YtnbpgoacooddjaaSmD
namespace Go.Proofs.Ytnbpgoacooddjaa
open Go.ChangeShapes Go.WideShapes Go.ChangeAt Go.RowKit
set_option linter.unusedVariables false

/-- A core: an instruction, its place, the registers. -/
def coA (i : Array Value) (pc : Int) (r : Rg) : Array Value := i ++ #[.int .u64 pc] ++ r.arr
theorem coA_size {i : Array Value} (h : i.size = 7) (pc : Int) (r : Rg) : (coA i pc r).size = 44 := by simp [coA, h, r.size]
theorem coA_lo {i : Array Value} (h : i.size = 7) (pc : Int) (r : Rg) (k : Nat) (hk : k < 7) : (coA i pc r)[k]? = i[k]? := by
  unfold coA
  rw [Array.getElem?_append_left (by simp [h]; omega), Array.getElem?_append_left (by omega)]
theorem coA_pc {i : Array Value} (h : i.size = 7) (pc : Int) (r : Rg) : (coA i pc r)[7]? = some (.int .u64 pc) := by
  unfold coA
  rw [Array.getElem?_append_left (by simp [h]), Array.getElem?_append_right (by omega)]
  simp [h]
theorem coA_hi {i : Array Value} (h : i.size = 7) (pc : Int) (r : Rg) (k : Nat) : (coA i pc r)[8 + k]? = r.arr[k]? := by
  unfold coA
  rw [Array.getElem?_append_right (by simp [h])]
  simp [h]
/-- The block b holds the cells C. -/
def BlkIn (b : Nat) (C : Array Value) (t : TypeId) (w : World) : Prop := w.heap[b]? = some (.cells C t (0, 0))
theorem BlkIn.new (w : World) (C : Array Value) (t : TypeId) : BlkIn w.heap.size C t (w.alloc (.cells C t)) := heap_alloc_new _ _
theorem BlkIn.lt {b : Nat} {C : Array Value} {t : TypeId} {w : World} (h : BlkIn b C t w) : b < w.heap.size := (Array.getElem?_eq_some_iff.1 h).1
theorem BlkIn.cell {b : Nat} {C : Array Value} {t : TypeId} {w : World} (h : BlkIn b C t w) (k : Nat) : w.cell? ⟨b, k, none⟩ = C[k]? := cell_of_row w b k C t _ h
theorem BlkIn.frz {b : Nat} {C : Array Value} {t : TypeId} {w : World} (h : BlkIn b C t w) (k : Nat) : w.frozen? ⟨b, k, none⟩ = false := frozen_of_row w b k C t h
theorem BlkIn.below {b : Nat} {C : Array Value} {t : TypeId} {w W w' : World} (h : BlkIn b C t w) (hb : Below W.heap.size W w') (he : W.heap = w.heap) : BlkIn b C t w' := by
  have hl : b < W.heap.size := by rw [he]; exact h.lt
  exact (hb.block b hl).trans (by rw [he]; exact h)
theorem info76 : (Try.prog.info? 257).map (·.size) = some 44 := by kernel_rfl
theorem info38 : (Try.prog.info? 232).map (·.size) = some 40 := by kernel_rfl

/-- The cells of block b, where it is one that may be written. -/
def rowAt (w : World) (b : Nat) : Option (Array Value) := match w.heap[b]? with
  | some (.cells C _ (0, 0)) => some C
  | _ => none
theorem rowAt_drew (w : World) (b : Nat) : rowAt w.drew b = rowAt w b := rfl
theorem rowAt_drewN (w : World) (n b : Nat) : rowAt (w.drewN n) b = rowAt w b := rfl
theorem rowAt_cell {w : World} {b : Nat} {C : Array Value} (h : rowAt w b = some C) (k : Nat) : w.cell? ⟨b, k, none⟩ = C[k]? := by
  unfold rowAt at h
  split at h
  · rename_i C' t hh
    injection h with h
    subst h
    exact cell_of_row w b k C' t _ hh
  · cases h
theorem rowAt_frz {w : World} {b : Nat} {C : Array Value} (h : rowAt w b = some C) (k : Nat) : w.frozen? ⟨b, k, none⟩ = false := by
  unfold rowAt at h
  split at h
  · rename_i C' t hh
    exact frozen_of_row w b k C' t hh
  · cases h
theorem rowAt_lt {w : World} {b : Nat} {C : Array Value} (h : rowAt w b = some C) : b < w.heap.size := by
  unfold rowAt at h
  split at h
  · rename_i C' t hh
    exact (Array.getElem?_eq_some_iff.1 hh).1
  · cases h
theorem rowAt_new (w : World) (C : Array Value) (t : TypeId) : rowAt (w.alloc (.cells C t)) w.heap.size = some C := by
  unfold rowAt
  rw [heap_alloc_new]
  rfl
theorem rowAt_below {w W w' : World} {b : Nat} {C : Array Value} (h : rowAt w b = some C) (hb : Below W.heap.size W w') (he : W.heap = w.heap) : rowAt w' b = some C := by
  have hl : b < W.heap.size := by rw [he]; exact rowAt_lt h
  unfold rowAt at h ⊢
  rw [hb.block b hl, he]
  exact h
theorem extract_at (C : Array Value) (off n j : Nat) (v : Value) (h : (C.extract off (off + n)).toList[j]? = some v) : C[off + j]? = some v := by
  rw [Array.getElem?_toList, Array.getElem?_extract] at h
  split at h
  · exact h
  · cases h
theorem load_row {ty : TypeId} {n : Nat} {d : TypeDesc} (hu : Try.prog.underlying ty = some d) (hd : d.isRow = true) (hi : (Try.prog.info? ty).map (·.size) = some n) (b off : Nat) (w : World) :
    (Instr.loadAt ty (.pointer (some ⟨b, off, none⟩))).run Try.prog w = match rowAt w b with
      | some C => if off + n ≤ C.size then .ok (.agg (C.extract off (off + n))) w else (loadVar ty ⟨b, off, none⟩).run Try.prog w
      | none => (loadVar ty ⟨b, off, none⟩).run Try.prog w := by
  have h0 : (Instr.loadAt ty (.pointer (some ⟨b, off, none⟩))).run Try.prog w = (loadVar ty ⟨b, off, none⟩).run Try.prog w := by
    simp only [Instr.loadAt, Instr.sureAddr, Sem.run_bind, Sem.run_pure, Result.andThen_ok]
  split
  · rename_i C hC
    split
    · rename_i hs
      have hsz : (C.extract off (off + n)).toList.length = n := by rw [Array.length_toList, Array.size_extract]; omega
      have := run_loadAt_mid (P := Try.prog) w b off ty (C.extract off (off + n)).toList d (fun j v hv => by rw [rowAt_cell hC]; exact extract_at C off n j v hv) hu hd (by rw [hsz]; exact hi)
      exact this
    · exact h0
  · exact h0
theorem load76 (b off : Nat) (w : World) (C : Array Value) (h : rowAt w b = some C) (hs : off + 44 ≤ C.size) : (Instr.loadAt 257 (.pointer (some ⟨b, off, none⟩))).run Try.prog w = .ok (.agg (C.extract off (off + 44))) w := by
  rw [load_row Try.underlying257 rfl info76, h]
  simp only []
  rw [if_pos hs]
theorem load25 (b off : Nat) (w : World) (C : Array Value) (h : rowAt w b = some C) (hs : off + 36 ≤ C.size) : (Instr.loadAt 26 (.pointer (some ⟨b, off, none⟩))).run Try.prog w = .ok (.agg (C.extract off (off + 36))) w := by
  rw [load_row Try.underlying26 rfl info25, h]
  simp only []
  rw [if_pos hs]
theorem load38 (b off : Nat) (w : World) (C : Array Value) (h : rowAt w b = some C) (hs : off + 40 ≤ C.size) : (Instr.loadAt 232 (.pointer (some ⟨b, off, none⟩))).run Try.prog w = .ok (.agg (C.extract off (off + 40))) w := by
  rw [load_row Try.underlying232 rfl info38, h]
  simp only []
  rw [if_pos hs]
theorem coA_regs {i : Array Value} (h : i.size = 7) (pc : Int) (r : Rg) : (coA i pc r).extract 8 44 = r.arr := by
  apply Array.ext_getElem?
  intro k
  rw [Array.getElem?_extract]
  have hs := coA_size h pc r
  by_cases hk : k < 36
  · rw [if_pos (by omega), coA_hi h]
  · rw [if_neg (by omega), Array.getElem?_eq_none (by rw [r.size]; omega)]
theorem coA_all {i : Array Value} (h : i.size = 7) (pc : Int) (r : Rg) : (coA i pc r).extract 0 44 = coA i pc r := by
  have hs := coA_size h pc r
  rw [← hs]
  simp
theorem wpl_load {P : Program} {ops : Array Oper} {rest : List Oper} {o : Oper} {a : Act} {w : World} {Q : Exit → Act → World → Prop} (hgd : o.guard = none) (ty : TypeId) (x : Operand) (ho : o.op = .load ty x)
    (b off : Nat) (hx : a.eval x = .pointer (some ⟨b, off, none⟩)) (v : Array Value) (hr : (Instr.loadAt ty (.pointer (some ⟨b, off, none⟩))).run P w = .ok (.agg v) w)
    (h : wpList P ops Q rest (a.put o.dst (.agg v)) w) : wpList P ops Q (o :: rest) a w :=
  wpList_plain hgd fun _ hK => by
    unfold Oper.wp execOp
    simp only [ho, hx, Sem.run_bind, hr, Result.andThen_ok, Sem.run_pure]
    exact hK _ _ h
theorem core_regs {w : World} {b : Nat} {i : Array Value} (hi : i.size = 7) {pc : Int} {r : Rg} (h : rowAt w b = some (coA i pc r)) : (Instr.loadAt 26 (.pointer (some ⟨b, 8, none⟩))).run Try.prog w = .ok (.agg r.arr) w := by
  rw [load25 b 8 w _ h (by rw [coA_size hi]; omega), coA_regs hi]
theorem core_all {w : World} {b : Nat} {i : Array Value} (hi : i.size = 7) {pc : Int} {r : Rg} (h : rowAt w b = some (coA i pc r)) : (Instr.loadAt 257 (.pointer (some ⟨b, 0, none⟩))).run Try.prog w = .ok (.agg (coA i pc r)) w := by
  rw [load76 b 0 w _ h (by rw [coA_size hi]; omega), Nat.zero_add, coA_all hi]

/-- A load of a row, under a name of its own: the walk leaves it whole. -/
def ldAt (ty : TypeId) (v : Value) : Sem Value := Instr.loadAt ty v
theorem ld76 (v : Value) : Instr.loadAt 257 v = ldAt 257 v := rfl
theorem ld25 (v : Value) : Instr.loadAt 26 v = ldAt 26 v := rfl
theorem ld38 (v : Value) : Instr.loadAt 232 v = ldAt 232 v := rfl
attribute [local go_sem ↓] ld76 ld25 ld38
attribute [local go_sem] rowAt_drew rowAt_drewN
set_option maxRecDepth 100000 in
set_option maxHeartbeats 2000000 in
theorem second_c (o d n m a c i pc : Int) (r : Rg) (w : World) :
    Calls Try.prog 208 #[.agg (coA #[.int .i64 o, .int .i64 d, .int .i64 n, .int .i64 m, .int .i64 a, .int .i64 c, .int .i64 i] pc r)] w fun e w' => e = .returned (.int .u64 (r.get m)) ∧ Below w.heap.size w w' := by
  have hc3 := coA_lo (i := #[.int .i64 o, .int .i64 d, .int .i64 n, .int .i64 m, .int .i64 a, .int .i64 c, .int .i64 i]) rfl pc r 3 (by omega)
  have HA := Lib.hid (coA_all (i := #[.int .i64 o, .int .i64 d, .int .i64 n, .int .i64 m, .int .i64 a, .int .i64 c, .int .i64 i]) rfl pc r)
  have HS := Lib.hid (coA_size (i := #[.int .i64 o, .int .i64 d, .int .i64 n, .int .i64 m, .int .i64 a, .int .i64 c, .int .i64 i]) rfl pc r)
  have HL := Lib.hid (fun w b => core_regs (w := w) (b := b) (i := #[.int .i64 o, .int .i64 d, .int .i64 n, .int .i64 m, .int .i64 a, .int .i64 c, .int .i64 i]) rfl (pc := pc) (r := r))
  have HM := Lib.hid (fun w b => core_all (w := w) (b := b) (i := #[.int .i64 o, .int .i64 d, .int .i64 n, .int .i64 m, .int .i64 a, .int .i64 c, .int .i64 i]) rfl (pc := pc) (r := r))
  simp only [List.getElem?_toArray, List.getElem?_cons_zero, List.getElem?_cons_succ] at hc3
  generalize hC : coA #[.int .i64 o, .int .i64 d, .int .i64 n, .int .i64 m, .int .i64 a, .int .i64 c, .int .i64 i] pc r = C at *
  have HB := Lib.hid (rowAt_new w C 257)
  clear hC
  go_enter Try.func208, Try.ntmps208
  go_wp2_with (first | (refine wpl_load rfl 26 _ rfl w.heap.size 8 rfl r.arr (HL.out _ _ HB.out) ?_))
  refine (get11 r m _).mono ?_
  rintro e w2 ⟨rfl, hb⟩
  have HB2 := Lib.hid (((Below.refl _ _).alloc (Nat.le_refl _) (.cells C 257)).trans (hb.mono (by simp)))
  clear hb
  go_wp2
  go_ret
  exact ⟨rfl, HB2.out⟩
set_option maxRecDepth 100000 in
set_option maxHeartbeats 2000000 in
theorem third_c (o d n m a c i pc : Int) (r : Rg) (w : World) :
    Calls Try.prog 257 #[.agg (coA #[.int .i64 o, .int .i64 d, .int .i64 n, .int .i64 m, .int .i64 a, .int .i64 c, .int .i64 i] pc r)] w fun e w' => e = .returned (.int .u64 (r.get a)) ∧ Below w.heap.size w w' := by
  have hc4 := coA_lo (i := #[.int .i64 o, .int .i64 d, .int .i64 n, .int .i64 m, .int .i64 a, .int .i64 c, .int .i64 i]) rfl pc r 4 (by omega)
  have HA := Lib.hid (coA_all (i := #[.int .i64 o, .int .i64 d, .int .i64 n, .int .i64 m, .int .i64 a, .int .i64 c, .int .i64 i]) rfl pc r)
  have HS := Lib.hid (coA_size (i := #[.int .i64 o, .int .i64 d, .int .i64 n, .int .i64 m, .int .i64 a, .int .i64 c, .int .i64 i]) rfl pc r)
  have HL := Lib.hid (fun w b => core_regs (w := w) (b := b) (i := #[.int .i64 o, .int .i64 d, .int .i64 n, .int .i64 m, .int .i64 a, .int .i64 c, .int .i64 i]) rfl (pc := pc) (r := r))
  have HM := Lib.hid (fun w b => core_all (w := w) (b := b) (i := #[.int .i64 o, .int .i64 d, .int .i64 n, .int .i64 m, .int .i64 a, .int .i64 c, .int .i64 i]) rfl (pc := pc) (r := r))
  simp only [List.getElem?_toArray, List.getElem?_cons_zero, List.getElem?_cons_succ] at hc4
  generalize hC : coA #[.int .i64 o, .int .i64 d, .int .i64 n, .int .i64 m, .int .i64 a, .int .i64 c, .int .i64 i] pc r = C at *
  have HB := Lib.hid (rowAt_new w C 257)
  clear hC
  go_enter Try.func257, Try.ntmps257
  go_wp2_with (first | (refine wpl_load rfl 26 _ rfl w.heap.size 8 rfl r.arr (HL.out _ _ HB.out) ?_))
  refine (get11 r a _).mono ?_
  rintro e w2 ⟨rfl, hb⟩
  have HB2 := Lib.hid (((Below.refl _ _).alloc (Nat.le_refl _) (.cells C 257)).trans (hb.mono (by simp)))
  clear hb
  go_wp2
  go_ret
  exact ⟨rfl, HB2.out⟩
set_option maxRecDepth 100000 in
set_option maxHeartbeats 2000000 in
theorem first_c (o d n m a c i pc : Int) (r : Rg) (w : World) (h31 : (n == 31) = false) :
    Calls Try.prog 213 #[.agg (coA #[.int .i64 o, .int .i64 d, .int .i64 n, .int .i64 m, .int .i64 a, .int .i64 c, .int .i64 i] pc r)] w fun e w' => e = .returned (.int .u64 (r.get n)) ∧ Below w.heap.size w w' := by
  have hc0 := coA_lo (i := #[.int .i64 o, .int .i64 d, .int .i64 n, .int .i64 m, .int .i64 a, .int .i64 c, .int .i64 i]) rfl pc r 0 (by omega)
  have hc2 := coA_lo (i := #[.int .i64 o, .int .i64 d, .int .i64 n, .int .i64 m, .int .i64 a, .int .i64 c, .int .i64 i]) rfl pc r 2 (by omega)
  have HA := Lib.hid (coA_all (i := #[.int .i64 o, .int .i64 d, .int .i64 n, .int .i64 m, .int .i64 a, .int .i64 c, .int .i64 i]) rfl pc r)
  have HS := Lib.hid (coA_size (i := #[.int .i64 o, .int .i64 d, .int .i64 n, .int .i64 m, .int .i64 a, .int .i64 c, .int .i64 i]) rfl pc r)
  have HL := Lib.hid (fun w b => core_regs (w := w) (b := b) (i := #[.int .i64 o, .int .i64 d, .int .i64 n, .int .i64 m, .int .i64 a, .int .i64 c, .int .i64 i]) rfl (pc := pc) (r := r))
  have HM := Lib.hid (fun w b => core_all (w := w) (b := b) (i := #[.int .i64 o, .int .i64 d, .int .i64 n, .int .i64 m, .int .i64 a, .int .i64 c, .int .i64 i]) rfl (pc := pc) (r := r))
  simp only [List.getElem?_toArray, List.getElem?_cons_zero, List.getElem?_cons_succ] at hc0 hc2
  generalize hC : coA #[.int .i64 o, .int .i64 d, .int .i64 n, .int .i64 m, .int .i64 a, .int .i64 c, .int .i64 i] pc r = C at *
  have HB := Lib.hid (rowAt_new w C 257)
  clear hC
  go_enter Try.func213, Try.ntmps213
  go_wp2_with (first | (refine wpl_load rfl 26 _ rfl w.heap.size 8 rfl r.arr (HL.out _ _ HB.out) ?_))
  refine (get11 r n _).mono ?_
  rintro e w2 ⟨rfl, hb⟩
  have HB2 := Lib.hid (((Below.refl _ _).alloc (Nat.le_refl _) (.cells C 257)).trans (hb.mono (by simp)))
  clear hb
  go_wp2
  go_ret
  exact ⟨rfl, HB2.out⟩
set_option maxRecDepth 100000 in
set_option maxHeartbeats 2000000 in
theorem target_c (o d n m a c i pc : Int) (r : Rg) (w : World) (h31 : (d == 31) = false) :
    Calls Try.prog 193 #[.agg (coA #[.int .i64 o, .int .i64 d, .int .i64 n, .int .i64 m, .int .i64 a, .int .i64 c, .int .i64 i] pc r)] w fun e w' => e = .returned (.int .i64 d) ∧ Below w.heap.size w w' := by
  have hc0 := coA_lo (i := #[.int .i64 o, .int .i64 d, .int .i64 n, .int .i64 m, .int .i64 a, .int .i64 c, .int .i64 i]) rfl pc r 0 (by omega)
  have hc1 := coA_lo (i := #[.int .i64 o, .int .i64 d, .int .i64 n, .int .i64 m, .int .i64 a, .int .i64 c, .int .i64 i]) rfl pc r 1 (by omega)
  have HA := Lib.hid (coA_all (i := #[.int .i64 o, .int .i64 d, .int .i64 n, .int .i64 m, .int .i64 a, .int .i64 c, .int .i64 i]) rfl pc r)
  have HS := Lib.hid (coA_size (i := #[.int .i64 o, .int .i64 d, .int .i64 n, .int .i64 m, .int .i64 a, .int .i64 c, .int .i64 i]) rfl pc r)
  have HL := Lib.hid (fun w b => core_regs (w := w) (b := b) (i := #[.int .i64 o, .int .i64 d, .int .i64 n, .int .i64 m, .int .i64 a, .int .i64 c, .int .i64 i]) rfl (pc := pc) (r := r))
  have HM := Lib.hid (fun w b => core_all (w := w) (b := b) (i := #[.int .i64 o, .int .i64 d, .int .i64 n, .int .i64 m, .int .i64 a, .int .i64 c, .int .i64 i]) rfl (pc := pc) (r := r))
  simp only [List.getElem?_toArray, List.getElem?_cons_zero, List.getElem?_cons_succ] at hc0 hc1
  generalize hC : coA #[.int .i64 o, .int .i64 d, .int .i64 n, .int .i64 m, .int .i64 a, .int .i64 c, .int .i64 i] pc r = C at *
  have HB := Lib.hid (rowAt_new w C 257)
  clear hC
  go_enter Try.func193, Try.ntmps193
  go_wp2
  go_ret
  exact ⟨rfl, (Below.refl _ _).alloc (Nat.le_refl _) _⟩
set_option maxRecDepth 100000 in
set_option maxHeartbeats 2000000 in
theorem number_c (o d n m a c i pc : Int) (r : Rg) (w : World) (h1 : 0 ≤ i) (h2 : i ≤ 9223372036854775807) :
    Calls Try.prog 207 #[.agg (coA #[.int .i64 o, .int .i64 d, .int .i64 n, .int .i64 m, .int .i64 a, .int .i64 c, .int .i64 i] pc r)] w fun e w' => e = .returned (.int .u64 i) ∧ Below w.heap.size w w' := by
  have hc6 := coA_lo (i := #[.int .i64 o, .int .i64 d, .int .i64 n, .int .i64 m, .int .i64 a, .int .i64 c, .int .i64 i]) rfl pc r 6 (by omega)
  have HA := Lib.hid (coA_all (i := #[.int .i64 o, .int .i64 d, .int .i64 n, .int .i64 m, .int .i64 a, .int .i64 c, .int .i64 i]) rfl pc r)
  have HS := Lib.hid (coA_size (i := #[.int .i64 o, .int .i64 d, .int .i64 n, .int .i64 m, .int .i64 a, .int .i64 c, .int .i64 i]) rfl pc r)
  have HL := Lib.hid (fun w b => core_regs (w := w) (b := b) (i := #[.int .i64 o, .int .i64 d, .int .i64 n, .int .i64 m, .int .i64 a, .int .i64 c, .int .i64 i]) rfl (pc := pc) (r := r))
  have HM := Lib.hid (fun w b => core_all (w := w) (b := b) (i := #[.int .i64 o, .int .i64 d, .int .i64 n, .int .i64 m, .int .i64 a, .int .i64 c, .int .i64 i]) rfl (pc := pc) (r := r))
  simp only [List.getElem?_toArray, List.getElem?_cons_zero, List.getElem?_cons_succ] at hc6
  generalize hC : coA #[.int .i64 o, .int .i64 d, .int .i64 n, .int .i64 m, .int .i64 a, .int .i64 c, .int .i64 i] pc r = C at *
  have HB := Lib.hid (rowAt_new w C 257)
  clear hC
  go_enter Try.func207, Try.ntmps207
  go_wp2
  go_ret
  exact ⟨rfl, (Below.refl _ _).alloc (Nat.le_refl _) _⟩
set_option maxRecDepth 100000 in
set_option maxHeartbeats 2000000 in
theorem add_c (o d n m a c i pc : Int) (r : Rg) (w : World) (h31 : (n == 31) = false) :
    Calls Try.prog 243 #[.agg (coA #[.int .i64 o, .int .i64 d, .int .i64 n, .int .i64 m, .int .i64 a, .int .i64 c, .int .i64 i] pc r)] w fun e w' => e = .returned (.int .u64 (IntKind.u64.wrap (r.get n + r.get m))) ∧ Below w.heap.size w w' := by
  have H1 := fun w => Lib.hid ((first_c o d n m a c i pc r w h31))
  have H2 := fun w => Lib.hid ((second_c o d n m a c i pc r w))
  have HA := Lib.hid (coA_all (i := #[.int .i64 o, .int .i64 d, .int .i64 n, .int .i64 m, .int .i64 a, .int .i64 c, .int .i64 i]) rfl pc r)
  have HS := Lib.hid (coA_size (i := #[.int .i64 o, .int .i64 d, .int .i64 n, .int .i64 m, .int .i64 a, .int .i64 c, .int .i64 i]) rfl pc r)
  have HL := Lib.hid (fun w b => core_regs (w := w) (b := b) (i := #[.int .i64 o, .int .i64 d, .int .i64 n, .int .i64 m, .int .i64 a, .int .i64 c, .int .i64 i]) rfl (pc := pc) (r := r))
  have HM := Lib.hid (fun w b => core_all (w := w) (b := b) (i := #[.int .i64 o, .int .i64 d, .int .i64 n, .int .i64 m, .int .i64 a, .int .i64 c, .int .i64 i]) rfl (pc := pc) (r := r))
  generalize hC : coA #[.int .i64 o, .int .i64 d, .int .i64 n, .int .i64 m, .int .i64 a, .int .i64 c, .int .i64 i] pc r = C at *
  have HB := Lib.hid (rowAt_new w C 257)
  clear hC
  go_enter Try.func243, Try.ntmps243
  go_wp2_with fail
  have HBB : Hid (Below w.heap.size w (w.alloc (.cells C 257))) := Lib.hid ((Below.refl _ _).alloc (Nat.le_refl _) _)
  obtain ⟨b, hb⟩ : ∃ b, b = w.heap.size := ⟨_, rfl⟩
  rw [← hb] at HB
  have HN := Lib.hid hb
  rw [← hb]
  clear hb
  have hB := HB.out
  have ha : ∀ w', rowAt w' b = some C → (ldAt 257 (.pointer (some ⟨b, 0, none⟩))).run Try.prog w' = .ok (.agg C) w' := fun w' h => HM.out w' b h
  have hr : ∀ w', rowAt w' b = some C → (ldAt 26 (.pointer (some ⟨b, 8, none⟩))).run Try.prog w' = .ok (.agg r.arr) w' := fun w' h => HL.out w' b h
  generalize w.alloc (.cells C 257) = w1 at *
  go_region_held3 (fun w' => rowAt w' b = some C) (assumption) (first | (go_at_call 213; refine ((H1 _).out).mono ?_; rintro e w' ⟨rfl, hb1⟩; have hB1 := rowAt_below (by assumption) hb1 rfl; have HB1 := Lib.hid (below_step HBB.out hb1 rfl rfl rfl rfl); replace HBB := HB1; clear HB1 hb1) | (go_at_call 208; refine ((H2 _).out).mono ?_; rintro e w' ⟨rfl, hb2⟩; have hB2 := rowAt_below (by assumption) hb2 rfl; have HB2 := Lib.hid (below_step HBB.out hb2 rfl rfl rfl rfl); replace HBB := HB2; clear HB2 hb2))
  all_goals
    go_wp2
    go_ret
    exact ⟨rfl, HBB.out⟩
set_option maxRecDepth 100000 in
set_option maxHeartbeats 2000000 in
theorem sub_c (o d n m a c i pc : Int) (r : Rg) (w : World) (h31 : (n == 31) = false) :
    Calls Try.prog 244 #[.agg (coA #[.int .i64 o, .int .i64 d, .int .i64 n, .int .i64 m, .int .i64 a, .int .i64 c, .int .i64 i] pc r)] w fun e w' => e = .returned (.int .u64 (IntKind.u64.wrap (r.get n - r.get m))) ∧ Below w.heap.size w w' := by
  have H1 := fun w => Lib.hid ((first_c o d n m a c i pc r w h31))
  have H2 := fun w => Lib.hid ((second_c o d n m a c i pc r w))
  have HA := Lib.hid (coA_all (i := #[.int .i64 o, .int .i64 d, .int .i64 n, .int .i64 m, .int .i64 a, .int .i64 c, .int .i64 i]) rfl pc r)
  have HS := Lib.hid (coA_size (i := #[.int .i64 o, .int .i64 d, .int .i64 n, .int .i64 m, .int .i64 a, .int .i64 c, .int .i64 i]) rfl pc r)
  have HL := Lib.hid (fun w b => core_regs (w := w) (b := b) (i := #[.int .i64 o, .int .i64 d, .int .i64 n, .int .i64 m, .int .i64 a, .int .i64 c, .int .i64 i]) rfl (pc := pc) (r := r))
  have HM := Lib.hid (fun w b => core_all (w := w) (b := b) (i := #[.int .i64 o, .int .i64 d, .int .i64 n, .int .i64 m, .int .i64 a, .int .i64 c, .int .i64 i]) rfl (pc := pc) (r := r))
  generalize hC : coA #[.int .i64 o, .int .i64 d, .int .i64 n, .int .i64 m, .int .i64 a, .int .i64 c, .int .i64 i] pc r = C at *
  have HB := Lib.hid (rowAt_new w C 257)
  clear hC
  go_enter Try.func244, Try.ntmps244
  go_wp2_with fail
  have HBB : Hid (Below w.heap.size w (w.alloc (.cells C 257))) := Lib.hid ((Below.refl _ _).alloc (Nat.le_refl _) _)
  obtain ⟨b, hb⟩ : ∃ b, b = w.heap.size := ⟨_, rfl⟩
  rw [← hb] at HB
  have HN := Lib.hid hb
  rw [← hb]
  clear hb
  have hB := HB.out
  have ha : ∀ w', rowAt w' b = some C → (ldAt 257 (.pointer (some ⟨b, 0, none⟩))).run Try.prog w' = .ok (.agg C) w' := fun w' h => HM.out w' b h
  have hr : ∀ w', rowAt w' b = some C → (ldAt 26 (.pointer (some ⟨b, 8, none⟩))).run Try.prog w' = .ok (.agg r.arr) w' := fun w' h => HL.out w' b h
  generalize w.alloc (.cells C 257) = w1 at *
  go_region_held3 (fun w' => rowAt w' b = some C) (assumption) (first | (go_at_call 213; refine ((H1 _).out).mono ?_; rintro e w' ⟨rfl, hb1⟩; have hB1 := rowAt_below (by assumption) hb1 rfl; have HB1 := Lib.hid (below_step HBB.out hb1 rfl rfl rfl rfl); replace HBB := HB1; clear HB1 hb1) | (go_at_call 208; refine ((H2 _).out).mono ?_; rintro e w' ⟨rfl, hb2⟩; have hB2 := rowAt_below (by assumption) hb2 rfl; have HB2 := Lib.hid (below_step HBB.out hb2 rfl rfl rfl rfl); replace HBB := HB2; clear HB2 hb2))
  all_goals
    go_wp2
    go_ret
    exact ⟨rfl, HBB.out⟩
set_option maxRecDepth 100000 in
set_option maxHeartbeats 2000000 in
theorem xor_c (o d n m a c i pc : Int) (r : Rg) (w : World) (h31 : (n == 31) = false) :
    Calls Try.prog 247 #[.agg (coA #[.int .i64 o, .int .i64 d, .int .i64 n, .int .i64 m, .int .i64 a, .int .i64 c, .int .i64 i] pc r)] w fun e w' => e = .returned (.int .u64 (bits .xor .u64 (r.get n) (r.get m))) ∧ Below w.heap.size w w' := by
  have H1 := fun w => Lib.hid ((first_c o d n m a c i pc r w h31))
  have H2 := fun w => Lib.hid ((second_c o d n m a c i pc r w))
  have HA := Lib.hid (coA_all (i := #[.int .i64 o, .int .i64 d, .int .i64 n, .int .i64 m, .int .i64 a, .int .i64 c, .int .i64 i]) rfl pc r)
  have HS := Lib.hid (coA_size (i := #[.int .i64 o, .int .i64 d, .int .i64 n, .int .i64 m, .int .i64 a, .int .i64 c, .int .i64 i]) rfl pc r)
  have HL := Lib.hid (fun w b => core_regs (w := w) (b := b) (i := #[.int .i64 o, .int .i64 d, .int .i64 n, .int .i64 m, .int .i64 a, .int .i64 c, .int .i64 i]) rfl (pc := pc) (r := r))
  have HM := Lib.hid (fun w b => core_all (w := w) (b := b) (i := #[.int .i64 o, .int .i64 d, .int .i64 n, .int .i64 m, .int .i64 a, .int .i64 c, .int .i64 i]) rfl (pc := pc) (r := r))
  generalize hC : coA #[.int .i64 o, .int .i64 d, .int .i64 n, .int .i64 m, .int .i64 a, .int .i64 c, .int .i64 i] pc r = C at *
  have HB := Lib.hid (rowAt_new w C 257)
  clear hC
  go_enter Try.func247, Try.ntmps247
  go_wp2_with fail
  have HBB : Hid (Below w.heap.size w (w.alloc (.cells C 257))) := Lib.hid ((Below.refl _ _).alloc (Nat.le_refl _) _)
  obtain ⟨b, hb⟩ : ∃ b, b = w.heap.size := ⟨_, rfl⟩
  rw [← hb] at HB
  have HN := Lib.hid hb
  rw [← hb]
  clear hb
  have hB := HB.out
  have ha : ∀ w', rowAt w' b = some C → (ldAt 257 (.pointer (some ⟨b, 0, none⟩))).run Try.prog w' = .ok (.agg C) w' := fun w' h => HM.out w' b h
  have hr : ∀ w', rowAt w' b = some C → (ldAt 26 (.pointer (some ⟨b, 8, none⟩))).run Try.prog w' = .ok (.agg r.arr) w' := fun w' h => HL.out w' b h
  generalize w.alloc (.cells C 257) = w1 at *
  go_region_held3 (fun w' => rowAt w' b = some C) (assumption) (first | (go_at_call 213; refine ((H1 _).out).mono ?_; rintro e w' ⟨rfl, hb1⟩; have hB1 := rowAt_below (by assumption) hb1 rfl; have HB1 := Lib.hid (below_step HBB.out hb1 rfl rfl rfl rfl); replace HBB := HB1; clear HB1 hb1) | (go_at_call 208; refine ((H2 _).out).mono ?_; rintro e w' ⟨rfl, hb2⟩; have hB2 := rowAt_below (by assumption) hb2 rfl; have HB2 := Lib.hid (below_step HBB.out hb2 rfl rfl rfl rfl); replace HBB := HB2; clear HB2 hb2))
  all_goals
    go_wp2
    go_ret
    exact ⟨rfl, HBB.out⟩
set_option maxRecDepth 100000 in
set_option maxHeartbeats 2000000 in
theorem madd_c (o d n m a c i pc : Int) (r : Rg) (w : World) (h31 : (n == 31) = false) :
    Calls Try.prog 248 #[.agg (coA #[.int .i64 o, .int .i64 d, .int .i64 n, .int .i64 m, .int .i64 a, .int .i64 c, .int .i64 i] pc r)] w fun e w' => e = .returned (.int .u64 (IntKind.u64.wrap (r.get a + IntKind.u64.wrap (r.get n * r.get m)))) ∧ Below w.heap.size w w' := by
  have H1 := fun w => Lib.hid ((third_c o d n m a c i pc r w))
  have H2 := fun w => Lib.hid ((first_c o d n m a c i pc r w h31))
  have H3 := fun w => Lib.hid ((second_c o d n m a c i pc r w))
  have HA := Lib.hid (coA_all (i := #[.int .i64 o, .int .i64 d, .int .i64 n, .int .i64 m, .int .i64 a, .int .i64 c, .int .i64 i]) rfl pc r)
  have HS := Lib.hid (coA_size (i := #[.int .i64 o, .int .i64 d, .int .i64 n, .int .i64 m, .int .i64 a, .int .i64 c, .int .i64 i]) rfl pc r)
  have HL := Lib.hid (fun w b => core_regs (w := w) (b := b) (i := #[.int .i64 o, .int .i64 d, .int .i64 n, .int .i64 m, .int .i64 a, .int .i64 c, .int .i64 i]) rfl (pc := pc) (r := r))
  have HM := Lib.hid (fun w b => core_all (w := w) (b := b) (i := #[.int .i64 o, .int .i64 d, .int .i64 n, .int .i64 m, .int .i64 a, .int .i64 c, .int .i64 i]) rfl (pc := pc) (r := r))
  generalize hC : coA #[.int .i64 o, .int .i64 d, .int .i64 n, .int .i64 m, .int .i64 a, .int .i64 c, .int .i64 i] pc r = C at *
  have HB := Lib.hid (rowAt_new w C 257)
  clear hC
  go_enter Try.func248, Try.ntmps248
  go_wp2_with fail
  have HBB : Hid (Below w.heap.size w (w.alloc (.cells C 257))) := Lib.hid ((Below.refl _ _).alloc (Nat.le_refl _) _)
  obtain ⟨b, hb⟩ : ∃ b, b = w.heap.size := ⟨_, rfl⟩
  rw [← hb] at HB
  have HN := Lib.hid hb
  rw [← hb]
  clear hb
  have hB := HB.out
  have ha : ∀ w', rowAt w' b = some C → (ldAt 257 (.pointer (some ⟨b, 0, none⟩))).run Try.prog w' = .ok (.agg C) w' := fun w' h => HM.out w' b h
  have hr : ∀ w', rowAt w' b = some C → (ldAt 26 (.pointer (some ⟨b, 8, none⟩))).run Try.prog w' = .ok (.agg r.arr) w' := fun w' h => HL.out w' b h
  generalize w.alloc (.cells C 257) = w1 at *
  go_region_held3 (fun w' => rowAt w' b = some C) (assumption) (first | (go_at_call 257; refine ((H1 _).out).mono ?_; rintro e w' ⟨rfl, hb1⟩; have hB1 := rowAt_below (by assumption) hb1 rfl; have HB1 := Lib.hid (below_step HBB.out hb1 rfl rfl rfl rfl); replace HBB := HB1; clear HB1 hb1) | (go_at_call 213; refine ((H2 _).out).mono ?_; rintro e w' ⟨rfl, hb2⟩; have hB2 := rowAt_below (by assumption) hb2 rfl; have HB2 := Lib.hid (below_step HBB.out hb2 rfl rfl rfl rfl); replace HBB := HB2; clear HB2 hb2) | (go_at_call 208; refine ((H3 _).out).mono ?_; rintro e w' ⟨rfl, hb3⟩; have hB3 := rowAt_below (by assumption) hb3 rfl; have HB3 := Lib.hid (below_step HBB.out hb3 rfl rfl rfl rfl); replace HBB := HB3; clear HB3 hb3))
  all_goals
    go_wp2
    go_ret
    exact ⟨rfl, HBB.out⟩
set_option maxRecDepth 100000 in
set_option maxHeartbeats 2000000 in
theorem msub_c (o d n m a c i pc : Int) (r : Rg) (w : World) (h31 : (n == 31) = false) :
    Calls Try.prog 249 #[.agg (coA #[.int .i64 o, .int .i64 d, .int .i64 n, .int .i64 m, .int .i64 a, .int .i64 c, .int .i64 i] pc r)] w fun e w' => e = .returned (.int .u64 (IntKind.u64.wrap (r.get a - IntKind.u64.wrap (r.get n * r.get m)))) ∧ Below w.heap.size w w' := by
  have H1 := fun w => Lib.hid ((third_c o d n m a c i pc r w))
  have H2 := fun w => Lib.hid ((first_c o d n m a c i pc r w h31))
  have H3 := fun w => Lib.hid ((second_c o d n m a c i pc r w))
  have HA := Lib.hid (coA_all (i := #[.int .i64 o, .int .i64 d, .int .i64 n, .int .i64 m, .int .i64 a, .int .i64 c, .int .i64 i]) rfl pc r)
  have HS := Lib.hid (coA_size (i := #[.int .i64 o, .int .i64 d, .int .i64 n, .int .i64 m, .int .i64 a, .int .i64 c, .int .i64 i]) rfl pc r)
  have HL := Lib.hid (fun w b => core_regs (w := w) (b := b) (i := #[.int .i64 o, .int .i64 d, .int .i64 n, .int .i64 m, .int .i64 a, .int .i64 c, .int .i64 i]) rfl (pc := pc) (r := r))
  have HM := Lib.hid (fun w b => core_all (w := w) (b := b) (i := #[.int .i64 o, .int .i64 d, .int .i64 n, .int .i64 m, .int .i64 a, .int .i64 c, .int .i64 i]) rfl (pc := pc) (r := r))
  generalize hC : coA #[.int .i64 o, .int .i64 d, .int .i64 n, .int .i64 m, .int .i64 a, .int .i64 c, .int .i64 i] pc r = C at *
  have HB := Lib.hid (rowAt_new w C 257)
  clear hC
  go_enter Try.func249, Try.ntmps249
  go_wp2_with fail
  have HBB : Hid (Below w.heap.size w (w.alloc (.cells C 257))) := Lib.hid ((Below.refl _ _).alloc (Nat.le_refl _) _)
  obtain ⟨b, hb⟩ : ∃ b, b = w.heap.size := ⟨_, rfl⟩
  rw [← hb] at HB
  have HN := Lib.hid hb
  rw [← hb]
  clear hb
  have hB := HB.out
  have ha : ∀ w', rowAt w' b = some C → (ldAt 257 (.pointer (some ⟨b, 0, none⟩))).run Try.prog w' = .ok (.agg C) w' := fun w' h => HM.out w' b h
  have hr : ∀ w', rowAt w' b = some C → (ldAt 26 (.pointer (some ⟨b, 8, none⟩))).run Try.prog w' = .ok (.agg r.arr) w' := fun w' h => HL.out w' b h
  generalize w.alloc (.cells C 257) = w1 at *
  go_region_held3 (fun w' => rowAt w' b = some C) (assumption) (first | (go_at_call 257; refine ((H1 _).out).mono ?_; rintro e w' ⟨rfl, hb1⟩; have hB1 := rowAt_below (by assumption) hb1 rfl; have HB1 := Lib.hid (below_step HBB.out hb1 rfl rfl rfl rfl); replace HBB := HB1; clear HB1 hb1) | (go_at_call 213; refine ((H2 _).out).mono ?_; rintro e w' ⟨rfl, hb2⟩; have hB2 := rowAt_below (by assumption) hb2 rfl; have HB2 := Lib.hid (below_step HBB.out hb2 rfl rfl rfl rfl); replace HBB := HB2; clear HB2 hb2) | (go_at_call 208; refine ((H3 _).out).mono ?_; rintro e w' ⟨rfl, hb3⟩; have hB3 := rowAt_below (by assumption) hb3 rfl; have HB3 := Lib.hid (below_step HBB.out hb3 rfl rfl rfl rfl); replace HBB := HB3; clear HB3 hb3))
  all_goals
    go_wp2
    go_ret
    exact ⟨rfl, HBB.out⟩
end Go.Proofs.Ytnbpgoacooddjaa
