import Derived.Test.YtnbpgoacooddjaaRows
import Derived.WalkKit
import Derived.ProofKit
import Derived.OpenShut
import Derived.Deep.QuietTactic
import Derived.BigQuiet
import Derived.Outline
import Derived.WalkSmall
import Derived.WalkLawsBesides
import Derived.WalkSpells
import Derived.BigGuardPart
import Derived.RegionTactic
import Derived.Deep.RegionHeld3
import Derived.Lib.Hide
import Derived.Deep.MidRow
import Derived.Below
import Derived.Deep.RegionWith
import Derived.Laws.BitsAllLaws
import Derived.Laws.BitsLemmas
import Derived.Deep.OwnRows
import Derived.Deep.AppendLies
import Derived.Test.YtnbpgoacooddjaaSmC
import Derived.Test.YtnbpgoacooddjaaSmH
namespace Go.Proofs.Ytnbpgoacooddjaa
open Go.ChangeShapes Go.WideShapes Go.ChangeAt Go.RowKit
set_option linter.unusedVariables false
set_option maxRecDepth 100000 in
theorem neqfn (f : FuncId) (w : World) : (binOp .neq 260 (Value.func (.func f) #[] #[]) Value.nilFunc).run Try.prog w = .ok (.bool true) w := by kernel_rfl
set_option maxRecDepth 100000 in
set_option maxHeartbeats 2000000 in
theorem computes_7 (w : World) : Calls Try.prog 216 #[.int .i64 7] w fun e w' => e = .returned (Value.func (.func 243) #[] #[]) ∧ w' = w := by
  go_enter Try.func216, Try.ntmps216
  go_wp2
  go_ret
  exact ⟨rfl, rfl⟩
set_option maxRecDepth 100000 in
set_option maxHeartbeats 2000000 in
theorem doing_7 (w : World) : Calls Try.prog 192 #[.int .i64 7] w fun e w' => e = .returned (.iface 260 (Value.func (.func 243) #[] #[])) ∧ w' = w := by
  have hn := neqfn 243
  go_enter Try.func192, Try.ntmps192
  go_wp2_with (go_at_call 216; refine (computes_7 _).mono ?_; rintro e w' ⟨rfl, rfl⟩)
  go_ret
  exact ⟨rfl, rfl⟩
set_option maxRecDepth 100000 in
set_option maxHeartbeats 2000000 in
theorem computes_8 (w : World) : Calls Try.prog 216 #[.int .i64 8] w fun e w' => e = .returned (Value.func (.func 244) #[] #[]) ∧ w' = w := by
  go_enter Try.func216, Try.ntmps216
  go_wp2
  go_ret
  exact ⟨rfl, rfl⟩
set_option maxRecDepth 100000 in
set_option maxHeartbeats 2000000 in
theorem doing_8 (w : World) : Calls Try.prog 192 #[.int .i64 8] w fun e w' => e = .returned (.iface 260 (Value.func (.func 244) #[] #[])) ∧ w' = w := by
  have hn := neqfn 244
  go_enter Try.func192, Try.ntmps192
  go_wp2_with (go_at_call 216; refine (computes_8 _).mono ?_; rintro e w' ⟨rfl, rfl⟩)
  go_ret
  exact ⟨rfl, rfl⟩
set_option maxRecDepth 100000 in
set_option maxHeartbeats 2000000 in
theorem computes_12 (w : World) : Calls Try.prog 216 #[.int .i64 12] w fun e w' => e = .returned (Value.func (.func 247) #[] #[]) ∧ w' = w := by
  go_enter Try.func216, Try.ntmps216
  go_wp2
  go_ret
  exact ⟨rfl, rfl⟩
set_option maxRecDepth 100000 in
set_option maxHeartbeats 2000000 in
theorem doing_12 (w : World) : Calls Try.prog 192 #[.int .i64 12] w fun e w' => e = .returned (.iface 260 (Value.func (.func 247) #[] #[])) ∧ w' = w := by
  have hn := neqfn 247
  go_enter Try.func192, Try.ntmps192
  go_wp2_with (go_at_call 216; refine (computes_12 _).mono ?_; rintro e w' ⟨rfl, rfl⟩)
  go_ret
  exact ⟨rfl, rfl⟩
set_option maxRecDepth 100000 in
set_option maxHeartbeats 2000000 in
theorem computes_13 (w : World) : Calls Try.prog 216 #[.int .i64 13] w fun e w' => e = .returned (Value.func (.func 248) #[] #[]) ∧ w' = w := by
  go_enter Try.func216, Try.ntmps216
  go_wp2
  go_ret
  exact ⟨rfl, rfl⟩
set_option maxRecDepth 100000 in
set_option maxHeartbeats 2000000 in
theorem doing_13 (w : World) : Calls Try.prog 192 #[.int .i64 13] w fun e w' => e = .returned (.iface 260 (Value.func (.func 248) #[] #[])) ∧ w' = w := by
  have hn := neqfn 248
  go_enter Try.func192, Try.ntmps192
  go_wp2_with (go_at_call 216; refine (computes_13 _).mono ?_; rintro e w' ⟨rfl, rfl⟩)
  go_ret
  exact ⟨rfl, rfl⟩
set_option maxRecDepth 100000 in
set_option maxHeartbeats 2000000 in
theorem computes_14 (w : World) : Calls Try.prog 216 #[.int .i64 14] w fun e w' => e = .returned (Value.func (.func 249) #[] #[]) ∧ w' = w := by
  go_enter Try.func216, Try.ntmps216
  go_wp2
  go_ret
  exact ⟨rfl, rfl⟩
set_option maxRecDepth 100000 in
set_option maxHeartbeats 2000000 in
theorem doing_14 (w : World) : Calls Try.prog 192 #[.int .i64 14] w fun e w' => e = .returned (.iface 260 (Value.func (.func 249) #[] #[])) ∧ w' = w := by
  have hn := neqfn 249
  go_enter Try.func192, Try.ntmps192
  go_wp2_with (go_at_call 216; refine (computes_14 _).mono ?_; rintro e w' ⟨rfl, rfl⟩)
  go_ret
  exact ⟨rfl, rfl⟩
set_option maxRecDepth 100000 in
set_option maxHeartbeats 2000000 in
theorem computes_19 (w : World) : Calls Try.prog 216 #[.int .i64 19] w fun e w' => e = .returned (Value.func (.func 252) #[] #[]) ∧ w' = w := by
  go_enter Try.func216, Try.ntmps216
  go_wp2
  go_ret
  exact ⟨rfl, rfl⟩
set_option maxRecDepth 100000 in
set_option maxHeartbeats 2000000 in
theorem doing_19 (w : World) : Calls Try.prog 192 #[.int .i64 19] w fun e w' => e = .returned (.iface 260 (Value.func (.func 252) #[] #[])) ∧ w' = w := by
  have hn := neqfn 252
  go_enter Try.func192, Try.ntmps192
  go_wp2_with (go_at_call 216; refine (computes_19 _).mono ?_; rintro e w' ⟨rfl, rfl⟩)
  go_ret
  exact ⟨rfl, rfl⟩
set_option maxRecDepth 100000 in
set_option maxHeartbeats 2000000 in
theorem computes_2 (w : World) : Calls Try.prog 216 #[.int .i64 2] w fun e w' => e = .returned (Value.func (.func 240) #[] #[]) ∧ w' = w := by
  go_enter Try.func216, Try.ntmps216
  go_wp2
  go_ret
  exact ⟨rfl, rfl⟩
set_option maxRecDepth 100000 in
set_option maxHeartbeats 2000000 in
theorem doing_2 (w : World) : Calls Try.prog 192 #[.int .i64 2] w fun e w' => e = .returned (.iface 260 (Value.func (.func 240) #[] #[])) ∧ w' = w := by
  have hn := neqfn 240
  go_enter Try.func192, Try.ntmps192
  go_wp2_with (go_at_call 216; refine (computes_2 _).mono ?_; rintro e w' ⟨rfl, rfl⟩)
  go_ret
  exact ⟨rfl, rfl⟩
set_option maxRecDepth 100000 in
set_option maxHeartbeats 2000000 in
theorem computes_3 (w : World) : Calls Try.prog 216 #[.int .i64 3] w fun e w' => e = .returned (Value.func (.func 241) #[] #[]) ∧ w' = w := by
  go_enter Try.func216, Try.ntmps216
  go_wp2
  go_ret
  exact ⟨rfl, rfl⟩
set_option maxRecDepth 100000 in
set_option maxHeartbeats 2000000 in
theorem doing_3 (w : World) : Calls Try.prog 192 #[.int .i64 3] w fun e w' => e = .returned (.iface 260 (Value.func (.func 241) #[] #[])) ∧ w' = w := by
  have hn := neqfn 241
  go_enter Try.func192, Try.ntmps192
  go_wp2_with (go_at_call 216; refine (computes_3 _).mono ?_; rintro e w' ⟨rfl, rfl⟩)
  go_ret
  exact ⟨rfl, rfl⟩
set_option maxRecDepth 100000 in
set_option maxHeartbeats 2000000 in
theorem doing_6 (w : World) : Calls Try.prog 192 #[.int .i64 6] w fun e w' => e = .returned (.iface 261 (Value.func (.func 207) #[] #[])) ∧ w' = w := by
  go_enter Try.func192, Try.ntmps192
  go_wp2
  go_ret
  exact ⟨rfl, rfl⟩
set_option maxRecDepth 100000 in
set_option maxHeartbeats 2000000 in
theorem doing_9 (w : World) : Calls Try.prog 192 #[.int .i64 9] w fun e w' => e = .returned (.iface 261 (Value.func (.func 208) #[] #[])) ∧ w' = w := by
  go_enter Try.func192, Try.ntmps192
  go_wp2
  go_ret
  exact ⟨rfl, rfl⟩
set_option maxRecDepth 100000 in
theorem ta79 (f : FuncId) (w : World) : (Instr.typeAssert (.iface 260 (Value.func (.func f) #[] #[])) 20 260 true).run Try.prog w = .ok (.tuple #[Value.func (.func f) #[] #[], .bool true]) w := by kernel_rfl
set_option maxRecDepth 100000 in
theorem ta80n (f : FuncId) (w : World) : (Instr.typeAssert (.iface 261 (Value.func (.func f) #[] #[])) 20 260 true).run Try.prog w = .ok (.tuple #[.nilFunc, .bool false]) w := by kernel_rfl
set_option maxRecDepth 100000 in
theorem ta80 (f : FuncId) (w : World) : (Instr.typeAssert (.iface 261 (Value.func (.func f) #[] #[])) 20 261 true).run Try.prog w = .ok (.tuple #[Value.func (.func f) #[] #[], .bool true]) w := by kernel_rfl


/-- An effect. -/
def efA (r : Rg) (nx ad da : Int) (to : Bool) : Array Value := r.arr ++ #[.int .u64 nx, .int .u64 ad, .int .u64 da, .bool to]
theorem efA_size (r : Rg) (nx ad da : Int) (to : Bool) : (efA r nx ad da to).size = 40 := by simp [efA, r.size]
set_option maxRecDepth 100000 in
theorem built38 (r : Rg) (nx : Int) : Try.prog.built 232 [(0, .agg r.arr), (1, .int .u64 nx)] = some (efA r nx 0 0 false) := by kernel_rfl
set_option maxRecDepth 100000 in
theorem built76 (o d n m a c i pc : Int) (r : Rg) : Try.prog.built 257 [(0, .agg #[.int .i64 o, .int .i64 d, .int .i64 n, .int .i64 m, .int .i64 a, .int .i64 c, .int .i64 i]), (1, .int .u64 pc), (2, .agg r.arr)] = some (coA #[.int .i64 o, .int .i64 d, .int .i64 n, .int .i64 m, .int .i64 a, .int .i64 c, .int .i64 i] pc r) := by kernel_rfl
theorem wpl_build {P : Program} {ops : Array Oper} {rest : List Oper} {o : Oper} {a : Act} {w : World} {Q : Exit → Act → World → Prop} (hg : o.guard = none) (t : TypeId) (parts : Array (Nat × Operand)) (ho : o.op = .build t parts)
    (l : List (Nat × Value)) (hl : (parts.map fun (i, x) => (i, a.eval x)).toList = l) (cells : Array Value) (hf : P.built t l = some cells)
    (h : wpList P ops Q rest (a.put o.dst (.agg cells)) w) : wpList P ops Q (o :: rest) a w := by
  refine wpList_build hg t parts ho (by rw [hl, hf]; rfl) ?_
  rw [hl, hf]
  exact h
theorem efA_one (r : Rg) (nx ad da : Int) (to : Bool) : (efA r nx ad da to).all (·.oneCell') = true := by
  refine Array.all_eq_true_iff_forall_mem.2 fun v hv => ?_
  have h1 := Array.all_eq_true_iff_forall_mem.1 r.one
  simp [efA] at hv
  rcases hv with hv | rfl | rfl | rfl | rfl
  · exact h1 v hv
  all_goals rfl
theorem coA_one (o d n m a c i pc : Int) (r : Rg) : (coA #[.int .i64 o, .int .i64 d, .int .i64 n, .int .i64 m, .int .i64 a, .int .i64 c, .int .i64 i] pc r).all (·.oneCell') = true := by
  refine Array.all_eq_true_iff_forall_mem.2 fun v hv => ?_
  have h1 := Array.all_eq_true_iff_forall_mem.1 r.one
  simp [coA] at hv
  rcases hv with (rfl | rfl | rfl | rfl | rfl | rfl | rfl | rfl) | hv
  all_goals first | rfl | exact h1 v hv
def z40 : Array Value := efA ⟨fun _ => 0, 0, false, false, false, false⟩ 0 0 0 false
def z44 : Array Value := coA #[.int .i64 0, .int .i64 0, .int .i64 0, .int .i64 0, .int .i64 0, .int .i64 0, .int .i64 0] 0 ⟨fun _ => 0, 0, false, false, false, false⟩
theorem ef_all {w : World} {b : Nat} {r : Rg} {nx ad da : Int} {to : Bool} (h : rowAt w b = some (efA r nx ad da to)) : (Instr.loadAt 232 (.pointer (some ⟨b, 0, none⟩))).run Try.prog w = .ok (.agg (efA r nx ad da to)) w := by
  rw [load38 b 0 w _ h (by rw [efA_size]; omega), Nat.zero_add]
  have hs := efA_size r nx ad da to
  rw [← hs]
  simp
/-- A store of a row, under a name of its own. -/
def stAt (ty : TypeId) (p v : Value) : Sem Unit := Instr.storeAt ty p v
theorem st25 (p v : Value) : Instr.storeAt 26 p v = stAt 26 p v := rfl
theorem st38 (p v : Value) : Instr.storeAt 232 p v = stAt 232 p v := rfl
theorem st76 (p v : Value) : Instr.storeAt 257 p v = stAt 257 p v := rfl
theorem st_regs {w : World} {b : Nat} {r r' : Rg} {nx ad da : Int} {to : Bool} (h : rowAt w b = some (efA r nx ad da to)) : (stAt 26 (.pointer (some ⟨b, 0, none⟩)) (.agg r'.arr)).run Try.prog w = .ok () (w.setCells b 0 r'.arr.toList) := by
  refine run_storeAt_mid w b 0 26 r'.arr (fun j hj => ?_) (by rw [Rg.size]; exact info25) r'.one
  rw [Rg.size] at hj
  rw [Nat.zero_add]
  refine ⟨?_, rowAt_frz h j⟩
  rw [rowAt_cell h j, Array.getElem?_eq_getElem (by rw [efA_size]; omega)]
  rfl
theorem setCells_row : ∀ (l : List Value) (k : Nat) (w : World) (b : Nat) (C : Array Value), rowAt w b = some C → rowAt (w.setCells b k l) b = some ((l.zipIdx k).foldl (fun cs x => cs.setIfInBounds x.2 x.1) C)
  | [], _, _, _, _, h => h
  | v :: l, k, w, b, C, h => by
    rw [World.setCells, List.zipIdx_cons, List.foldl_cons]
    exact setCells_row l (k + 1) _ b _ (rowAt_set h k v)
theorem setCells_grown : ∀ (l : List Value) (k : Nat) (w : World) (b : Nat), w.grownBy (w.setCells b k l) (some b)
  | [], _, _, _ => ⟨rfl, rfl, rfl, Nat.le_refl _, fun _ _ _ => rfl⟩
  | v :: l, k, w, b => by
    have h1 : w.grownBy (w.setCell ⟨b, k, none⟩ v) (some b) := ⟨rfl, rfl, rfl, by simp [World.setCell], fun k' hk hne => Below.heap_setCell _ _ _ _ (fun e => hne (by rw [e]))⟩
    have h2 := setCells_grown l (k + 1) (w.setCell ⟨b, k, none⟩ v) b
    exact ⟨h2.os.trans h1.os, h2.tape.trans h1.tape, h2.output.trans h1.output, Nat.le_trans h1.size h2.size, fun i hi hne => (h2.block i (Nat.lt_of_lt_of_le hi h1.size) hne).trans (h1.block i hi hne)⟩
set_option maxRecDepth 100000 in
theorem fold_regs (r r' : Rg) (nx ad da : Int) (to : Bool) : some ((r'.arr.toList.zipIdx 0).foldl (fun cs x => cs.setIfInBounds x.2 x.1) (efA r nx ad da to)) = some (efA r' nx ad da to) := by kernel_rfl
theorem st_regs_row {w : World} {b : Nat} {r r' : Rg} {nx ad da : Int} {to : Bool} (h : rowAt w b = some (efA r nx ad da to)) : rowAt (w.setCells b 0 r'.arr.toList) b = some (efA r' nx ad da to) := by
  rw [setCells_row _ 0 w b _ h]
  exact fold_regs r r' nx ad da to


theorem wpl_build2 {P : Program} {ops : Array Oper} {rest : List Oper} {o : Oper} {a : Act} {w : World} {Q : Exit → Act → World → Prop} (hg : o.guard = none) (t : TypeId) (i j : Nat) (x y : Operand) (ho : o.op = .build t #[(i, x), (j, y)])
    (u v : Value) (hx : a.eval x = u) (hy : a.eval y = v) (cells : Array Value) (hf : P.built t [(i, u), (j, v)] = some cells)
    (h : wpList P ops Q rest (a.put o.dst (.agg cells)) w) : wpList P ops Q (o :: rest) a w :=
  wpl_build hg t _ ho [(i, u), (j, v)] (by simp [hx, hy]) cells hf h
theorem wpl_build3 {P : Program} {ops : Array Oper} {rest : List Oper} {o : Oper} {a : Act} {w : World} {Q : Exit → Act → World → Prop} (hg : o.guard = none) (t : TypeId) (i j k : Nat) (x y z : Operand) (ho : o.op = .build t #[(i, x), (j, y), (k, z)])
    (u v s : Value) (hx : a.eval x = u) (hy : a.eval y = v) (hz : a.eval z = s) (cells : Array Value) (hf : P.built t [(i, u), (j, v), (k, s)] = some cells)
    (h : wpList P ops Q rest (a.put o.dst (.agg cells)) w) : wpList P ops Q (o :: rest) a w :=
  wpl_build hg t _ ho [(i, u), (j, v), (k, s)] (by simp [hx, hy, hz]) cells hf h
theorem InsAt.far {w w' : World} {b g : Nat} {a0 a1 a2 a3 a4 a5 a6 : Value} (h : InsAt w b a0 a1 a2 a3 a4 a5 a6) (hg : w.grownBy w' (some g)) (hne : b ≠ g) : InsAt w' b a0 a1 a2 a3 a4 a5 a6 := by
  obtain ⟨h0, c0, c1, c2, c3, c4, c5, c6⟩ := h
  have k : ∀ i, w'.cell? ⟨b, i, none⟩ = w.cell? ⟨b, i, none⟩ := fun i => hg.cell_far ⟨b, i, none⟩ h0 (fun e => hne (by injection e))
  exact ⟨Nat.lt_of_lt_of_le h0 hg.size, (k 0).trans c0, (k 1).trans c1, (k 2).trans c2, (k 3).trans c3, (k 4).trans c4, (k 5).trans c5, (k 6).trans c6⟩
theorem setCells_far {w : World} {b g : Nat} {C : Array Value} (h : rowAt w b = some C) (hne : b ≠ g) (k : Nat) (l : List Value) : rowAt (w.setCells g k l) b = some C := rowAt_grown h (setCells_grown l k w g) hne
theorem InsAt.past {w : World} {b : Nat} {a0 a1 a2 a3 a4 a5 a6 : Value} (h : InsAt w b a0 a1 a2 a3 a4 a5 a6) (o : Obj) : InsAt (w.alloc o) b a0 a1 a2 a3 a4 a5 a6 :=
  h.below' ((Below.refl _ _).alloc (Nat.le_refl _) o) rfl
attribute [local go_sem ↓] ld76 ld25 ld38 st25
attribute [local go_sem] rowAt_drew rowAt_drewN
end Go.Proofs.Ytnbpgoacooddjaa
