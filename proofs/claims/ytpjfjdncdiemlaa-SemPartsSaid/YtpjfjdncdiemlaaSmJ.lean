import Derived.Test.YtpjfjdncdiemlaaRows
import Derived.WalkKit
import Derived.ProofKit
import Derived.OpenShut
import Derived.Deep.QuietTactic
import Derived.BigQuiet
import Derived.Outline
import Derived.WalkSmall
import Derived.WalkLawsBesides
import Derived.WalkSpells
import Derived.BigGuardPart
import Derived.RegionTactic
import Derived.Deep.RegionHeld3
import Derived.Lib.Hide
import Derived.Deep.MidRow
import Derived.Below
import Derived.Deep.RegionWith
import Derived.Test.YtpjfjdncdiemlaaSmC
import Derived.Test.YtpjfjdncdiemlaaSmI
import Derived.Laws.BitsAllLaws
import Derived.Laws.BitsLemmas
namespace Go.Proofs.Ytpjfjdncdiemlaa
open Go.ChangeShapes Go.WideShapes Go.ChangeAt Go.RowKit
set_option linter.unusedVariables false


/-- An effect. -/
def efA (r : Rg) (nx ad da : Int) (to : Bool) : Array Value := r.arr ++ #[.int .u64 nx, .int .u64 ad, .int .u64 da, .bool to]
theorem efA_size (r : Rg) (nx ad da : Int) (to : Bool) : (efA r nx ad da to).size = 40 := by simp [efA, r.size]
set_option maxRecDepth 100000 in
theorem built38 (r : Rg) (nx : Int) : Try.prog.built 38 [(0, .agg r.arr), (1, .int .u64 nx)] = some (efA r nx 0 0 false) := by kernel_rfl
set_option maxRecDepth 100000 in
theorem built76 (o d n m a c i pc : Int) (r : Rg) : Try.prog.built 76 [(0, .agg #[.int .i64 o, .int .i64 d, .int .i64 n, .int .i64 m, .int .i64 a, .int .i64 c, .int .i64 i]), (1, .int .u64 pc), (2, .agg r.arr)] = some (coA #[.int .i64 o, .int .i64 d, .int .i64 n, .int .i64 m, .int .i64 a, .int .i64 c, .int .i64 i] pc r) := by kernel_rfl
theorem wpl_build {P : Program} {ops : Array Oper} {rest : List Oper} {o : Oper} {a : Act} {w : World} {Q : Exit → Act → World → Prop} (hg : o.guard = none) (t : TypeId) (parts : Array (Nat × Operand)) (ho : o.op = .build t parts)
    (l : List (Nat × Value)) (hl : (parts.map fun (i, x) => (i, a.eval x)).toList = l) (cells : Array Value) (hf : P.built t l = some cells)
    (h : wpList P ops Q rest (a.put o.dst (.agg cells)) w) : wpList P ops Q (o :: rest) a w := by
  refine wpList_build hg t parts ho (by rw [hl, hf]; rfl) ?_
  rw [hl, hf]
  exact h
theorem efA_one (r : Rg) (nx ad da : Int) (to : Bool) : (efA r nx ad da to).all (·.oneCell') = true := by
  refine Array.all_eq_true_iff_forall_mem.2 fun v hv => ?_
  have h1 := Array.all_eq_true_iff_forall_mem.1 r.one
  simp [efA] at hv
  rcases hv with hv | rfl | rfl | rfl | rfl
  · exact h1 v hv
  all_goals rfl
theorem coA_one (o d n m a c i pc : Int) (r : Rg) : (coA #[.int .i64 o, .int .i64 d, .int .i64 n, .int .i64 m, .int .i64 a, .int .i64 c, .int .i64 i] pc r).all (·.oneCell') = true := by
  refine Array.all_eq_true_iff_forall_mem.2 fun v hv => ?_
  have h1 := Array.all_eq_true_iff_forall_mem.1 r.one
  simp [coA] at hv
  rcases hv with (rfl | rfl | rfl | rfl | rfl | rfl | rfl | rfl) | hv
  all_goals first | rfl | exact h1 v hv
def z40 : Array Value := efA ⟨fun _ => 0, 0, false, false, false, false⟩ 0 0 0 false
def z44 : Array Value := coA #[.int .i64 0, .int .i64 0, .int .i64 0, .int .i64 0, .int .i64 0, .int .i64 0, .int .i64 0] 0 ⟨fun _ => 0, 0, false, false, false, false⟩
theorem ef_all {w : World} {b : Nat} {r : Rg} {nx ad da : Int} {to : Bool} (h : rowAt w b = some (efA r nx ad da to)) : (Instr.loadAt 38 (.pointer (some ⟨b, 0, none⟩))).run Try.prog w = .ok (.agg (efA r nx ad da to)) w := by
  rw [load38 b 0 w _ h (by rw [efA_size]; omega), Nat.zero_add]
  have hs := efA_size r nx ad da to
  rw [← hs]
  simp
/-- A store of a row, under a name of its own. -/
def stAt (ty : TypeId) (p v : Value) : Sem Unit := Instr.storeAt ty p v
theorem st25 (p v : Value) : Instr.storeAt 25 p v = stAt 25 p v := rfl
theorem st38 (p v : Value) : Instr.storeAt 38 p v = stAt 38 p v := rfl
theorem st76 (p v : Value) : Instr.storeAt 76 p v = stAt 76 p v := rfl
theorem st_regs {w : World} {b : Nat} {r r' : Rg} {nx ad da : Int} {to : Bool} (h : rowAt w b = some (efA r nx ad da to)) : (stAt 25 (.pointer (some ⟨b, 0, none⟩)) (.agg r'.arr)).run Try.prog w = .ok () (w.setCells b 0 r'.arr.toList) := by
  refine run_storeAt_mid w b 0 25 r'.arr (fun j hj => ?_) (by rw [Rg.size]; exact info25) r'.one
  rw [Rg.size] at hj
  rw [Nat.zero_add]
  refine ⟨?_, rowAt_frz h j⟩
  rw [rowAt_cell h j, Array.getElem?_eq_getElem (by rw [efA_size]; omega)]
  rfl
theorem setCells_row : ∀ (l : List Value) (k : Nat) (w : World) (b : Nat) (C : Array Value), rowAt w b = some C → rowAt (w.setCells b k l) b = some ((l.zipIdx k).foldl (fun cs x => cs.setIfInBounds x.2 x.1) C)
  | [], _, _, _, _, h => h
  | v :: l, k, w, b, C, h => by
    rw [World.setCells, List.zipIdx_cons, List.foldl_cons]
    exact setCells_row l (k + 1) _ b _ (rowAt_set h k v)
theorem setCells_grown : ∀ (l : List Value) (k : Nat) (w : World) (b : Nat), w.grownBy (w.setCells b k l) (some b)
  | [], _, _, _ => ⟨rfl, rfl, rfl, Nat.le_refl _, fun _ _ _ => rfl⟩
  | v :: l, k, w, b => by
    have h1 : w.grownBy (w.setCell ⟨b, k, none⟩ v) (some b) := ⟨rfl, rfl, rfl, by simp [World.setCell], fun k' hk hne => Below.heap_setCell _ _ _ _ (fun e => hne (by rw [e]))⟩
    have h2 := setCells_grown l (k + 1) (w.setCell ⟨b, k, none⟩ v) b
    exact ⟨h2.os.trans h1.os, h2.tape.trans h1.tape, h2.output.trans h1.output, Nat.le_trans h1.size h2.size, fun i hi hne => (h2.block i (Nat.lt_of_lt_of_le hi h1.size) hne).trans (h1.block i hi hne)⟩
set_option maxRecDepth 100000 in
theorem fold_regs (r r' : Rg) (nx ad da : Int) (to : Bool) : some ((r'.arr.toList.zipIdx 0).foldl (fun cs x => cs.setIfInBounds x.2 x.1) (efA r nx ad da to)) = some (efA r' nx ad da to) := by kernel_rfl
theorem st_regs_row {w : World} {b : Nat} {r r' : Rg} {nx ad da : Int} {to : Bool} (h : rowAt w b = some (efA r nx ad da to)) : rowAt (w.setCells b 0 r'.arr.toList) b = some (efA r' nx ad da to) := by
  rw [setCells_row _ 0 w b _ h]
  exact fold_regs r r' nx ad da to
end Go.Proofs.Ytpjfjdncdiemlaa
