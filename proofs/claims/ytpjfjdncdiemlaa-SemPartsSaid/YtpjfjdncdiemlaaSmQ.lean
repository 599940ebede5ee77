import Derived.Test.YtpjfjdncdiemlaaSmN
import Derived.ChangeKeysEq
namespace Go.Proofs.Ytpjfjdncdiemlaa
open Go.ChangeShapes Go.WideShapes Go.ChangeAt Go.RowKit
set_option linter.unusedVariables false
/-- The numbered ones alone. -/
def Rg.xs (r : Rg) : Array Value := ((List.range 31).map (fun i => Value.int .u64 (r.x i))).toArray
theorem Rg.xs_size (r : Rg) : r.xs.size = 31 := by simp [Rg.xs]
theorem Rg.xs_at (r : Rg) (i : Nat) (h : i < 31) : r.xs[i]? = some (.int .u64 (r.x i)) := by simp [Rg.xs, h]
theorem Rg.xs_arr (r : Rg) : r.arr.extract 0 31 = r.xs := by
  apply Array.ext_getElem?
  intro k
  rw [Array.getElem?_extract]
  by_cases hk : k < 31
  · rw [if_pos (by rw [r.size]; omega), Nat.zero_add, r.at k hk, r.xs_at k hk]
  · rw [if_neg (by rw [r.size]; omega), Array.getElem?_eq_none (by rw [r.xs_size]; omega)]
theorem info23 : (Try.prog.info? 23).map (·.size) = some 31 := by kernel_rfl
theorem part22 (xs : Array Value) (i : Nat) (v : Value) (h : xs[i]? = some v) (w : World) : (part 22 xs i).run Try.prog w = .ok v w := by
  unfold part
  have hu : (isAgg 22).run Try.prog w = .ok false w := by
    unfold isAgg
    rw [Sem.run_bind, run_underlying Try.underlying22 w]
    rfl
  rw [Sem.run_bind, hu]
  simp [h]
theorem items22 (r : Rg) (d : Nat) (w : World) : ∀ is : List Nat, (∀ i ∈ is, i < 31) → (Op.eqItems (d + 1) 22 1 r.xs r.xs is).run Try.prog w = .ok true w
  | [], _ => by simp [Op.eqItems]
  | i :: is, h => by
    have hi := r.xs_at i (h i (by simp))
    simp only [Op.eqItems, Sem.run_bind, Nat.mul_one, part22 _ _ _ hi, Result.andThen_ok, run_equalIn_int w d 22 .u64 _ _ _ Try.underlying22, beq_self_eq_true, Bool.not_true, Bool.false_eq_true, if_false]
    exact items22 r d w is (fun j hj => h j (by simp [hj]))
theorem in23 (r : Rg) (d : Nat) (w : World) : (Op.equalIn (d + 2) 23 (.agg r.xs) (.agg r.xs)).run Try.prog w = .ok true w := by
  obtain ⟨i0, hi⟩ : ∃ i, Try.prog.info? 22 = some i := by
    cases h : Try.prog.info? 22 with
    | some i => exact ⟨i, rfl⟩
    | none => have : (Try.prog.info? 22).isSome = true := by kernel_rfl
              rw [h] at this; cases this
  rw [show d + 2 = (d + 1) + 1 from rfl, run_equalIn_array w (d + 1) r.xs r.xs Try.underlying23 hi, show Try.prog.cellsOf 22 = 1 by kernel_rfl]
  exact items22 r d w _ (fun i h => by simpa using h)
theorem eql23 (r : Rg) (w : World) : (binOp .eql 23 (.agg r.xs) (.agg r.xs)).run Try.prog w = .ok (.bool true) w := by
  rw [run_eql_struct, in23 r 9998 w, Result.andThen_ok]
theorem fields25 : (Try.prog.fieldsOf 25).toList.map (fun f => (f.name, f.type, f.offset)) = [("X", 23, 0), ("SP", 22, 31), ("N", 4, 32), ("Z", 4, 33), ("C", 4, 34), ("V", 4, 35)] := by kernel_rfl
theorem part4 (xs : Array Value) (i : Nat) (v : Value) (h : xs[i]? = some v) (w : World) : (part 4 xs i).run Try.prog w = .ok v w := by
  unfold part
  have hu : (isAgg 4).run Try.prog w = .ok false w := by
    unfold isAgg
    rw [Sem.run_bind, run_underlying Try.underlying4 w]
    rfl
  rw [Sem.run_bind, hu]
  simp [h]
theorem part23 (r : Rg) (w : World) : (part 23 r.arr 0).run Try.prog w = .ok (.agg r.xs) w := by
  unfold part
  have hu : (isAgg 23).run Try.prog w = .ok true w := by
    unfold isAgg
    rw [Sem.run_bind, run_underlying Try.underlying23 w]
    rfl
  have hs : (sizeOf 23).run Try.prog w = .ok 31 w := by
    have h23 := info23
    unfold sizeOf typeInfo
    cases hq : Try.prog.info? 23 with
    | none => rw [hq] at h23; cases h23
    | some i => rw [hq] at h23; simp at h23; simp [Sem.run_bind, hq, h23]
  rw [Sem.run_bind, hu]
  simp [r.xs_arr]
theorem eqF (r : Rg) (d : Nat) (w : World) : ∀ fs : List Field, fs.map (fun f => (f.name, f.type, f.offset)) = [("X", 23, 0), ("SP", 22, 31), ("N", 4, 32), ("Z", 4, 33), ("C", 4, 34), ("V", 4, 35)] → (Op.eqFields (d + 2) r.arr r.arr fs).run Try.prog w = .ok true w := by
  intro fs h
  have hl : fs.length = 6 := by have := congrArg List.length h; simpa using this
  match fs, hl, h with
  | [f0, f1, f2, f3, f4, f5], _, h =>
    simp only [List.map_cons, List.map_nil, List.cons.injEq, Prod.mk.injEq] at h
    obtain ⟨⟨n0, t0, o0⟩, ⟨n1, t1, o1⟩, ⟨n2, t2, o2⟩, ⟨n3, t3, o3⟩, ⟨n4, t4, o4⟩, ⟨n5, t5, o5⟩, _⟩ := h
    simp [Op.eqFields, n0, t0, o0, n1, t1, o1, n2, t2, o2, n3, t3, o3, n4, t4, o4, n5, t5, o5, Sem.run_bind, part23, in23, part22 _ _ _ r.at31, part4 _ _ _ r.at32, part4 _ _ _ r.at33, part4 _ _ _ r.at34, part4 _ _ _ r.at35, run_equalIn_int w (d + 1) 22 .u64 _ _ _ Try.underlying22, run_equalIn_bool w (d + 1) 4 _ _ Try.underlying4]
theorem eql25 (r : Rg) (w : World) : (binOp .eql 25 (.agg r.arr) (.agg r.arr)).run Try.prog w = .ok (.bool true) w := by
  rw [run_eql_struct, run_equalIn_agg w 9999 25 r.arr r.arr (by kernel_rfl) (by kernel_rfl), eqF r 9997 w _ fields25, Result.andThen_ok]
end Go.Proofs.Ytpjfjdncdiemlaa
