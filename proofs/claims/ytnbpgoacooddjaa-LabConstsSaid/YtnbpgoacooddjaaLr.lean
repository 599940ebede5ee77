import Derived.Test.YtnbpgoacooddjaaSmA
import Derived.Test.YtnbpgoacooddjaaSmS
import Derived.ChangeKeysEq
import Derived.Laws.BitsAllLaws
import Derived.Laws.BitsLemmas
namespace Go.Proofs.Ytnbpgoacooddjaa
open Go.ChangeShapes Go.WideShapes Go.ChangeAt Go.RowKit
set_option linter.unusedVariables false
theorem shl_0 (i : Int) (h1 : 0 ≤ i) (h2 : i ≤ 65535) (w : World) : (Op.shift .shl .u64 i .i64 0).run Try.prog w = .ok (.int .u64 (i * 1)) w := by
  have hw : IntKind.u64.wrap (i * 1) = i * 1 := by rw [IntKind.wrap_u64]; omega
  have h : (Op.shift .shl .u64 i .i64 0).run Try.prog w = .ok (.int .u64 (IntKind.u64.wrap (i * 1))) w := by rfl
  rw [h, hw]
theorem shl65_0 (w : World) : (Op.shift .shl .u64 65535 .i64 0).run Try.prog w = .ok (.int .u64 65535) w := by rfl
theorem shl_1 (i : Int) (h1 : 0 ≤ i) (h2 : i ≤ 65535) (w : World) : (Op.shift .shl .u64 i .i64 16).run Try.prog w = .ok (.int .u64 (i * 65536)) w := by
  have hw : IntKind.u64.wrap (i * 65536) = i * 65536 := by rw [IntKind.wrap_u64]; omega
  have h : (Op.shift .shl .u64 i .i64 16).run Try.prog w = .ok (.int .u64 (IntKind.u64.wrap (i * 65536))) w := by rfl
  rw [h, hw]
theorem shl65_1 (w : World) : (Op.shift .shl .u64 65535 .i64 16).run Try.prog w = .ok (.int .u64 4294901760) w := by rfl
theorem shl_2 (i : Int) (h1 : 0 ≤ i) (h2 : i ≤ 65535) (w : World) : (Op.shift .shl .u64 i .i64 32).run Try.prog w = .ok (.int .u64 (i * 4294967296)) w := by
  have hw : IntKind.u64.wrap (i * 4294967296) = i * 4294967296 := by rw [IntKind.wrap_u64]; omega
  have h : (Op.shift .shl .u64 i .i64 32).run Try.prog w = .ok (.int .u64 (IntKind.u64.wrap (i * 4294967296))) w := by rfl
  rw [h, hw]
theorem shl65_2 (w : World) : (Op.shift .shl .u64 65535 .i64 32).run Try.prog w = .ok (.int .u64 281470681743360) w := by rfl
theorem shl_3 (i : Int) (h1 : 0 ≤ i) (h2 : i ≤ 65535) (w : World) : (Op.shift .shl .u64 i .i64 48).run Try.prog w = .ok (.int .u64 (i * 281474976710656)) w := by
  have hw : IntKind.u64.wrap (i * 281474976710656) = i * 281474976710656 := by rw [IntKind.wrap_u64]; omega
  have h : (Op.shift .shl .u64 i .i64 48).run Try.prog w = .ok (.int .u64 (IntKind.u64.wrap (i * 281474976710656))) w := by rfl
  rw [h, hw]
theorem shl65_3 (w : World) : (Op.shift .shl .u64 65535 .i64 48).run Try.prog w = .ok (.int .u64 18446462598732840960) w := by rfl
theorem or_disj (X i s : Nat) (h : X / 2 ^ s % 65536 = 0) (hi : i < 65536) : X ||| i * 2 ^ s = X + i * 2 ^ s := by
  have e1 : X = 2 ^ (s + 16) * (X / 2 ^ (s + 16)) + X % 2 ^ s := by
    have h1 := Nat.div_add_mod X (2 ^ s)
    have h2 : X / 2 ^ (s + 16) = X / 2 ^ s / 65536 := by rw [Nat.pow_add, Nat.div_div_eq_div_mul]
    have h3 := Nat.div_add_mod (X / 2 ^ s) 65536
    rw [h, Nat.add_zero] at h3
    rw [h2, Nat.pow_add, Nat.mul_assoc, show (2 : Nat) ^ 16 = 65536 by decide, h3]
    omega
  have hL : X % 2 ^ s < 2 ^ s := Nat.mod_lt _ (Nat.two_pow_pos s)
  generalize X / 2 ^ (s + 16) = H at e1
  generalize X % 2 ^ s = L at e1 hL
  have hlt : 2 ^ s * i + L < 2 ^ (s + 16) := by
    rw [Nat.pow_add]
    have : 2 ^ s * i ≤ 2 ^ s * 65535 := Nat.mul_le_mul_left _ (by omega)
    have h16 : (2 : Nat) ^ 16 = 65536 := by decide
    rw [h16]
    omega
  have hlt2 : L < 2 ^ (s + 16) := by omega
  rw [e1, Nat.mul_comm i, Nat.two_pow_add_eq_or_of_lt hlt2, Nat.or_assoc, Nat.or_comm L, ← Nat.two_pow_add_eq_or_of_lt hL, ← Nat.two_pow_add_eq_or_of_lt hlt, ← Nat.two_pow_add_eq_or_of_lt hlt2]
  omega
theorem and_field (X s : Nat) (h : X / 2 ^ s % 65536 = 0) : X &&& 65535 * 2 ^ s = 0 := by
  have : X &&& 65535 * 2 ^ s = ((X >>> s) % 2 ^ 16) <<< s := by
    apply Nat.eq_of_testBit_eq
    intro j
    rw [Nat.testBit_and, ← Nat.shiftLeft_eq, Nat.testBit_shiftLeft, Nat.testBit_shiftLeft, Nat.testBit_mod_two_pow, Nat.testBit_shiftRight, show (65535 : Nat) = 2 ^ 16 - 1 by decide, Nat.testBit_two_pow_sub_one]
    by_cases hj : s ≤ j
    · have e : s + (j - s) = j := by omega
      rw [e]
      simp [hj]
      rw [Bool.and_comm]
    · simp [hj]
  rw [this, Nat.shiftRight_eq_div_pow, show (2 : Nat) ^ 16 = 65536 by decide, h]
  simp
theorem andNot_u64 (X M : Nat) (hX : X < 18446744073709551616) (hM : M < 18446744073709551616) (h : X &&& M = 0) : bits .andNot .u64 (X : Int) (M : Int) = X := by
  have h0 : BitVec.ofInt 64 (X : Int) &&& BitVec.ofInt 64 (M : Int) = 0#64 := BitVec.eq_of_toNat_eq (by rw [BitVec.toNat_and, ofInt_u64 X hX, ofInt_u64 M hM, h]; rfl)
  have h1 : BitVec.ofInt 64 (X : Int) &&& ~~~BitVec.ofInt 64 (M : Int) = BitVec.ofInt 64 (X : Int) := by
    generalize BitVec.ofInt 64 (X : Int) = a at *
    generalize BitVec.ofInt 64 (M : Int) = b at *
    apply BitVec.eq_of_getLsbD_eq
    intro i hi
    have h2 : (a &&& b).getLsbD i = false := by rw [h0]; simp
    rw [BitVec.getLsbD_and] at h2 ⊢
    rw [BitVec.getLsbD_not]
    cases ha : a.getLsbD i <;> cases hb : b.getLsbD i <;> simp_all
  show IntKind.u64.wrap ((BitVec.ofInt 64 (X : Int) &&& ~~~BitVec.ofInt 64 (M : Int)).toNat : Int) = _
  rw [h1, ofInt_u64 X hX, IntKind.wrap_u64]
  omega
theorem or_u64 (X Y : Nat) (hX : X < 18446744073709551616) (hY : Y < 18446744073709551616) : bits .or .u64 (X : Int) (Y : Int) = ((X ||| Y : Nat) : Int) := by
  have hx : X ||| Y < 2 ^ 64 := Nat.or_lt_two_pow (by omega) (by omega)
  show IntKind.u64.wrap ((BitVec.ofInt 64 (X : Int) ||| BitVec.ofInt 64 (Y : Int)).toNat : Int) = _
  rw [BitVec.toNat_or, ofInt_u64 X hX, ofInt_u64 Y hY, IntKind.wrap_u64]
  omega
theorem keep_0 (x i : Int) (x1 : 0 ≤ x) (x2 : x < 18446744073709551616) (i1 : 0 ≤ i) (i2 : i ≤ 65535) (h : x / 1 % 65536 = 0) : bits .or .u64 (bits .andNot .u64 x (IntKind.u64.wrap 65535)) (i) = x + i := by
  obtain ⟨X, rfl⟩ := Int.eq_ofNat_of_zero_le x1
  obtain ⟨I, rfl⟩ := Int.eq_ofNat_of_zero_le i1
  have hf : X / 2 ^ 0 % 65536 = 0 := by simp only [Nat.reducePow]; omega
  have hm : IntKind.u64.wrap 65535 = ((65535 : Nat) : Int) := by rfl
  have ha := and_field X 0 hf
  simp only [Nat.reducePow, Nat.reduceMul] at ha
  rw [hm, andNot_u64 X 65535 (by omega) (by decide) ha]
  have hi : (I : Int) = ((I * 1 : Nat) : Int) := by omega
  rw [hi, or_u64 X (I * 1) (by omega) (by omega)]
  have ho := or_disj X I 0 hf (by omega)
  simp only [Nat.reducePow] at ho
  rw [ho]
  omega
theorem keep_1 (x i : Int) (x1 : 0 ≤ x) (x2 : x < 18446744073709551616) (i1 : 0 ≤ i) (i2 : i ≤ 65535) (h : x / 65536 % 65536 = 0) : bits .or .u64 (bits .andNot .u64 x (IntKind.u64.wrap 4294901760)) (i * 65536) = x + i * 65536 := by
  obtain ⟨X, rfl⟩ := Int.eq_ofNat_of_zero_le x1
  obtain ⟨I, rfl⟩ := Int.eq_ofNat_of_zero_le i1
  have hf : X / 2 ^ 16 % 65536 = 0 := by simp only [Nat.reducePow]; omega
  have hm : IntKind.u64.wrap 4294901760 = ((4294901760 : Nat) : Int) := by rfl
  have ha := and_field X 16 hf
  simp only [Nat.reducePow, Nat.reduceMul] at ha
  rw [hm, andNot_u64 X 4294901760 (by omega) (by decide) ha]
  have hi : (I : Int) * 65536 = ((I * 65536 : Nat) : Int) := by omega
  rw [hi, or_u64 X (I * 65536) (by omega) (by omega)]
  have ho := or_disj X I 16 hf (by omega)
  simp only [Nat.reducePow] at ho
  rw [ho]
  omega
theorem keep_2 (x i : Int) (x1 : 0 ≤ x) (x2 : x < 18446744073709551616) (i1 : 0 ≤ i) (i2 : i ≤ 65535) (h : x / 4294967296 % 65536 = 0) : bits .or .u64 (bits .andNot .u64 x (IntKind.u64.wrap 281470681743360)) (i * 4294967296) = x + i * 4294967296 := by
  obtain ⟨X, rfl⟩ := Int.eq_ofNat_of_zero_le x1
  obtain ⟨I, rfl⟩ := Int.eq_ofNat_of_zero_le i1
  have hf : X / 2 ^ 32 % 65536 = 0 := by simp only [Nat.reducePow]; omega
  have hm : IntKind.u64.wrap 281470681743360 = ((281470681743360 : Nat) : Int) := by rfl
  have ha := and_field X 32 hf
  simp only [Nat.reducePow, Nat.reduceMul] at ha
  rw [hm, andNot_u64 X 281470681743360 (by omega) (by decide) ha]
  have hi : (I : Int) * 4294967296 = ((I * 4294967296 : Nat) : Int) := by omega
  rw [hi, or_u64 X (I * 4294967296) (by omega) (by omega)]
  have ho := or_disj X I 32 hf (by omega)
  simp only [Nat.reducePow] at ho
  rw [ho]
  omega
theorem keep_3 (x i : Int) (x1 : 0 ≤ x) (x2 : x < 18446744073709551616) (i1 : 0 ≤ i) (i2 : i ≤ 65535) (h : x / 281474976710656 % 65536 = 0) : bits .or .u64 (bits .andNot .u64 x (IntKind.u64.wrap 18446462598732840960)) (i * 281474976710656) = x + i * 281474976710656 := by
  obtain ⟨X, rfl⟩ := Int.eq_ofNat_of_zero_le x1
  obtain ⟨I, rfl⟩ := Int.eq_ofNat_of_zero_le i1
  have hf : X / 2 ^ 48 % 65536 = 0 := by simp only [Nat.reducePow]; omega
  have hm : IntKind.u64.wrap 18446462598732840960 = ((18446462598732840960 : Nat) : Int) := by rfl
  have ha := and_field X 48 hf
  simp only [Nat.reducePow, Nat.reduceMul] at ha
  rw [hm, andNot_u64 X 18446462598732840960 (by omega) (by decide) ha]
  have hi : (I : Int) * 281474976710656 = ((I * 281474976710656 : Nat) : Int) := by omega
  rw [hi, or_u64 X (I * 281474976710656) (by omega) (by omega)]
  have ho := or_disj X I 48 hf (by omega)
  simp only [Nat.reducePow] at ho
  rw [ho]
  omega
def pw (p : Nat) : Int := match p with
  | 0 => 1
  | 1 => 65536
  | 2 => 4294967296
  | _ => 281474976710656
theorem and_mask (x : Int) (h1 : 0 ≤ x) (h2 : x < 18446744073709551616) : bits .and .u64 x 65535 = x % 65536 := by
  obtain ⟨X, rfl⟩ := Int.eq_ofNat_of_zero_le h1
  have hx : X &&& 65535 < 2 ^ 64 := Nat.and_lt_two_pow _ (by decide)
  show IntKind.u64.wrap ((BitVec.ofInt 64 (X : Int) &&& BitVec.ofInt 64 ((65535 : Nat) : Int)).toNat : Int) = _
  rw [BitVec.toNat_and, ofInt_u64 X (by omega), ofInt_u64 65535 (by decide), IntKind.wrap_u64, show (65535 : Nat) = 2 ^ 16 - 1 by decide, Nat.and_two_pow_sub_one_eq_mod]
  omega
theorem imm_eq (v : Int) (p : Nat) (hp : p < 4) (v1 : 0 ≤ v) (v2 : v < 18446744073709551616) : wrap64 (bits .and .u64 (v / 2 ^ (16 * p)) 65535) = v / pw p % 65536 := by
  have hb : 0 ≤ v / pw p ∧ v / pw p < 18446744073709551616 := by
    match p, hp with
    | 0, _ => simp only [pw]; omega
    | 1, _ => simp only [pw]; omega
    | 2, _ => simp only [pw]; omega
    | 3, _ => simp only [pw]; omega
    | k + 4, h => exact absurd h (by omega)
  have e : (2 : Int) ^ (16 * p) = pw p := by
    match p, hp with
    | 0, _ => simp [pw]
    | 1, _ => simp [pw]
    | 2, _ => simp [pw]
    | 3, _ => simp [pw]
    | k + 4, h => exact absurd h (by omega)
  rw [e, and_mask _ hb.1 hb.2]
  clear e
  unfold wrap64
  omega
theorem Rg.get_set (r : Rg) (d x : Int) (h1 : 0 ≤ d) (h2 : d ≤ 30) : (r.set d x).get d = x := by
  obtain ⟨D, rfl⟩ := Int.eq_ofNat_of_zero_le h1
  rw [Rg.set_x _ _ _ (by omega), Rg.get_x _ _ (by omega)]
  simp [Rg.setX]
theorem Rg.set_set (r : Rg) (d x y : Int) (h1 : 0 ≤ d) (h2 : d ≤ 30) : (r.set d x).set d y = r.set d y := by
  obtain ⟨D, rfl⟩ := Int.eq_ofNat_of_zero_le h1
  rw [Rg.set_x _ _ _ (by omega), Rg.set_x _ _ _ (by omega), Rg.set_x _ _ _ (by omega)]
  unfold Rg.setX
  congr 1
  funext i
  by_cases e : i = D <;> simp [e]

def Rg.xs (r : Rg) : Array Value := ((List.range 31).map (fun i => Value.int .u64 (r.x i))).toArray
theorem Rg.xs_size (r : Rg) : r.xs.size = 31 := by simp [Rg.xs]
theorem Rg.xs_at (r : Rg) (i : Nat) (h : i < 31) : r.xs[i]? = some (.int .u64 (r.x i)) := by simp [Rg.xs, h]
theorem Rg.xs_arr (r : Rg) : r.arr.extract 0 31 = r.xs := by
  apply Array.ext_getElem?
  intro k
  rw [Array.getElem?_extract]
  by_cases hk : k < 31
  · rw [if_pos (by rw [r.size]; omega), Nat.zero_add, r.at k hk, r.xs_at k hk]
  · rw [if_neg (by rw [r.size]; omega), Array.getElem?_eq_none (by rw [r.xs_size]; omega)]
theorem info23 : (Try.prog.info? 24).map (·.size) = some 31 := by kernel_rfl
theorem part22 (xs : Array Value) (i : Nat) (v : Value) (h : xs[i]? = some v) (w : World) : (part 23 xs i).run Try.prog w = .ok v w := by
  unfold part
  have hu : (isAgg 23).run Try.prog w = .ok false w := by
    unfold isAgg
    rw [Sem.run_bind, run_underlying Try.underlying23 w]
    rfl
  rw [Sem.run_bind, hu]
  simp [h]
theorem items22 (r : Rg) (d : Nat) (w : World) : ∀ is : List Nat, (∀ i ∈ is, i < 31) → (Op.eqItems (d + 1) 23 1 r.xs r.xs is).run Try.prog w = .ok true w
  | [], _ => by simp [Op.eqItems]
  | i :: is, h => by
    have hi := r.xs_at i (h i (by simp))
    simp only [Op.eqItems, Sem.run_bind, Nat.mul_one, part22 _ _ _ hi, Result.andThen_ok, run_equalIn_int w d 23 .u64 _ _ _ Try.underlying23, beq_self_eq_true, Bool.not_true, Bool.false_eq_true, if_false]
    exact items22 r d w is (fun j hj => h j (by simp [hj]))
theorem in23 (r : Rg) (d : Nat) (w : World) : (Op.equalIn (d + 2) 24 (.agg r.xs) (.agg r.xs)).run Try.prog w = .ok true w := by
  obtain ⟨i0, hi⟩ : ∃ i, Try.prog.info? 23 = some i := by
    cases h : Try.prog.info? 23 with
    | some i => exact ⟨i, rfl⟩
    | none => have : (Try.prog.info? 23).isSome = true := by kernel_rfl
              rw [h] at this; cases this
  rw [show d + 2 = (d + 1) + 1 from rfl, run_equalIn_array w (d + 1) r.xs r.xs Try.underlying24 hi, show Try.prog.cellsOf 23 = 1 by kernel_rfl]
  exact items22 r d w _ (fun i h => by simpa using h)
theorem eql23 (r : Rg) (w : World) : (binOp .eql 24 (.agg r.xs) (.agg r.xs)).run Try.prog w = .ok (.bool true) w := by
  rw [run_eql_struct, in23 r 9998 w, Result.andThen_ok]
theorem fields25 : (Try.prog.fieldsOf 26).toList.map (fun f => (f.name, f.type, f.offset)) = [("X", 24, 0), ("SP", 23, 31), ("N", 4, 32), ("Z", 4, 33), ("C", 4, 34), ("V", 4, 35)] := by kernel_rfl
theorem part4 (xs : Array Value) (i : Nat) (v : Value) (h : xs[i]? = some v) (w : World) : (part 4 xs i).run Try.prog w = .ok v w := by
  unfold part
  have hu : (isAgg 4).run Try.prog w = .ok false w := by
    unfold isAgg
    rw [Sem.run_bind, run_underlying Try.underlying4 w]
    rfl
  rw [Sem.run_bind, hu]
  simp [h]
theorem part23 (r : Rg) (w : World) : (part 24 r.arr 0).run Try.prog w = .ok (.agg r.xs) w := by
  unfold part
  have hu : (isAgg 24).run Try.prog w = .ok true w := by
    unfold isAgg
    rw [Sem.run_bind, run_underlying Try.underlying24 w]
    rfl
  have hs : (sizeOf 24).run Try.prog w = .ok 31 w := by
    have h23 := info23
    unfold sizeOf typeInfo
    cases hq : Try.prog.info? 24 with
    | none => rw [hq] at h23; cases h23
    | some i => rw [hq] at h23; simp at h23; simp [Sem.run_bind, hq, h23]
  rw [Sem.run_bind, hu]
  simp [r.xs_arr]
theorem eqF (r : Rg) (d : Nat) (w : World) : ∀ fs : List Field, fs.map (fun f => (f.name, f.type, f.offset)) = [("X", 24, 0), ("SP", 23, 31), ("N", 4, 32), ("Z", 4, 33), ("C", 4, 34), ("V", 4, 35)] → (Op.eqFields (d + 2) r.arr r.arr fs).run Try.prog w = .ok true w := by
  intro fs h
  have hl : fs.length = 6 := by have := congrArg List.length h; simpa using this
  match fs, hl, h with
  | [f0, f1, f2, f3, f4, f5], _, h =>
    simp only [List.map_cons, List.map_nil, List.cons.injEq, Prod.mk.injEq] at h
    obtain ⟨⟨n0, t0, o0⟩, ⟨n1, t1, o1⟩, ⟨n2, t2, o2⟩, ⟨n3, t3, o3⟩, ⟨n4, t4, o4⟩, ⟨n5, t5, o5⟩, _⟩ := h
    simp [Op.eqFields, n0, t0, o0, n1, t1, o1, n2, t2, o2, n3, t3, o3, n4, t4, o4, n5, t5, o5, Sem.run_bind, part23, in23, part22 _ _ _ r.at31, part4 _ _ _ r.at32, part4 _ _ _ r.at33, part4 _ _ _ r.at34, part4 _ _ _ r.at35, run_equalIn_int w (d + 1) 23 .u64 _ _ _ Try.underlying23, run_equalIn_bool w (d + 1) 4 _ _ Try.underlying4]
theorem eql25 (r : Rg) (w : World) : (binOp .eql 26 (.agg r.arr) (.agg r.arr)).run Try.prog w = .ok (.bool true) w := by
  rw [run_eql_struct, run_equalIn_agg w 9999 26 r.arr r.arr (by kernel_rfl) (by kernel_rfl), eqF r 9997 w _ fields25, Result.andThen_ok]
end Go.Proofs.Ytnbpgoacooddjaa
