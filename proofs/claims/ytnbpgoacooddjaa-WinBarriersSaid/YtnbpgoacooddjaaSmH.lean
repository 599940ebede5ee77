import Derived.Test.YtnbpgoacooddjaaRows
import Derived.WalkKit
import Derived.ProofKit
import Derived.OpenShut
import Derived.Deep.QuietTactic
import Derived.BigQuiet
import Derived.Outline
import Derived.WalkSmall
import Derived.WalkLawsBesides
import Derived.WalkSpells
import Derived.BigGuardPart
import Derived.RegionTactic
import Derived.Deep.RegionHeld3
import Derived.Lib.Hide
import Derived.Deep.MidRow
import Derived.Below
import Derived.Deep.RegionWith
import Derived.Test.YtnbpgoacooddjaaSmC
import Derived.Test.YtnbpgoacooddjaaSmG
import Derived.Laws.BitsAllLaws
import Derived.Laws.BitsLemmas
namespace Go.Proofs.Ytnbpgoacooddjaa
open Go.ChangeShapes Go.WideShapes Go.ChangeAt Go.RowKit
set_option linter.unusedVariables false


theorem ret_bool' {a b : Bool} (h : a = b) : Ending.returned (.bool a) = .returned (.bool b) := by rw [h]
def negB (x : Int) : Bool := decide (9223372036854775808 ≤ x)
theorem neg_c (a : Int) (w : World) (h : 0 ≤ a) (h' : a < 18446744073709551616) : Calls Try.prog 253 #[.int .u64 a] w fun e w' => e = .returned (.bool (negB a)) ∧ w = w' := by
  go_enter Try.func253, Try.ntmps253
  go_wp2
  go_ret
  exact ⟨ret_bool' (by unfold negB; rw [Bool.eq_iff_iff]; simp; omega), rfl⟩
def sA (a b i : Int) : Int := (a + b + i) % 18446744073709551616
theorem sA_range (a b i : Int) : 0 ≤ sA a b i ∧ sA a b i < 18446744073709551616 := by unfold sA; omega
def cA (a b i : Int) : Bool := decide (18446744073709551616 ≤ a + b + i)
def vA (a b i : Int) : Bool := (negB a == negB b) && (negB a != negB (sA a b i))
def addS (a b i : Int) : Value := .tuple #[.int .u64 (sA a b i), .bool (negB (sA a b i)), .bool (sA a b i == 0), .bool (cA a b i), .bool (vA a b i)]
theorem c_two (a b : Int) (hx : 0 ≤ a) (hx' : a < 18446744073709551616) (hy : 0 ≤ b) (hy' : b < 18446744073709551616) : (decide (sA a b 0 < a) || (sA a b 1 == 0)) = cA a b 1 := by
  unfold sA cA; rw [Bool.eq_iff_iff]; simp; omega
theorem add1_c (a b : Int) (w : World) (hx : 0 ≤ a) (hx' : a < 18446744073709551616) (hy : 0 ≤ b) (hy' : b < 18446744073709551616) : Calls Try.prog 217 #[.int .u64 a, .int .u64 b, .bool true] w fun e w' => e = .returned (addS a b 1) ∧ w = w' := by
  have hs : IntKind.u64.wrap (a + b) = sA a b 0 := by rw [IntKind.wrap_u64]; unfold sA; rw [Int.add_zero]
  have hs1 : IntKind.u64.wrap (sA a b 0 + 1) = sA a b 1 := by rw [IntKind.wrap_u64]; unfold sA; omega
  have hr := sA_range a b 0
  have hr1 := sA_range a b 1
  have HC := Lib.hid (c_two a b hx hx' hy hy')
  rcases hA : negB a <;> rcases hB : negB b <;> rcases hc : decide (sA a b 0 < a)
  all_goals
    go_enter Try.func217, Try.ntmps217
    go_wp2_with (go_at_call 253; refine (neg_c _ _ (by omega) (by omega)).mono ?_; rintro e w' ⟨rfl, rfl⟩)
    refine bodyPost_ret (v := addS a b 1) (by
      simp [results, Try.results217, go_sem, addS, ← HC.out, vA, hA, hB, hc]) rfl ⟨rfl, rfl⟩
theorem rowAt_heap {w : World} {b : Nat} {C : Array Value} (h : rowAt w b = some C) : ∃ t, w.heap[b]? = some (.cells C t (0, 0)) := by
  unfold rowAt at h
  split at h
  · rename_i C' t hh
    injection h with h
    subst h
    exact ⟨t, hh⟩
  · cases h
theorem rowAt_of {w : World} {b : Nat} {C : Array Value} {t : TypeId} (h : w.heap[b]? = some (.cells C t (0, 0))) : rowAt w b = some C := by unfold rowAt; rw [h]; rfl
theorem rowAt_past {w : World} {b : Nat} {C : Array Value} (h : rowAt w b = some C) (o : Obj) : rowAt (w.alloc o) b = some C := by
  obtain ⟨t, ht⟩ := rowAt_heap h
  exact rowAt_of ((heap_alloc_old w o (rowAt_lt h)).trans ht)
theorem rowAt_grown {w w' : World} {b g : Nat} {C : Array Value} (h : rowAt w b = some C) (hg : w.grownBy w' (some g)) (hne : b ≠ g) : rowAt w' b = some C := by
  obtain ⟨t, ht⟩ := rowAt_heap h
  exact rowAt_of ((hg.block b (rowAt_lt h) (fun e => hne (by injection e))).trans ht)
theorem wpl_store {P : Program} {ops : Array Oper} {rest : List Oper} {o : Oper} {a : Act} {w : World} {Q : Exit → Act → World → Prop} (hgd : o.guard = none) (ty : TypeId) (x y : Operand) (ho : o.op = .store ty x y)
    (g : Nat) (cells old : Array Value) (hx : a.eval x = .pointer (some ⟨g, 0, none⟩)) (hy : a.eval y = .agg cells) (hg : rowAt w g = some old) (hi : (P.info? ty).map (·.size) = some cells.size)
    (hold : old.size = cells.size) (h1 : cells.all (·.oneCell') = true)
    (h : ∀ w', rowAt w' g = some cells → w.grownBy w' (some g) → wpList P ops Q rest (a.put o.dst undef) w') : wpList P ops Q (o :: rest) a w := by
  obtain ⟨t, ht⟩ := rowAt_heap hg
  refine wpList_store_row hgd ty x y ho g cells hx hy t old ht hi hold h1 (h _ (rowAt_of (setRow_heap _ _ _ _ _ _ ht)) ⟨rfl, rfl, rfl, by simp, fun k hk hne => setRow_other _ _ _ _ (fun e => hne (by rw [e]))⟩)
theorem grown_below {a w w' : World} {g : Nat} (h : Below a.heap.size a w) (hg : w.grownBy w' (some g)) (hlt : a.heap.size ≤ g) : Below a.heap.size a w' :=
  h.grown hg h.size (fun q hq => by injection hq with hq; omega)
theorem rowAt_set {w : World} {b : Nat} {C : Array Value} (h : rowAt w b = some C) (k : Nat) (v : Value) : rowAt (w.setCell ⟨b, k, none⟩ v) b = some (C.setIfInBounds k v) := by
  obtain ⟨t, ht⟩ := rowAt_heap h
  rw [setCell_eq_setRow w b k C t _ v ht]
  exact rowAt_of (setRow_heap _ _ _ _ _ _ ht)
theorem rowAt_set_far {w : World} {b g : Nat} {C : Array Value} (h : rowAt w b = some C) (hne : b ≠ g) (k : Nat) (v : Value) : rowAt (w.setCell ⟨g, k, none⟩ v) b = some C := by
  obtain ⟨t, ht⟩ := rowAt_heap h
  exact rowAt_of ((Below.heap_setCell _ _ _ _ hne).trans ht)
theorem reg_all {w : World} {b : Nat} {r : Rg} (h : rowAt w b = some r.arr) : (Instr.loadAt 26 (.pointer (some ⟨b, 0, none⟩))).run Try.prog w = .ok (.agg r.arr) w := by
  rw [load25 b 0 w _ h (by rw [r.size]; omega), Nat.zero_add]
  have hs := r.size
  rw [← hs]
  simp
/-- The registers with flags. -/
def Rg.flags (r : Rg) (n z c v : Bool) : Rg := { r with n := n, z := z, c := c, v := v }
theorem Rg.flags_arr (r : Rg) (n z c v : Bool) : (((r.arr.setIfInBounds 32 (.bool n)).setIfInBounds 33 (.bool z)).setIfInBounds 34 (.bool c)).setIfInBounds 35 (.bool v) = (r.flags n z c v).arr := by
  apply Array.ext_getElem?
  intro i
  simp only [Array.getElem?_setIfInBounds, Array.size_setIfInBounds, r.size]
  rcases Nat.lt_or_ge i 31 with hi | hi
  · rw [Rg.at _ i hi, Rg.at _ i hi]
    simp [show ¬ 35 = i by omega, show ¬ 34 = i by omega, show ¬ 33 = i by omega, show ¬ 32 = i by omega, Rg.flags]
  · obtain ⟨j, rfl⟩ : ∃ j, i = 31 + j := ⟨i - 31, by omega⟩
    match j with
    | 0 => simp [Rg.at31, Rg.flags]
    | 1 => simp [Rg.at32, Rg.flags]
    | 2 => simp [Rg.at33, Rg.flags]
    | 3 => simp [Rg.at34, Rg.flags]
    | 4 => simp [Rg.at35, Rg.flags]
    | k + 5 =>
      rw [Array.getElem?_eq_none (by rw [r.size]; omega), Array.getElem?_eq_none (by rw [Rg.size]; omega)]
      simp [show ¬ 35 = 31 + (k + 5) by omega, show ¬ 34 = 31 + (k + 5) by omega, show ¬ 33 = 31 + (k + 5) by omega, show ¬ 32 = 31 + (k + 5) by omega]
theorem ofInt_u64 (a : Nat) (ha : a < 18446744073709551616) : (BitVec.ofInt 64 (a : Int)).toNat = a := by
  rw [BitVec.ofInt_natCast, BitVec.toNat_ofNat]; exact Nat.mod_eq_of_lt (by omega)
theorem xor_max (b : Int) (h : 0 ≤ b) (h' : b < 18446744073709551616) : bits .xor .u64 IntKind.u64.max b = 18446744073709551615 - b := by
  obtain ⟨B, rfl⟩ := Int.eq_ofNat_of_zero_le h
  have hB : (BitVec.ofInt 64 (B : Int)).toNat = B := ofInt_u64 B (by omega)
  have hm : BitVec.ofInt 64 IntKind.u64.max = BitVec.allOnes 64 := by decide
  show IntKind.u64.wrap ((BitVec.ofInt 64 IntKind.u64.max ^^^ BitVec.ofInt 64 (B : Int)).toNat : Int) = _
  rw [hm, BitVec.allOnes_xor, BitVec.toNat_not, hB, IntKind.wrap_u64]
  omega
def notU (v : Int) : Int := 18446744073709551615 - v
attribute [local go_sem ↓] ld76 ld25 ld38
attribute [local go_sem] rowAt_drew rowAt_drewN
set_option maxRecDepth 100000 in
set_option maxHeartbeats 2000000 in
theorem subtract_g (o d n m a c i pc v : Int) (r : Rg) (su : Int) (fn fz fc fv : Bool) (w : World) (h31 : (n == 31) = false) (v1 : 0 ≤ v) (v2 : v < 18446744073709551616) (x1 : 0 ≤ r.get n) (x2 : r.get n < 18446744073709551616) (HA1 : Hid (addS (r.get n) (notU v) 1 = .tuple #[.int .u64 su, .bool fn, .bool fz, .bool fc, .bool fv])) :
    Calls Try.prog 194 #[.agg (coA #[.int .i64 o, .int .i64 d, .int .i64 n, .int .i64 m, .int .i64 a, .int .i64 c, .int .i64 i] pc r), .int .u64 v] w fun e w' => e = .returned (.agg (((r.flags fn fz fc fv).set d su).arr)) ∧ Below w.heap.size w w' := by
  have H1 := fun w => Lib.hid (first_c o d n m a c i pc r w h31)
  have hc1 := coA_lo (i := #[.int .i64 o, .int .i64 d, .int .i64 n, .int .i64 m, .int .i64 a, .int .i64 c, .int .i64 i]) rfl pc r 1 (by omega)
  have HA := Lib.hid (coA_all (i := #[.int .i64 o, .int .i64 d, .int .i64 n, .int .i64 m, .int .i64 a, .int .i64 c, .int .i64 i]) rfl pc r)
  have HS := Lib.hid (coA_size (i := #[.int .i64 o, .int .i64 d, .int .i64 n, .int .i64 m, .int .i64 a, .int .i64 c, .int .i64 i]) rfl pc r)
  have HL := Lib.hid (fun w b => core_regs (w := w) (b := b) (i := #[.int .i64 o, .int .i64 d, .int .i64 n, .int .i64 m, .int .i64 a, .int .i64 c, .int .i64 i]) rfl (pc := pc) (r := r))
  have HM := Lib.hid (fun w b => core_all (w := w) (b := b) (i := #[.int .i64 o, .int .i64 d, .int .i64 n, .int .i64 m, .int .i64 a, .int .i64 c, .int .i64 i]) rfl (pc := pc) (r := r))
  simp only [List.getElem?_toArray, List.getElem?_cons_zero, List.getElem?_cons_succ] at hc1
  generalize hC : coA #[.int .i64 o, .int .i64 d, .int .i64 n, .int .i64 m, .int .i64 a, .int .i64 c, .int .i64 i] pc r = C at *
  have HB := Lib.hid (rowAt_new w C 257)
  clear hC
  have HB2 := Lib.hid (rowAt_past HB.out (.cells z36 26))
  have HB3 := Lib.hid (rowAt_past HB2.out (.cells z36 26))
  have HZ : Hid (rowAt (((w.alloc (.cells C 257)).alloc (.cells z36 26)).alloc (.cells z36 26)) (w.heap.size + 2) = some z36) := Lib.hid (by have := rowAt_new ((w.alloc (.cells C 257)).alloc (.cells z36 26)) z36 26; simpa using this)
  have HZ4 : Hid (rowAt (((w.alloc (.cells C 257)).alloc (.cells z36 26)).alloc (.cells z36 26)) (w.heap.size + 1) = some z36) := Lib.hid (by have := rowAt_past (rowAt_new (w.alloc (.cells C 257)) z36 26) (.cells z36 26); simpa using this)
  have HBB : Hid (Below w.heap.size w (((w.alloc (.cells C 257)).alloc (.cells z36 26)).alloc (.cells z36 26))) := Lib.hid ((((Below.refl _ _).alloc (Nat.le_refl _) _).alloc (by simp) _).alloc (by simp; omega) _)
  go_enter Try.func194, Try.ntmps194
  go_wp2_with (first | (refine wpl_load rfl 26 _ rfl w.heap.size 8 rfl r.arr (HL.out _ _ HB2.out) ?_) | (refine wpl_store rfl 26 _ _ rfl (w.heap.size + 2) r.arr z36 rfl rfl HZ.out (by rw [Rg.size]; exact info25) (by rw [Rg.size]; rfl) (Rg.one _) ?_; intro w2 hrow2 hg2; have HR2 := Lib.hid hrow2; have HC2 := Lib.hid (rowAt_grown HB3.out hg2 (by omega)); have HZ2 := Lib.hid (rowAt_grown HZ4.out hg2 (by omega)); have HBB2 := Lib.hid (grown_below HBB.out hg2 (by omega)); clear hrow2 hg2) | (refine wpl_load rfl 257 _ rfl w.heap.size 0 rfl C (HM.out _ _ HC2.out) ?_) | (go_at_call 213; refine ((H1 _).out).mono ?_; rintro e w3 ⟨rfl, hb3⟩; have HR3 := Lib.hid (rowAt_below HR2.out hb3 rfl); have HC3 := Lib.hid (rowAt_below HC2.out hb3 rfl); have HZ3 := Lib.hid (rowAt_below HZ2.out hb3 rfl); have HBB3 := Lib.hid (HBB2.out.trans (hb3.mono HBB2.out.size)); clear hb3))
  rw [show bits .xor .u64 IntKind.u64.max v = notU v from xor_max v v1 v2]
  refine (add1_c (r.get n) (notU v) _ x1 x2 (by unfold notU; omega) (by unfold notU; omega)).mono ?_
  rintro e w' ⟨rfl, rfl⟩
  rw [HA1.out]
  have e2 := (rowAt_cell HR3.out 32).trans r.at32
  have e3 := (rowAt_cell HR3.out 33).trans r.at33
  have e4 := (rowAt_cell HR3.out 34).trans r.at34
  have e5 := (rowAt_cell HR3.out 35).trans r.at35
  have q2 := rowAt_frz HR3.out 32
  have q3 := rowAt_frz HR3.out 33
  have q4 := rowAt_frz HR3.out 34
  have q5 := rowAt_frz HR3.out 35
  obtain ⟨g, hg⟩ : ∃ g, g = w.heap.size + 2 := ⟨_, rfl⟩
  have hg' : w.heap.size + 1 + 1 = g := by omega
  rw [hg']
  rw [← hg] at e2 e3 e4 e5 q2 q3 q4 q5 HR3
  have HF : Hid (rowAt ((((w3.setCell ⟨g, 32, none⟩ (.bool fn)).setCell ⟨g, 33, none⟩ (.bool fz)).setCell ⟨g, 34, none⟩ (.bool fc)).setCell ⟨g, 35, none⟩ (.bool fv)) g = some (r.flags fn fz fc fv).arr) := Lib.hid (by rw [← r.flags_arr]; exact rowAt_set (rowAt_set (rowAt_set (rowAt_set HR3.out _ _) _ _) _ _) _ _)
  have hgb : w.heap.size ≠ g := by omega
  have hgb4 : w.heap.size + 1 ≠ g := by omega
  have hgn : w.heap.size ≤ g := by omega
  have HCF : Hid (rowAt ((((w3.setCell ⟨g, 32, none⟩ (.bool fn)).setCell ⟨g, 33, none⟩ (.bool fz)).setCell ⟨g, 34, none⟩ (.bool fc)).setCell ⟨g, 35, none⟩ (.bool fv)) w.heap.size = some C) := Lib.hid (rowAt_set_far (rowAt_set_far (rowAt_set_far (rowAt_set_far HC3.out hgb _ _) hgb _ _) hgb _ _) hgb _ _)
  have HZF : Hid (rowAt ((((w3.setCell ⟨g, 32, none⟩ (.bool fn)).setCell ⟨g, 33, none⟩ (.bool fz)).setCell ⟨g, 34, none⟩ (.bool fc)).setCell ⟨g, 35, none⟩ (.bool fv)) (w.heap.size + 1) = some z36) := Lib.hid (rowAt_set_far (rowAt_set_far (rowAt_set_far (rowAt_set_far HZ3.out hgb4 _ _) hgb4 _ _) hgb4 _ _) hgb4 _ _)
  have HBF : Hid (Below w.heap.size w ((((w3.setCell ⟨g, 32, none⟩ (.bool fn)).setCell ⟨g, 33, none⟩ (.bool fz)).setCell ⟨g, 34, none⟩ (.bool fc)).setCell ⟨g, 35, none⟩ (.bool fv))) := Lib.hid ((((HBB3.out.setCell (p := ⟨g, _, none⟩) hgn _).setCell (p := ⟨g, _, none⟩) hgn _).setCell (p := ⟨g, _, none⟩) hgn _).setCell (p := ⟨g, _, none⟩) hgn _)
  have hd := (rowAt_cell HCF.out 1).trans hc1
  clear hg hg' HR3 HC3 HZ3 HBB3
  go_wp2_with fail
  generalize ((((w3.setCell ⟨g, 32, none⟩ (.bool fn)).setCell ⟨g, 33, none⟩ (.bool fz)).setCell ⟨g, 34, none⟩ (.bool fc)).setCell ⟨g, 35, none⟩ (.bool fv)) = w4 at *
  have hl : (ldAt 26 (.pointer (some ⟨g, 0, none⟩))).run Try.prog w4 = .ok (.agg (r.flags fn fz fc fv).arr) w4 := reg_all HF.out
  clear e2 e3 e4 e5 q2 q3 q4 q5
  rw [hl]
  simp only [Result.andThen_ok]
  clear hl
  go_wp2_with (first | (go_at_call 187; refine (set13 (r.flags fn fz fc fv) d su _).mono ?_; rintro e w5 ⟨rfl, hb5⟩; have HZ5 := Lib.hid (rowAt_below HZF.out hb5 rfl); have HB5 := Lib.hid (HBF.out.trans (hb5.mono HBF.out.size)); clear hb5) | (refine wpl_store rfl 26 _ _ rfl (w.heap.size + 1) ((r.flags fn fz fc fv).set d su).arr z36 rfl rfl HZ5.out (by rw [Rg.size]; exact info25) (by rw [Rg.size]; rfl) (Rg.one _) ?_; intro w6 hrow6 hg6; have HR6 := Lib.hid hrow6; have HB6 := Lib.hid (grown_below HB5.out hg6 (by omega)); clear hrow6 hg6))
  obtain ⟨t6, ht6⟩ := rowAt_heap HR6.out
  refine bodyPost_ret (results_cell_row rfl _ _ (w.heap.size + 1) t6 ((r.flags fn fz fc fv).set d su).arr (0, 0) _ rfl ht6 Try.underlying26 rfl (by rw [Rg.size]; exact info25)) rfl ⟨rfl, HB6.out⟩
/-- The registers behind a subtraction. -/
def Rg.less (r : Rg) (x v d : Int) : Rg := (r.flags (negB (sA x (notU v) 1)) (sA x (notU v) 1 == 0) (cA x (notU v) 1) (vA x (notU v) 1)).set d (sA x (notU v) 1)
theorem subtract_c (o d n m a c i pc v : Int) (r : Rg) (w : World) (h31 : (n == 31) = false) (v1 : 0 ≤ v) (v2 : v < 18446744073709551616) (x1 : 0 ≤ r.get n) (x2 : r.get n < 18446744073709551616) :
    Calls Try.prog 194 #[.agg (coA #[.int .i64 o, .int .i64 d, .int .i64 n, .int .i64 m, .int .i64 a, .int .i64 c, .int .i64 i] pc r), .int .u64 v] w fun e w' => e = .returned (.agg (r.less (r.get n) v d).arr) ∧ Below w.heap.size w w' :=
  subtract_g o d n m a c i pc v r _ _ _ _ _ w h31 v1 v2 x1 x2 (Lib.hid rfl)
end Go.Proofs.Ytnbpgoacooddjaa
