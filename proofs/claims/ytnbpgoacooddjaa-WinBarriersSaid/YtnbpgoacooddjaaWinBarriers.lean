/- WinBarriers (P902): nothing of memory behind a DMB of all, a DSB or an ISB that is not done may be done, and nothing at all behind an ISB: the law returns true, with no condition on the arguments. -/
import Derived.Test.YtnbpgoacooddjaaWs
import Derived.Test.YtnbpgoacooddjaaRows
import Derived.WalkKit
import Derived.ProofKit
import Derived.OpenShut
import Derived.ShutString
import Derived.ChangeOld
import Derived.Below
import Derived.ChangeSame
import Derived.Lib.Hide
import Derived.SizedLaws
import Derived.Deep.Slices
import Derived.Test.YtnbpgoacooddjaaWn
namespace Go.Proofs.Ytnbpgoacooddjaa
open Go.ChangeShapes Go.WideShapes Go.ChangeAt Go.RowKit
set_option linter.unusedVariables false
attribute [local go_sem] rowAt_drew rowAt_drewN
/-- The cells of a window, in order. -/
def rowsL (F : Nat → WI) : Nat → List Value
  | 0 => []
  | m + 1 => rowsL F m ++ (F m).arr.toList
theorem rowsL_len (F : Nat → WI) : ∀ m, (rowsL F m).length = m * 46 := by
  intro m
  induction m with
  | zero => rfl
  | succ m ih =>
    unfold rowsL
    rw [List.length_append, ih, Array.length_toList, WI.size]
    omega
theorem rowsL_at (F : Nat → WI) (j k : Nat) (hk : k < 46) : ∀ m, j < m → (rowsL F m)[j * 46 + k]? = (F j).arr[k]? := by
  intro m
  induction m with
  | zero => intro h; omega
  | succ m ih =>
    intro h
    unfold rowsL
    rcases Nat.lt_or_ge j m with hj | hj
    · rw [List.getElem?_append_left (by rw [rowsL_len]; omega)]
      exact ih hj
    · obtain rfl : j = m := by omega
      rw [List.getElem?_append_right (by rw [rowsL_len]; omega), rowsL_len, Nat.add_sub_cancel_left, Array.getElem?_toList]
theorem rowsL_congr (F G : Nat → WI) : ∀ m, (∀ j, j < m → F j = G j) → rowsL F m = rowsL G m := by
  intro m
  induction m with
  | zero => intro _; rfl
  | succ m ih =>
    intro h
    unfold rowsL
    rw [ih fun j hj => h j (by omega), h m (by omega)]
def catF (F : Nat → WI) (n : Nat) (G : Nat → WI) : Nat → WI := fun j => if j < n then F j else G (j - n)
theorem rowsL_cat (F G : Nat → WI) (n : Nat) : ∀ m, rowsL F n ++ rowsL G m = rowsL (catF F n G) (n + m) := by
  intro m
  induction m with
  | zero =>
    simp only [rowsL, List.append_nil, Nat.add_zero]
    exact rowsL_congr _ _ _ fun j hj => by unfold catF; rw [if_pos hj]
  | succ m ih =>
    rw [← Nat.add_assoc]
    simp only [rowsL]
    rw [← List.append_assoc, ih]
    have : catF F n G (n + m) = G m := by
      unfold catF
      rw [if_neg (by omega), Nat.add_sub_cancel_left]
    rw [this]
theorem rowsL_one (F : Nat → WI) (m : Nat) : ∀ u ∈ rowsL F m, u.oneCell' = true := by
  induction m with
  | zero => intro u hu; cases hu
  | succ m ih =>
    intro u hu
    unfold rowsL at hu
    rcases List.mem_append.1 hu with h | h
    · exact ih u h
    · exact Array.all_eq_true_iff_forall_mem.1 (WI.ones (F m)) u (Array.mem_toList_iff.1 h)
theorem WnC.rows {w : World} {b off n : Nat} {F : Nat → WI} (h : WnC w b off n F) : ∀ p u, (rowsL F n)[p]? = some u → w.cell? ((⟨b, off, none⟩ : Addr).add p) = some u := by
  intro p u hu
  have hp : p < n * 46 := by
    have := (List.getElem?_eq_some_iff.1 hu).1
    rwa [rowsL_len] at this
  have he : p = p / 46 * 46 + p % 46 := by omega
  have hj : p / 46 < n := by omega
  have hk : p % 46 < 46 := Nat.mod_lt _ (by decide)
  rw [he, rowsL_at F _ _ hk n hj] at hu
  have := h.2 _ hj _ _ hu
  rw [Go.WideShapes.add_plain, he, ← Nat.add_assoc]
  exact this
theorem wnC_of_rows {w : World} {g n : Nat} {F : Nat → WI} (hg : g < w.heap.size) (h : ∀ p u, (rowsL F n)[p]? = some u → w.cell? ⟨g, p, none⟩ = some u) : WnC w g 0 n F := by
  refine ⟨hg, fun j hj k v hv => ?_⟩
  have hk : k < 46 := by
    have := (Array.getElem?_eq_some_iff.1 hv).1
    rwa [WI.size] at this
  rw [Nat.zero_add]
  exact h _ _ ((rowsL_at F j k hk n hj).trans hv)
theorem app_none46 {P : Program} (w : World) (base : Nat) (t ty e : TypeId) (i : TypeInfo) (size : Nat) (ht : P.underlying t = some (.slice e)) (hi : P.info? e = some i)
    (v : Value) (n : Nat) (xs : List Value) (hown : w.ownsRow base e size v n xs) (c : Nat) : (Builtin.append_ #[t, t] ty #[v, .slice none 0 c]).run P w = .ok v w := by
  rcases hown.2 with ⟨rfl, rfl⟩ | ⟨g, cap, cur, rfl, _, _, hnc, _⟩
  · simp [Builtin.append_, run_underlying ht, sizeOf, typeInfo, hi, Builtin.lenOf, Builtin.firstCells]
  · simp [Builtin.append_, run_underlying ht, sizeOf, typeInfo, hi, Builtin.lenOf, Builtin.firstCells, hnc, storeCells]
theorem info31z : (Try.prog.info? 31).map (fun i => (i.zero, i.size, i.bytes)) = some (some (.agg #[.int .u64 0, .int .i64 0, .int .i64 0, .int .i64 0, .int .i64 0, .int .i64 0, .int .i64 0, .int .i64 0, .int .u64 0, .bool false, .int .u64 0, .int .u64 0, .int .u64 0, .int .u64 0, .int .u64 0, .int .u64 0, .int .u64 0, .int .u64 0, .int .u64 0, .int .u64 0, .int .u64 0, .int .u64 0, .int .u64 0, .int .u64 0, .int .u64 0, .int .u64 0, .int .u64 0, .int .u64 0, .int .u64 0, .int .u64 0, .int .u64 0, .int .u64 0, .int .u64 0, .int .u64 0, .int .u64 0, .int .u64 0, .int .u64 0, .int .u64 0, .int .u64 0, .int .u64 0, .int .u64 0, .int .u64 0, .bool false, .bool false, .bool false, .bool false]), 46, 344) := by kernel_rfl
/-- An append of a window to a row of one's own. -/
theorem wpl_append {w : World} {ops : Array Oper} {rest : List Oper} {o : Oper} {a : Act} {Q : Exit → Act → World → Prop} (hgd : o.guard = none) (s x : Operand)
    (ho : o.op = .call { callee := .builtin .append, args := #[s, x], argTypes := #[22, 22] })
    (base : Nat) (v : Value) (n : Nat) (xs : List Value) (hs : a.eval s = v) (hown : w.ownsRow base 31 46 v n xs)
    (ad : Option Addr) (m c : Nat) (G : Nat → WI) (hx : a.eval x = .slice ad m c) (hG : SrcW w ad m G) (hnm : n + m ≤ 100) (hbase : base ≤ w.heap.size)
    (h : ∀ v' w', w'.ownsRow base 31 46 v' (n + m) (xs ++ rowsL G m) → w.grownBy w' v.ownBlock → wpList Try.prog ops Q rest (a.put o.dst v') w') : wpList Try.prog ops Q (o :: rest) a w := by
  have hb := info31z
  cases hi : Try.prog.info? 31 with
  | none => rw [hi] at hb; cases hb
  | some i =>
    rw [hi] at hb
    simp only [Option.map_some, Option.some.injEq, Prod.mk.injEq] at hb
    obtain ⟨hz0, hz1, hz2⟩ := hb
    have key : ∃ v' w', (Builtin.append_ #[22, 22] o.type #[v, .slice ad m c]).run Try.prog w = .ok v' w' ∧ w'.ownsRow base 31 46 v' (n + m) (xs ++ rowsL G m) ∧ w.grownBy w' v.ownBlock := by
      cases ad with
      | none =>
        obtain rfl : m = 0 := by
          rcases hG with h | ⟨b, off, h, _⟩
          · exact h
          · cases h
        exact ⟨v, w, app_none46 w base 22 o.type 31 i 46 Try.underlying22 hi v n xs hown c, by simpa [rowsL] using hown, World.grownBy.refl w _⟩
      | some ad =>
        have hnews : ∀ j u, (rowsL G m)[j]? = some u → w.cell? (ad.add j) = some u := by
          rcases hG with h | ⟨b, off, h, hw⟩
          · subst h; intro j u hu; cases hu
          · injection h with h
            subst h
            exact hw.rows
        obtain ⟨v', w', hr, h2, h3, _, _⟩ := run_append_own_at (P := Try.prog) w base 22 o.type 31 i _ 46 344 Try.underlying22 hi hz0 hz1 hz2 rfl (by decide) v n xs hown ad m c (rowsL G m) (rowsL_len G m) hnews (rowsL_one G m) (by unfold maxLen; omega) (by omega) hbase
        exact ⟨v', w', hr, h2, h3⟩
    obtain ⟨v', w', hr, h2, h3⟩ := key
    refine wpList_plain hgd fun K hK => ?_
    unfold Oper.wp execOp
    simp only [ho, resolve, invoke, builtin, Sem.run_bind, Sem.run_pure, Result.andThen_ok, List.map_toArray, List.map_cons, List.map_nil, hs, hx, hr]
    exact hK _ _ (h v' w' h2 h3)
def KI (o : Int) : WI := ⟨0, o, 0, 0, 0, 0, 0, 0, 0, false, ⟨fun _ => 0, 0, false, false, false, false⟩⟩
theorem KI_within (o : Int) : (KI o).r.within := ⟨fun _ _ => ⟨Int.le_refl 0, (by decide : (0 : Int) < 18446744073709551616)⟩, (by decide : (0 : Int) ≤ 0), (by decide : (0 : Int) < 18446744073709551616)⟩
theorem KI37 : (KI 37).arr = #[.int .u64 0, .int .i64 37, .int .i64 0, .int .i64 0, .int .i64 0, .int .i64 0, .int .i64 0, .int .i64 0, .int .u64 0, .bool false, .int .u64 0, .int .u64 0, .int .u64 0, .int .u64 0, .int .u64 0, .int .u64 0, .int .u64 0, .int .u64 0, .int .u64 0, .int .u64 0, .int .u64 0, .int .u64 0, .int .u64 0, .int .u64 0, .int .u64 0, .int .u64 0, .int .u64 0, .int .u64 0, .int .u64 0, .int .u64 0, .int .u64 0, .int .u64 0, .int .u64 0, .int .u64 0, .int .u64 0, .int .u64 0, .int .u64 0, .int .u64 0, .int .u64 0, .int .u64 0, .int .u64 0, .int .u64 0, .bool false, .bool false, .bool false, .bool false] := by kernel_rfl
theorem KI38 : (KI 38).arr = #[.int .u64 0, .int .i64 38, .int .i64 0, .int .i64 0, .int .i64 0, .int .i64 0, .int .i64 0, .int .i64 0, .int .u64 0, .bool false, .int .u64 0, .int .u64 0, .int .u64 0, .int .u64 0, .int .u64 0, .int .u64 0, .int .u64 0, .int .u64 0, .int .u64 0, .int .u64 0, .int .u64 0, .int .u64 0, .int .u64 0, .int .u64 0, .int .u64 0, .int .u64 0, .int .u64 0, .int .u64 0, .int .u64 0, .int .u64 0, .int .u64 0, .int .u64 0, .int .u64 0, .int .u64 0, .int .u64 0, .int .u64 0, .int .u64 0, .int .u64 0, .int .u64 0, .int .u64 0, .int .u64 0, .int .u64 0, .bool false, .bool false, .bool false, .bool false] := by kernel_rfl
theorem KI39 : (KI 39).arr = #[.int .u64 0, .int .i64 39, .int .i64 0, .int .i64 0, .int .i64 0, .int .i64 0, .int .i64 0, .int .i64 0, .int .u64 0, .bool false, .int .u64 0, .int .u64 0, .int .u64 0, .int .u64 0, .int .u64 0, .int .u64 0, .int .u64 0, .int .u64 0, .int .u64 0, .int .u64 0, .int .u64 0, .int .u64 0, .int .u64 0, .int .u64 0, .int .u64 0, .int .u64 0, .int .u64 0, .int .u64 0, .int .u64 0, .int .u64 0, .int .u64 0, .int .u64 0, .int .u64 0, .int .u64 0, .int .u64 0, .int .u64 0, .int .u64 0, .int .u64 0, .int .u64 0, .int .u64 0, .int .u64 0, .int .u64 0, .bool false, .bool false, .bool false, .bool false] := by kernel_rfl
theorem wnC_one {W : World} {b : Nat} {I : WI} (h : rowAt W b = some I.arr) : WnC W b 0 1 (fun _ => I) := by
  refine ⟨rowAt_lt h, fun j hj k v hv => ?_⟩
  obtain rfl : j = 0 := by omega
  simp only [Nat.zero_mul, Nat.zero_add]
  rw [rowAt_cell h]
  exact hv
theorem below_row46 {w w' : World} {B n : Nat} {v : Value} {xs : List Value} (ho : w.ownsRow B 31 46 v n xs) (hB : B ≤ w.heap.size) (h : w.grownBy w' v.ownBlock) : Below B w w' := by
  rcases ho.2 with ⟨rfl, _⟩ | ⟨g, cap, cur, rfl, hb, _⟩
  · exact ⟨h.os, h.tape, h.output, h.size, fun k hk => h.block k (by omega) (by simp [Value.ownBlock])⟩
  · exact ⟨h.os, h.tape, h.output, h.size, fun k hk => h.block k (by omega) (by simp [Value.ownBlock]; omega)⟩
theorem own_win {w : World} {B n : Nat} {v : Value} {H : Nat → WI} (h : w.ownsRow B 31 46 v n (rowsL H n)) (hn : 0 < n) : ∃ g cap, v = .slice (some ⟨g, 0, none⟩) n cap ∧ B ≤ g ∧ n ≤ cap ∧ WnC w g 0 n H := by
  obtain ⟨g, cap, rfl, hg, hgl⟩ := h.form hn
  rcases h.2 with ⟨h0, _⟩ | ⟨g', cap', cur, hv, hb, hg', hc, hm, hs, ht⟩
  · cases h0
  · injection hv with e1 e2 e3
    injection e1 with e1
    injection e1 with e1
    subst e1 e3
    refine ⟨g, cap, rfl, hg, hc, wnC_of_rows hgl fun p u hu => ?_⟩
    have hr : rowAt w g = some cur := by
      unfold rowAt
      rw [hg']
      rfl
    rw [rowAt_cell hr, ← Array.getElem?_toList]
    rw [← ht, List.getElem?_take] at hu
    split at hu
    · exact hu
    · cases hu
theorem ld26b (v : Value) : Instr.loadAt 26 v = ldAt 26 v := rfl
attribute [local go_sem ↓] ld26b
set_option maxRecDepth 100000 in
set_option maxHeartbeats 80000000 in
theorem barriers_walk (F G : Nat → WI) (base : Rg) (a1 a2 : Option Addr) (n1 c1 n2 c2 : Nat) (kind : Int) (w : World) (H1 : Hid (SrcW w a1 n1 F)) (H2 : Hid (SrcW w a2 n2 G)) (hm1 : n1 ≤ 140737488355328) (hm2 : n2 ≤ 140737488355328) (HK : Hid KnoP) (mv : (Nat → WI) → Nat → Int)
    (HM : Hid (∀ (H : Nat → WI) (N cap : Nat), N ≤ 21 → N ≤ cap → (∀ j, (H j).r.within) → MayP H base N cap (mv H))) (hF : Hid (∀ j, (F j).r.within)) (hG : Hid (∀ j, (G j).r.within))
    (HV : Hid (∀ (H : Nat → WI) (i j : Nat), j < i → (H j).dn = false → (H j).i = 0 → ((H j).op = 39 ∨ (((H j).op = 37 ∨ (H j).op = 38) ∧ 28 ≤ (H i).op ∧ (H i).op ≤ 36)) → mv H i = 9)) :
    Calls Try.prog 4 #[.slice a1 n1 c1, .int .i64 kind, .slice a2 n2 c2, .agg base.arr] w fun e w' => e = .returned (.bool true) ∧ Below w.heap.size w w' := by
  have HB : Hid (rowAt (w.alloc (.cells base.arr 26)) w.heap.size = some base.arr) := Lib.hid (rowAt_new _ _ _)
  have HL : Hid (Below w.heap.size w (w.alloc (.cells base.arr 26))) := Lib.hid ((Below.refl _ _).alloc (Nat.le_refl _) _)
  go_enter Try.func4, Try.ntmps4
  by_cases hsum : n1 + n2 ≤ 20
  · by_cases hk : 0 ≤ kind ∧ kind ≤ 2
    · have hw : wrap64 ((n1 : Int) + n2) = (n1 : Int) + n2 := by unfold wrap64; omega
      go_upto_region 9 with (first | (go_at_call 13; refine (HK.out _).mono ?_; rintro e w2 ⟨rfl, hb2⟩; have HB2 := Lib.hid (rowAt_below HB.out hb2 rfl); have HL2 := Lib.hid (below_step HL.out hb2 rfl rfl rfl rfl); clear hb2 HB HL))
      all_goals (try (exfalso; omega))
      obtain ⟨W5, hW5⟩ : ∃ W5, w2.alloc (.cells #[.int .i64 37, .int .i64 38, .int .i64 39] 3) = W5 := ⟨_, rfl⟩
      have HB5 : Hid (rowAt W5 w.heap.size = some base.arr) := Lib.hid (by rw [← hW5]; exact rowAt_past HB2.out _)
      have HO5 : Hid (rowAt W5 w2.heap.size = some #[.int .i64 37, .int .i64 38, .int .i64 39]) := Lib.hid (by rw [← hW5]; exact rowAt_new _ _ _)
      have HL5 : Hid (Below w.heap.size w W5) := Lib.hid (by rw [← hW5]; exact HL2.out.alloc HL2.out.size _)
      rw [hW5]
      obtain ⟨ob, hob⟩ : ∃ ob, w2.heap.size = ob := ⟨_, rfl⟩
      rw [hob] at HO5
      try rw [hob]
      clear hW5 HB2 HL2 hob
      have HS1 := Lib.hid (H1.out.below HL5.out)
      have HS2 := Lib.hid (H2.out.below HL5.out)
      go_upto_region 10 with (at_builtin; refine wpl_append rfl _ _ rfl W5.heap.size _ 0 [] rfl ⟨rfl, .inl ⟨rfl, rfl⟩⟩ a1 n1 c1 F rfl HS1.out (by omega) (Nat.le_refl _) ?_; intro v1 w6 ho1 hg1; have HL6 := Lib.hid (below_row46 (B := W5.heap.size) (v := .slice none 0 0) (n := 0) (xs := []) ⟨rfl, .inl ⟨rfl, rfl⟩⟩ (Nat.le_refl _) hg1); rw [Nat.zero_add, List.nil_append] at ho1; have HR1 := Lib.hid ho1; clear ho1 hg1)
      have HO6 := Lib.hid (rowAt_below HO5.out HL6.out rfl)
      rcases (show kind = 0 ∨ kind = 1 ∨ kind = 2 by omega) with rfl | rfl | rfl
      · have co := rowAt_cell HO6.out 0
        have HRn : Hid (rowAt (w6.alloc (.cells #[.int .u64 0, .int .i64 37, .int .i64 0, .int .i64 0, .int .i64 0, .int .i64 0, .int .i64 0, .int .i64 0, .int .u64 0, .bool false, .int .u64 0, .int .u64 0, .int .u64 0, .int .u64 0, .int .u64 0, .int .u64 0, .int .u64 0, .int .u64 0, .int .u64 0, .int .u64 0, .int .u64 0, .int .u64 0, .int .u64 0, .int .u64 0, .int .u64 0, .int .u64 0, .int .u64 0, .int .u64 0, .int .u64 0, .int .u64 0, .int .u64 0, .int .u64 0, .int .u64 0, .int .u64 0, .int .u64 0, .int .u64 0, .int .u64 0, .int .u64 0, .int .u64 0, .int .u64 0, .int .u64 0, .int .u64 0, .bool false, .bool false, .bool false, .bool false] 31)) w6.heap.size = some (KI 37).arr) := Lib.hid (by rw [KI37]; exact rowAt_new _ _ _)
        have HRo := Lib.hid (HR1.out.alloc (.cells #[.int .u64 0, .int .i64 37, .int .i64 0, .int .i64 0, .int .i64 0, .int .i64 0, .int .i64 0, .int .i64 0, .int .u64 0, .bool false, .int .u64 0, .int .u64 0, .int .u64 0, .int .u64 0, .int .u64 0, .int .u64 0, .int .u64 0, .int .u64 0, .int .u64 0, .int .u64 0, .int .u64 0, .int .u64 0, .int .u64 0, .int .u64 0, .int .u64 0, .int .u64 0, .int .u64 0, .int .u64 0, .int .u64 0, .int .u64 0, .int .u64 0, .int .u64 0, .int .u64 0, .int .u64 0, .int .u64 0, .int .u64 0, .int .u64 0, .int .u64 0, .int .u64 0, .int .u64 0, .int .u64 0, .int .u64 0, .bool false, .bool false, .bool false, .bool false] 31))
        have HLo := Lib.hid (HL6.out.alloc HL6.out.size (.cells #[.int .u64 0, .int .i64 37, .int .i64 0, .int .i64 0, .int .i64 0, .int .i64 0, .int .i64 0, .int .i64 0, .int .u64 0, .bool false, .int .u64 0, .int .u64 0, .int .u64 0, .int .u64 0, .int .u64 0, .int .u64 0, .int .u64 0, .int .u64 0, .int .u64 0, .int .u64 0, .int .u64 0, .int .u64 0, .int .u64 0, .int .u64 0, .int .u64 0, .int .u64 0, .int .u64 0, .int .u64 0, .int .u64 0, .int .u64 0, .int .u64 0, .int .u64 0, .int .u64 0, .int .u64 0, .int .u64 0, .int .u64 0, .int .u64 0, .int .u64 0, .int .u64 0, .int .u64 0, .int .u64 0, .int .u64 0, .bool false, .bool false, .bool false, .bool false] 31))
        go_upto_region 11 with (at_builtin; refine wpl_append rfl _ _ rfl W5.heap.size v1 n1 _ rfl HRo.out (some ⟨w6.heap.size, 0, none⟩) 1 1 (fun _ => KI 37) rfl (.inr ⟨_, _, rfl, wnC_one HRn.out⟩) (by omega) HLo.out.size ?_; intro v2 w7 ho2 hg2; have HL7 := Lib.hid (HLo.out.trans (below_row46 HRo.out HLo.out.size hg2)); rw [rowsL_cat] at ho2; have HR2 := Lib.hid ho2; clear ho2 hg2 HRo HLo HRn)
        clear co
        have HS3 := Lib.hid (HS2.out.below HL7.out)
        go_upto_region 12 with (at_builtin; refine wpl_append rfl _ _ rfl W5.heap.size v2 (n1 + 1) _ rfl HR2.out a2 n2 c2 G rfl HS3.out (by omega) HL7.out.size ?_; intro v3 w8 ho3 hg3; have HL8 := Lib.hid (HL7.out.trans (below_row46 HR2.out HL7.out.size hg3)); rw [rowsL_cat] at ho3; have HR3 := Lib.hid ho3; clear ho3 hg3)
        obtain ⟨g, cap, rfl, hgb, hcap, hwn⟩ := own_win HR3.out (by omega)
        obtain ⟨H, hH⟩ : ∃ H, catF (catF F n1 (fun _ => KI 37)) (n1 + 1) G = H := ⟨_, rfl⟩
        have hHk : H n1 = KI 37 := by
          rw [← hH]; unfold catF; rw [if_pos (by omega), if_neg (by omega)]
        have hHr : ∀ j, (H j).r.within := by
          intro j
          rw [← hH]
          unfold catF
          split
          · split
            · exact hF.out j
            · exact KI_within 37
          · exact hG.out _
        rw [hH] at hwn
        have HWN := Lib.hid hwn
        have HHR := Lib.hid hHr
        have HVH := HV.out H
        have hv : ∀ i, n1 < i → (28 ≤ (H i).op ∧ (H i).op ≤ 36) → mv H i = 9 := fun i hi hc => HVH i n1 hi (by rw [hHk]; rfl) (by rw [hHk]; rfl) (by rw [hHk]; exact .inr ⟨.inl rfl, hc⟩)
        have HVI := Lib.hid hv
        have HBx := Lib.hid (rowAt_below HB5.out HL8.out rfl)
        have HLx := Lib.hid (HL5.out.trans (HL8.out.mono HL5.out.size))
        clear HS1 HS2 HS3 HR1 HR2 HR3 HL6 HL7 HL8 HO5 HO6 HL5 HB5 hwn hHr hv hHk hH HVH
        obtain ⟨N, hN⟩ : ∃ N, n1 + 1 + n2 = N := ⟨_, rfl⟩
        rw [hN] at HWN hcap
        try rw [hN]
        go_wp2
        go_loopw [11] (fun s11 W => ∃ i : Nat, n1 < i ∧ i ≤ N ∧ s11 = .int .i64 i ∧ Hid (rowAt W w.heap.size = some base.arr) ∧ Hid (Below w.heap.size w W) ∧ Hid (WnC W g 0 N H)) (fun s11 _ => N - (intOf s11).toNat)
        case atStart => exact ⟨n1 + 1, by omega, by omega, by go_num, HBx, HLx, HWN⟩
        case round =>
          obtain ⟨i, hi, hiN, rfl, HBk, HLk, HWk⟩ := hrel
          by_cases hlt : i < N
          · have cop := (HWk.out.ins i hlt).1
            simp only [Nat.zero_add] at cop
            obtain ⟨q, hq⟩ : ∃ q, (H i).op = q := ⟨_, rfl⟩
            rw [hq] at cop
            by_cases hm : 28 ≤ q ∧ q ≤ 36
            · have HMV := Lib.hid (HVI.out i hi (by rw [hq]; exact hm))
              have HMi := Lib.hid (HM.out H N cap (by omega) hcap HHR.out g 0 i wr HWk.out hlt)
              have hl26 : (ldAt 26 (.pointer (some ⟨w.heap.size, 0, none⟩))).run Try.prog wr = .ok (.agg base.arr) wr := reg_all HBk.out
              clear hq
              go_wp2_with ((go_at_call 14; refine HMi.out.mono ?_; rintro e w9 ⟨he, hb9⟩; rw [HMV.out] at he; subst he; have HB9 := Lib.hid (rowAt_below HBk.out hb9 rfl); have HL9 := Lib.hid (below_step HLk.out hb9 rfl rfl rfl rfl); have HW9 := Lib.hid (HWk.out.below hb9); clear hb9))
              all_goals (try (exfalso; omega))
              all_goals exact ⟨⟨i + 1, by omega, by omega, by go_num, HB9, HL9, HW9⟩, by simp [intOf]; omega⟩
            · clear hq
              go_wp2
              all_goals (try (exfalso; omega))
              all_goals exact ⟨⟨i + 1, by omega, by omega, by go_num, HBk, HLk, HWk⟩, by simp [intOf]; omega⟩
          · obtain rfl : N = i := by omega
            go_wp2
            go_ret
            exact ⟨rfl, HLk.out⟩
      · have co := rowAt_cell HO6.out 1
        have HRn : Hid (rowAt (w6.alloc (.cells #[.int .u64 0, .int .i64 38, .int .i64 0, .int .i64 0, .int .i64 0, .int .i64 0, .int .i64 0, .int .i64 0, .int .u64 0, .bool false, .int .u64 0, .int .u64 0, .int .u64 0, .int .u64 0, .int .u64 0, .int .u64 0, .int .u64 0, .int .u64 0, .int .u64 0, .int .u64 0, .int .u64 0, .int .u64 0, .int .u64 0, .int .u64 0, .int .u64 0, .int .u64 0, .int .u64 0, .int .u64 0, .int .u64 0, .int .u64 0, .int .u64 0, .int .u64 0, .int .u64 0, .int .u64 0, .int .u64 0, .int .u64 0, .int .u64 0, .int .u64 0, .int .u64 0, .int .u64 0, .int .u64 0, .int .u64 0, .bool false, .bool false, .bool false, .bool false] 31)) w6.heap.size = some (KI 38).arr) := Lib.hid (by rw [KI38]; exact rowAt_new _ _ _)
        have HRo := Lib.hid (HR1.out.alloc (.cells #[.int .u64 0, .int .i64 38, .int .i64 0, .int .i64 0, .int .i64 0, .int .i64 0, .int .i64 0, .int .i64 0, .int .u64 0, .bool false, .int .u64 0, .int .u64 0, .int .u64 0, .int .u64 0, .int .u64 0, .int .u64 0, .int .u64 0, .int .u64 0, .int .u64 0, .int .u64 0, .int .u64 0, .int .u64 0, .int .u64 0, .int .u64 0, .int .u64 0, .int .u64 0, .int .u64 0, .int .u64 0, .int .u64 0, .int .u64 0, .int .u64 0, .int .u64 0, .int .u64 0, .int .u64 0, .int .u64 0, .int .u64 0, .int .u64 0, .int .u64 0, .int .u64 0, .int .u64 0, .int .u64 0, .int .u64 0, .bool false, .bool false, .bool false, .bool false] 31))
        have HLo := Lib.hid (HL6.out.alloc HL6.out.size (.cells #[.int .u64 0, .int .i64 38, .int .i64 0, .int .i64 0, .int .i64 0, .int .i64 0, .int .i64 0, .int .i64 0, .int .u64 0, .bool false, .int .u64 0, .int .u64 0, .int .u64 0, .int .u64 0, .int .u64 0, .int .u64 0, .int .u64 0, .int .u64 0, .int .u64 0, .int .u64 0, .int .u64 0, .int .u64 0, .int .u64 0, .int .u64 0, .int .u64 0, .int .u64 0, .int .u64 0, .int .u64 0, .int .u64 0, .int .u64 0, .int .u64 0, .int .u64 0, .int .u64 0, .int .u64 0, .int .u64 0, .int .u64 0, .int .u64 0, .int .u64 0, .int .u64 0, .int .u64 0, .int .u64 0, .int .u64 0, .bool false, .bool false, .bool false, .bool false] 31))
        go_upto_region 11 with (at_builtin; refine wpl_append rfl _ _ rfl W5.heap.size v1 n1 _ rfl HRo.out (some ⟨w6.heap.size, 0, none⟩) 1 1 (fun _ => KI 38) rfl (.inr ⟨_, _, rfl, wnC_one HRn.out⟩) (by omega) HLo.out.size ?_; intro v2 w7 ho2 hg2; have HL7 := Lib.hid (HLo.out.trans (below_row46 HRo.out HLo.out.size hg2)); rw [rowsL_cat] at ho2; have HR2 := Lib.hid ho2; clear ho2 hg2 HRo HLo HRn)
        clear co
        have HS3 := Lib.hid (HS2.out.below HL7.out)
        go_upto_region 12 with (at_builtin; refine wpl_append rfl _ _ rfl W5.heap.size v2 (n1 + 1) _ rfl HR2.out a2 n2 c2 G rfl HS3.out (by omega) HL7.out.size ?_; intro v3 w8 ho3 hg3; have HL8 := Lib.hid (HL7.out.trans (below_row46 HR2.out HL7.out.size hg3)); rw [rowsL_cat] at ho3; have HR3 := Lib.hid ho3; clear ho3 hg3)
        obtain ⟨g, cap, rfl, hgb, hcap, hwn⟩ := own_win HR3.out (by omega)
        obtain ⟨H, hH⟩ : ∃ H, catF (catF F n1 (fun _ => KI 38)) (n1 + 1) G = H := ⟨_, rfl⟩
        have hHk : H n1 = KI 38 := by
          rw [← hH]; unfold catF; rw [if_pos (by omega), if_neg (by omega)]
        have hHr : ∀ j, (H j).r.within := by
          intro j
          rw [← hH]
          unfold catF
          split
          · split
            · exact hF.out j
            · exact KI_within 38
          · exact hG.out _
        rw [hH] at hwn
        have HWN := Lib.hid hwn
        have HHR := Lib.hid hHr
        have HVH := HV.out H
        have hv : ∀ i, n1 < i → (28 ≤ (H i).op ∧ (H i).op ≤ 36) → mv H i = 9 := fun i hi hc => HVH i n1 hi (by rw [hHk]; rfl) (by rw [hHk]; rfl) (by rw [hHk]; exact .inr ⟨.inr rfl, hc⟩)
        have HVI := Lib.hid hv
        have HBx := Lib.hid (rowAt_below HB5.out HL8.out rfl)
        have HLx := Lib.hid (HL5.out.trans (HL8.out.mono HL5.out.size))
        clear HS1 HS2 HS3 HR1 HR2 HR3 HL6 HL7 HL8 HO5 HO6 HL5 HB5 hwn hHr hv hHk hH HVH
        obtain ⟨N, hN⟩ : ∃ N, n1 + 1 + n2 = N := ⟨_, rfl⟩
        rw [hN] at HWN hcap
        try rw [hN]
        go_wp2
        go_loopw [11] (fun s11 W => ∃ i : Nat, n1 < i ∧ i ≤ N ∧ s11 = .int .i64 i ∧ Hid (rowAt W w.heap.size = some base.arr) ∧ Hid (Below w.heap.size w W) ∧ Hid (WnC W g 0 N H)) (fun s11 _ => N - (intOf s11).toNat)
        case atStart => exact ⟨n1 + 1, by omega, by omega, by go_num, HBx, HLx, HWN⟩
        case round =>
          obtain ⟨i, hi, hiN, rfl, HBk, HLk, HWk⟩ := hrel
          by_cases hlt : i < N
          · have cop := (HWk.out.ins i hlt).1
            simp only [Nat.zero_add] at cop
            obtain ⟨q, hq⟩ : ∃ q, (H i).op = q := ⟨_, rfl⟩
            rw [hq] at cop
            by_cases hm : 28 ≤ q ∧ q ≤ 36
            · have HMV := Lib.hid (HVI.out i hi (by rw [hq]; exact hm))
              have HMi := Lib.hid (HM.out H N cap (by omega) hcap HHR.out g 0 i wr HWk.out hlt)
              have hl26 : (ldAt 26 (.pointer (some ⟨w.heap.size, 0, none⟩))).run Try.prog wr = .ok (.agg base.arr) wr := reg_all HBk.out
              clear hq
              go_wp2_with ((go_at_call 14; refine HMi.out.mono ?_; rintro e w9 ⟨he, hb9⟩; rw [HMV.out] at he; subst he; have HB9 := Lib.hid (rowAt_below HBk.out hb9 rfl); have HL9 := Lib.hid (below_step HLk.out hb9 rfl rfl rfl rfl); have HW9 := Lib.hid (HWk.out.below hb9); clear hb9))
              all_goals (try (exfalso; omega))
              all_goals exact ⟨⟨i + 1, by omega, by omega, by go_num, HB9, HL9, HW9⟩, by simp [intOf]; omega⟩
            · clear hq
              go_wp2
              all_goals (try (exfalso; omega))
              all_goals exact ⟨⟨i + 1, by omega, by omega, by go_num, HBk, HLk, HWk⟩, by simp [intOf]; omega⟩
          · obtain rfl : N = i := by omega
            go_wp2
            go_ret
            exact ⟨rfl, HLk.out⟩
      · have co := rowAt_cell HO6.out 2
        have HRn : Hid (rowAt (w6.alloc (.cells #[.int .u64 0, .int .i64 39, .int .i64 0, .int .i64 0, .int .i64 0, .int .i64 0, .int .i64 0, .int .i64 0, .int .u64 0, .bool false, .int .u64 0, .int .u64 0, .int .u64 0, .int .u64 0, .int .u64 0, .int .u64 0, .int .u64 0, .int .u64 0, .int .u64 0, .int .u64 0, .int .u64 0, .int .u64 0, .int .u64 0, .int .u64 0, .int .u64 0, .int .u64 0, .int .u64 0, .int .u64 0, .int .u64 0, .int .u64 0, .int .u64 0, .int .u64 0, .int .u64 0, .int .u64 0, .int .u64 0, .int .u64 0, .int .u64 0, .int .u64 0, .int .u64 0, .int .u64 0, .int .u64 0, .int .u64 0, .bool false, .bool false, .bool false, .bool false] 31)) w6.heap.size = some (KI 39).arr) := Lib.hid (by rw [KI39]; exact rowAt_new _ _ _)
        have HRo := Lib.hid (HR1.out.alloc (.cells #[.int .u64 0, .int .i64 39, .int .i64 0, .int .i64 0, .int .i64 0, .int .i64 0, .int .i64 0, .int .i64 0, .int .u64 0, .bool false, .int .u64 0, .int .u64 0, .int .u64 0, .int .u64 0, .int .u64 0, .int .u64 0, .int .u64 0, .int .u64 0, .int .u64 0, .int .u64 0, .int .u64 0, .int .u64 0, .int .u64 0, .int .u64 0, .int .u64 0, .int .u64 0, .int .u64 0, .int .u64 0, .int .u64 0, .int .u64 0, .int .u64 0, .int .u64 0, .int .u64 0, .int .u64 0, .int .u64 0, .int .u64 0, .int .u64 0, .int .u64 0, .int .u64 0, .int .u64 0, .int .u64 0, .int .u64 0, .bool false, .bool false, .bool false, .bool false] 31))
        have HLo := Lib.hid (HL6.out.alloc HL6.out.size (.cells #[.int .u64 0, .int .i64 39, .int .i64 0, .int .i64 0, .int .i64 0, .int .i64 0, .int .i64 0, .int .i64 0, .int .u64 0, .bool false, .int .u64 0, .int .u64 0, .int .u64 0, .int .u64 0, .int .u64 0, .int .u64 0, .int .u64 0, .int .u64 0, .int .u64 0, .int .u64 0, .int .u64 0, .int .u64 0, .int .u64 0, .int .u64 0, .int .u64 0, .int .u64 0, .int .u64 0, .int .u64 0, .int .u64 0, .int .u64 0, .int .u64 0, .int .u64 0, .int .u64 0, .int .u64 0, .int .u64 0, .int .u64 0, .int .u64 0, .int .u64 0, .int .u64 0, .int .u64 0, .int .u64 0, .int .u64 0, .bool false, .bool false, .bool false, .bool false] 31))
        go_upto_region 11 with (at_builtin; refine wpl_append rfl _ _ rfl W5.heap.size v1 n1 _ rfl HRo.out (some ⟨w6.heap.size, 0, none⟩) 1 1 (fun _ => KI 39) rfl (.inr ⟨_, _, rfl, wnC_one HRn.out⟩) (by omega) HLo.out.size ?_; intro v2 w7 ho2 hg2; have HL7 := Lib.hid (HLo.out.trans (below_row46 HRo.out HLo.out.size hg2)); rw [rowsL_cat] at ho2; have HR2 := Lib.hid ho2; clear ho2 hg2 HRo HLo HRn)
        clear co
        have HS3 := Lib.hid (HS2.out.below HL7.out)
        go_upto_region 12 with (at_builtin; refine wpl_append rfl _ _ rfl W5.heap.size v2 (n1 + 1) _ rfl HR2.out a2 n2 c2 G rfl HS3.out (by omega) HL7.out.size ?_; intro v3 w8 ho3 hg3; have HL8 := Lib.hid (HL7.out.trans (below_row46 HR2.out HL7.out.size hg3)); rw [rowsL_cat] at ho3; have HR3 := Lib.hid ho3; clear ho3 hg3)
        obtain ⟨g, cap, rfl, hgb, hcap, hwn⟩ := own_win HR3.out (by omega)
        obtain ⟨H, hH⟩ : ∃ H, catF (catF F n1 (fun _ => KI 39)) (n1 + 1) G = H := ⟨_, rfl⟩
        have hHk : H n1 = KI 39 := by
          rw [← hH]; unfold catF; rw [if_pos (by omega), if_neg (by omega)]
        have hHr : ∀ j, (H j).r.within := by
          intro j
          rw [← hH]
          unfold catF
          split
          · split
            · exact hF.out j
            · exact KI_within 39
          · exact hG.out _
        rw [hH] at hwn
        have HWN := Lib.hid hwn
        have HHR := Lib.hid hHr
        have HVH := HV.out H
        have hv : ∀ i, n1 < i → True → mv H i = 9 := fun i hi hc => HVH i n1 hi (by rw [hHk]; rfl) (by rw [hHk]; rfl) (by rw [hHk]; exact .inl rfl)
        have HVI := Lib.hid hv
        have HBx := Lib.hid (rowAt_below HB5.out HL8.out rfl)
        have HLx := Lib.hid (HL5.out.trans (HL8.out.mono HL5.out.size))
        clear HS1 HS2 HS3 HR1 HR2 HR3 HL6 HL7 HL8 HO5 HO6 HL5 HB5 hwn hHr hv hHk hH HVH
        obtain ⟨N, hN⟩ : ∃ N, n1 + 1 + n2 = N := ⟨_, rfl⟩
        rw [hN] at HWN hcap
        try rw [hN]
        go_wp2
        go_loopw [11] (fun s11 W => ∃ i : Nat, n1 < i ∧ i ≤ N ∧ s11 = .int .i64 i ∧ Hid (rowAt W w.heap.size = some base.arr) ∧ Hid (Below w.heap.size w W) ∧ Hid (WnC W g 0 N H)) (fun s11 _ => N - (intOf s11).toNat)
        case atStart => exact ⟨n1 + 1, by omega, by omega, by go_num, HBx, HLx, HWN⟩
        case round =>
          obtain ⟨i, hi, hiN, rfl, HBk, HLk, HWk⟩ := hrel
          by_cases hlt : i < N
          · have cop := (HWk.out.ins i hlt).1
            simp only [Nat.zero_add] at cop
            obtain ⟨q, hq⟩ : ∃ q, (H i).op = q := ⟨_, rfl⟩
            rw [hq] at cop
            by_cases hm : 28 ≤ q ∧ q ≤ 36
            · have HMV := Lib.hid (HVI.out i hi trivial)
              have HMi := Lib.hid (HM.out H N cap (by omega) hcap HHR.out g 0 i wr HWk.out hlt)
              have hl26 : (ldAt 26 (.pointer (some ⟨w.heap.size, 0, none⟩))).run Try.prog wr = .ok (.agg base.arr) wr := reg_all HBk.out
              clear hq
              go_wp2_with ((go_at_call 14; refine HMi.out.mono ?_; rintro e w9 ⟨he, hb9⟩; rw [HMV.out] at he; subst he; have HB9 := Lib.hid (rowAt_below HBk.out hb9 rfl); have HL9 := Lib.hid (below_step HLk.out hb9 rfl rfl rfl rfl); have HW9 := Lib.hid (HWk.out.below hb9); clear hb9))
              all_goals (try (exfalso; omega))
              all_goals exact ⟨⟨i + 1, by omega, by omega, by go_num, HB9, HL9, HW9⟩, by simp [intOf]; omega⟩
            · have HMV := Lib.hid (HVI.out i hi trivial)
              have HMi := Lib.hid (HM.out H N cap (by omega) hcap HHR.out g 0 i wr HWk.out hlt)
              have hl26 : (ldAt 26 (.pointer (some ⟨w.heap.size, 0, none⟩))).run Try.prog wr = .ok (.agg base.arr) wr := reg_all HBk.out
              clear hq
              go_wp2_with ((go_at_call 14; refine HMi.out.mono ?_; rintro e w9 ⟨he, hb9⟩; rw [HMV.out] at he; subst he; have HB9 := Lib.hid (rowAt_below HBk.out hb9 rfl); have HL9 := Lib.hid (below_step HLk.out hb9 rfl rfl rfl rfl); have HW9 := Lib.hid (HWk.out.below hb9); clear hb9))
              all_goals (try (exfalso; omega))
              all_goals exact ⟨⟨i + 1, by omega, by omega, by go_num, HB9, HL9, HW9⟩, by simp [intOf]; omega⟩
          · obtain rfl : N = i := by omega
            go_wp2
            go_ret
            exact ⟨rfl, HLk.out⟩
    · go_wp2_with (first | (go_at_call 13; refine (HK.out _).mono ?_; rintro e w2 ⟨rfl, hb2⟩; have HB2 := Lib.hid (rowAt_below HB.out hb2 rfl); have HL2 := Lib.hid (below_step HL.out hb2 rfl rfl rfl rfl); clear hb2 HB HL))
      all_goals (try (exfalso; omega))
      all_goals go_ret
      all_goals exact ⟨rfl, HL2.out.alloc HL2.out.size _⟩
  · have hw : wrap64 ((n1 : Int) + n2) = (n1 : Int) + n2 := by unfold wrap64; omega
    go_wp2_with (first | (go_at_call 13; refine (HK.out _).mono ?_; rintro e w2 ⟨rfl, hb2⟩; have HB2 := Lib.hid (rowAt_below HB.out hb2 rfl); have HL2 := Lib.hid (below_step HL.out hb2 rfl rfl rfl rfl); clear hb2 HB HL))
    all_goals (try (exfalso; omega))
    all_goals go_ret
    all_goals exact ⟨rfl, HL2.out⟩
end Go.Proofs.Ytnbpgoacooddjaa
namespace Go.Proofs.Ytnbpgoacooddjaa.winBarriers
open Go.ChangeShapes Go.WideShapes Go.ChangeAt Go.RowKit
set_option linter.unusedVariables false
theorem own : ownKnob Try.prog.godebug = none := by kernel_rfl
theorem laidOut : laidOutB Try.prog = true := by kernel_rfl
theorem walk (F G : Nat → WI) (base : Rg) (a1 a2 : Option Addr) (n1 c1 n2 c2 : Nat) (kind : Int) (w : World) (H1 : SrcW w a1 n1 F) (H2 : SrcW w a2 n2 G) (hm1 : n1 ≤ 140737488355328) (hm2 : n2 ≤ 140737488355328) (hr : base.within) (hF : ∀ j, (F j).r.within) (hG : ∀ j, (G j).r.within) :
    Calls Try.prog 4 #[.slice a1 n1 c1, .int .i64 kind, .slice a2 n2 c2, .agg base.arr] w fun e w' => e = .returned (.bool true) ∧ Below w.heap.size w w' :=
  barriers_walk F G base a1 a2 n1 c1 n2 c2 kind w (Lib.hid H1) (Lib.hid H2) hm1 hm2 (Lib.hid known13) (fun H => mayS H base)
    (Lib.hid fun H N cap hN hc hH b off i V hV hi => may_c H base b off N cap i V (Lib.hid hV) hr (fun j _ => hH j) hi hc (by omega)) (Lib.hid hF) (Lib.hid hG) (Lib.hid fun H i j hj hd hi h => may_behind H base i j hj hd hi h)
theorem all_app {l1 l2 : List Nat} {p : Nat → Bool} (h : (l1 ++ l2).all p = true) : l1.all p = true ∧ l2.all p = true := by
  rw [List.all_append, Bool.and_eq_true] at h
  exact h
set_option maxRecDepth 100000 in
/-- What comes in is not larger than a machine has. -/
theorem win_small {H : Type} {enc : TypeId × Value → H} {W : World} {base : Nat} {spare : Nat → Bool} {held : Bool} {a : Option Addr} {n cap : Nat} {d : DataW H} {p : List MemPlace}
    (h : DataW.Trod enc Try.prog W base spare held 22 (.slice a n cap) d p) (hw : (d.weights Try.prog 22).all (· ≤ reachBytes) = true) : n ≤ 140737488355328 := by
  obtain ⟨fuel, hf⟩ := h
  rcases Go.Deep.open_slice Try.underlying22 hf with ⟨hcs, _⟩ | ⟨x, l, c, m, k, D, Pl, hcs, _, hl, hm, hmm, hx, hi⟩
  · simp [Value.cells] at hcs
    omega
  · simp [Value.cells] at hcs
    obtain ⟨rfl, rfl, rfl⟩ := hcs
    have hb : Try.prog.bytesOf 31 = 344 := by kernel_rfl
    injection hx with hd _
    subst hd
    unfold DataW.weights at hw
    rw [Try.underlying22] at hw
    simp only [List.all_cons, Bool.and_eq_true, hb, List.length_map, List.length_range, decide_eq_true_eq] at hw
    have h1 := hw.1
    unfold reachBytes at h1
    omega
set_option maxRecDepth 100000 in
theorem lifted (os : Os) (started : os.Started) (H : Type) (enc : TypeId × Value → H) :
    ReturnsInHanded {} Try.checked os 4 .any (Rows.winBarriersSpec.pre6 enc Try.prog Try.f4 Rows.winBarriersRow.domain false) (Rows.winBarriersSpec.post enc Try.prog Try.f4 false true false false) := by
  refine returnsInHanded_of_change_sized (C := Try.checked) own started (by kernel_rfl) Try.func4
    (ChangeSpec.witness6 (enc := enc) (C := Try.checked) false ⟨#[], #[.slice none 0 0, .int .i64 0, .slice none 0 0, .agg #[.int .u64 0, .int .u64 0, .int .u64 0, .int .u64 0, .int .u64 0, .int .u64 0, .int .u64 0, .int .u64 0, .int .u64 0, .int .u64 0, .int .u64 0, .int .u64 0, .int .u64 0, .int .u64 0, .int .u64 0, .int .u64 0, .int .u64 0, .int .u64 0, .int .u64 0, .int .u64 0, .int .u64 0, .int .u64 0, .int .u64 0, .int .u64 0, .int .u64 0, .int .u64 0, .int .u64 0, .int .u64 0, .int .u64 0, .int .u64 0, .int .u64 0, .int .u64 0, .bool false, .bool false, .bool false, .bool false]], []⟩ 8 (by kernel_rfl) (by kernel_rfl) (by kernel_rfl) (by kernel_rfl)) ?_
  intro W base args ds gs before hval0 hW hcnd hsz _
  have hval : ∀ (j : Nat) t v, Try.f4.params[j]? = some t → args[j]? = some v → Value.okWide Try.prog W .any base t v := hval0
  have hsz' : (DataW.weightsEach Try.prog (Try.f4.params.toList ++ Rows.winBarriersSpec.plain.varTypes Try.prog) (ds ++ gs)).all (· ≤ reachBytes) = true := hsz
  have hW' := hW
  obtain ⟨p, q, hA0, hV, rfl, hfz, hnd⟩ := hW
  have hA : DataW.TrodAll enc Try.prog W 0 (fun _ => true) true Try.f4.params.toList args.toList ds p := hA0
  rw [Try.params4] at hA hval hsz'
  obtain ⟨v0, vs0, d0, ds0, p0, q0, hargs, rfl, rfl, h0, r0⟩ := trodAll_cons hA
  obtain ⟨v1, vs1, d1, ds1, p1, q1, rfl, rfl, rfl, h1, r1⟩ := trodAll_cons r0
  obtain ⟨v2, vs2, d2, ds2, p2, q2, rfl, rfl, rfl, h2, r2⟩ := trodAll_cons r1
  obtain ⟨v3, vs3, d3, ds3, p3, q3, rfl, rfl, rfl, h3, r3⟩ := trodAll_cons r2
  obtain ⟨rfl, rfl, rfl⟩ := trodAll_nil r3
  obtain rfl : args = #[v0, v1, v2, v3] := by cases args; simp_all
  obtain ⟨rfl, rfl⟩ := trodVars_none hV
  obtain ⟨a0, len0, cap0, rfl⟩ := okWide_slice Try.underlying22 (hval 0 22 v0 rfl rfl)
  obtain ⟨x1, rfl, b1⟩ := okWide_int Try.underlying3 (hval 1 3 v1 rfl rfl)
  obtain ⟨a2, len2, cap2, rfl⟩ := okWide_slice Try.underlying22 (hval 2 22 v2 rfl rfl)
  obtain ⟨r, hr, rfl⟩ := regs_open (hval 3 26 v3 rfl rfl) h3
  have k0 := h0
  have k1 := h1
  have k2 := h2
  have k3 := h3
  have lt0 : ∀ x ∈ p0, x.block < W.heap.size := by obtain ⟨m, hm⟩ := k0; exact DataW.trod_lt m _ _ _ hm
  have lt1 : ∀ x ∈ p1, x.block < W.heap.size := by obtain ⟨m, hm⟩ := k1; exact DataW.trod_lt m _ _ _ hm
  have lt2 : ∀ x ∈ p2, x.block < W.heap.size := by obtain ⟨m, hm⟩ := k2; exact DataW.trod_lt m _ _ _ hm
  have lt3 : ∀ x ∈ p3, x.block < W.heap.size := by obtain ⟨m, hm⟩ := k3; exact DataW.trod_lt m _ _ _ hm
  obtain ⟨hc0, hn0, F0, w0, hF0⟩ := win_open h0
  obtain ⟨hc2, hn2, F2, w2, hF2⟩ := win_open h2
  have hz0 := all_app (l1 := d0.weights Try.prog 22) hsz'
  have hz1 := all_app (l1 := d1.weights Try.prog 3) hz0.2
  have hz2 := all_app (l1 := d2.weights Try.prog 22) hz1.2
  have s0 := win_small h0 hz0.1
  have s2 := win_small h2 hz2.1
  clear hA0 hval0 hsz hsz' hz0 hz1 hz2
  refine (walk F0 F2 r a0 a2 len0 cap0 len2 cap2 x1 W w0 w2 s0 s2 hr hF0 hF2).mono fun e W' ⟨he, bel⟩ => ?_
  subst he
  exact ⟨_, rfl, _, _, _, [], _, [], hW', trodAll_mk1 (shut_bool Try.underlying4 _), (trodAll_cons_mk (Below.trod laidOut (by kernel_rfl) (of_decide_eq_true (by kernel_rfl)) k0 bel lt0) (trodAll_cons_mk (Below.trod laidOut (by kernel_rfl) (of_decide_eq_true (by kernel_rfl)) k1 bel lt1) (trodAll_cons_mk (Below.trod laidOut (by kernel_rfl) (of_decide_eq_true (by kernel_rfl)) k2 bel lt2) (trodAll_cons_mk (Below.trod laidOut (by kernel_rfl) (of_decide_eq_true (by kernel_rfl)) k3 bel lt3) trodAll_mk0)))), rfl, bel.frame _, fun h => by cases h⟩

theorem over : Rows.winBarriersRow.holds Try.pinned (OpenSpec.ofChange Rows.winBarriersSpec) :=
  OpenClaim.holds_of_wide 4 Try.f4 rfl rfl rfl rfl rfl rfl rfl ⟨rfl, rfl, rfl, rfl, rfl⟩ rfl rfl rfl rfl rfl (by kernel_rfl) Try.func4 (by kernel_rfl)
    (of_decide_eq_true (by kernel_rfl)) (by unfold Func.isWrapper; first | (rw [if_pos (by decide +kernel)]; kernel_rfl) | (rw [if_neg (by decide +kernel)]; exact ⟨rfl, rfl⟩))
    (fun os started H enc _ => lifted os started H enc)

/-- THE STATEMENT -/
theorem proved : Rows.WinBarriersSaid := over
#print axioms proved
end Go.Proofs.Ytnbpgoacooddjaa.winBarriers
