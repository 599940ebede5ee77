import Derived.Test.YtjcbhomfggjmhaaIf
namespace Go.Proofs.Ytjcbhomfggjmhaa.Mm
open Go.ChangeShapes Go.WideShapes Go.ChangeAt Go.RowKit Go.Maps
set_option linter.unusedVariables false
/-- A cell behind the elements is laid anew. -/
theorem own_set_past {w : World} {base n g cap k size : Nat} {e : TypeId} {xs : List Value} (h : w.ownsRow base e size (.slice (some ⟨g, 0, none⟩) n cap) n xs) (hk : n * size ≤ k) (v : Value) : (w.setCell ⟨g, k, none⟩ v).ownsRow base e size (.slice (some ⟨g, 0, none⟩) n cap) n xs := by
  refine ⟨h.1, ?_⟩
  rcases h.2 with ⟨h1, _⟩ | ⟨g', cap', cur, hv, hb, hg, hc, hm, hs, ht⟩
  · cases h1
  · injection hv with e1 e2 e3
    injection e1 with e1
    injection e1 with e1
    subst e1 e3
    refine .inr ⟨g, cap, cur.setIfInBounds k v, rfl, hb, ?_, hc, hm, by simpa using hs, ?_⟩
    · rw [setCell_eq_setRow w g k cur e (0, 0) v hg]
      exact setRow_heap _ _ _ _ _ _ hg
    · rw [Array.toList_setIfInBounds, List.take_set_of_le hk]
      exact ht
/-- All the cells of a row's block, those behind its elements too. -/
theorem own_room {w : World} {base n g cap size : Nat} {e : TypeId} {xs : List Value} (h : w.ownsRow base e size (.slice (some ⟨g, 0, none⟩) n cap) n xs) {k : Nat} (hk : k < cap * size) : (w.cell? ⟨g, k, none⟩).isSome = true := by
  rcases h.2 with ⟨h1, _⟩ | ⟨g', cap', cur, hv, hb, hg, hc, hm, hs, ht⟩
  · cases h1
  · injection hv with e1 e2 e3
    injection e1 with e1
    injection e1 with e1
    subst e1 e3
    rw [cell_of_row w g k cur e _ hg, Array.getElem?_eq_getElem (by omega)]
    rfl
theorem invL_take (l : List (Int × Nat)) (i : Nat) : (invL l).take (i * 2) = invL (l.take i) := by
  induction l generalizing i with
  | nil => simp [invL]
  | cons x l ih =>
    cases i with
    | zero => simp [invL]
    | succ i =>
      rw [List.take_succ_cons]
      show (invL (x :: l)).take _ = [.int .i64 x.1, .int .u64 (x.2 : Nat)] ++ invL (l.take i)
      rw [← ih i]
      show ([Value.int .i64 x.1, .int .u64 (x.2 : Nat)] ++ invL l).take _ = _
      rw [show (i + 1) * 2 = i * 2 + 1 + 1 by omega]
      rfl
theorem invL_drop (l : List (Int × Nat)) (i : Nat) : (invL l).drop (i * 2) = invL (l.drop i) := by
  induction l generalizing i with
  | nil => simp [invL]
  | cons x l ih =>
    cases i with
    | zero => simp
    | succ i =>
      rw [List.drop_succ_cons, ← ih i]
      show ([Value.int .i64 x.1, .int .u64 (x.2 : Nat)] ++ invL l).drop _ = _
      rw [show (i + 1) * 2 = i * 2 + 1 + 1 by omega]
      rfl
theorem invL_app (l m : List (Int × Nat)) : invL (l ++ m) = invL l ++ invL m := by unfold invL; rw [List.flatMap_append]
theorem invL_one (l : List (Int × Nat)) : ∀ u ∈ invL l, u.oneCell' = true := by
  intro u hu
  unfold invL at hu
  obtain ⟨x, _, hx⟩ := List.mem_flatMap.1 hu
  simp only [List.mem_cons, List.not_mem_nil, or_false] at hx
  rcases hx with rfl | rfl <;> rfl
theorem own_front {w : World} {base n g cap size i : Nat} {e : TypeId} {xs : List Value} (h : w.ownsRow base e size (.slice (some ⟨g, 0, none⟩) n cap) n xs) (hi : i ≤ n) : w.ownsRow base e size (.slice (some ⟨g, 0, none⟩) i cap) i (xs.take (i * size)) := by
  rcases h.2 with ⟨h1, _⟩ | ⟨g', cap', cur, hv, hb, hg, hc, hm, hs, ht⟩
  · cases h1
  · injection hv with e1 e2 e3
    injection e1 with e1
    injection e1 with e1
    subst e1 e3
    have hle : i * size ≤ n * size := Nat.mul_le_mul_right _ hi
    refine ⟨by rw [List.length_take, h.1]; omega, .inr ⟨g, cap, cur, rfl, hb, hg, by omega, hm, hs, ?_⟩⟩
    rw [← ht, List.take_take, Nat.min_eq_left hle]
theorem zero204 (w : World) : (zeroValue 105).run Try.prog w = .ok (.agg #[.int .i64 0, .int .u64 0]) w := by kernel_rfl
set_option maxRecDepth 100000 in
set_option maxHeartbeats 4000000 in
/-- One element is taken out of a row of what waits. -/
theorem delete_c (w : World) (base g cp : Nat) (l : List (Int × Nat)) (ho : w.ownsRow base 105 2 (.slice (some ⟨g, 0, none⟩) l.length cp) l.length (invL l)) {i : Nat} (hi : i < l.length) (hb : l.length ≤ 1000000) :
    Calls Try.prog 57 #[.slice (some ⟨g, 0, none⟩) l.length cp, .int .i64 i, .int .i64 ((i : Int) + 1)] w fun e w' => e = .returned (.slice (some ⟨g, 0, none⟩) (l.length - 1) cp) ∧ w'.ownsRow base 105 2 (.slice (some ⟨g, 0, none⟩) (l.length - 1) cp) (l.eraseIdx i).length (invL (l.eraseIdx i)) ∧ w.grownBy w' (some g) := by
  have hlc := own_cap ho
  obtain ⟨j, hj⟩ : ∃ j, l.length - 1 - i = j := ⟨_, rfl⟩
  obtain ⟨n, hn⟩ : ∃ n, l.length = n + 1 := ⟨l.length - 1, by omega⟩
  have hel : (l.eraseIdx i).length = n := by rw [List.length_eraseIdx_of_lt hi, hn]; rfl
  have hee : invL (l.eraseIdx i) = invL (l.take i) ++ invL (l.drop (i + 1)) := by rw [List.eraseIdx_eq_take_drop_succ, invL_app]
  have hdl : (l.drop (i + 1)).length = n - i := by rw [List.length_drop, hn]; omega
  have hsrc : ∀ W : World, W.heap = w.heap → ∃ w', (Builtin.append_ #[103, 103] 103 #[.slice (some ⟨g, 0, none⟩) i cp, .slice (some (if cp = i + 1 then ⟨g, 0, none⟩ else ⟨g, (i + 1) * 2, none⟩)) (n - i) (cp - (i + 1))]).run Try.prog W = .ok (.slice (some ⟨g, 0, none⟩) n cp) w' ∧ w'.ownsRow base 105 2 (.slice (some ⟨g, 0, none⟩) n cp) n (invL (l.eraseIdx i)) ∧ W.grownBy w' (some g) := by
    intro W hW
    obtain ⟨i0, hi0, hz0, hz1, hz2⟩ := info_parts info204z
    have hoW : W.ownsRow base 105 2 (.slice (some ⟨g, 0, none⟩) l.length cp) l.length (invL l) := own_kept ho fun q _ => by rw [hW]
    have hfr := own_front hoW (i := i) (by omega)
    rw [invL_take] at hfr
    obtain ⟨w', h1, h2, h3⟩ := run_append_fits (P := Try.prog) W base 103 103 105 i0 2 Try.underlying103 hi0 hz1 g i cp _ hfr (if cp = i + 1 then ⟨g, 0, none⟩ else ⟨g, (i + 1) * 2, none⟩) (n - i) (cp - (i + 1)) (invL (l.drop (i + 1))) (by rw [invL_len, hdl]) (fun q u hq => by
      have hq1 := (List.getElem?_eq_some_iff.1 hq).1
      rw [invL_len, hdl] at hq1
      rw [if_neg (by omega), Go.WideShapes.add_plain]
      rw [← invL_drop, List.getElem?_drop] at hq
      exact (own_cells hoW).1 _ u hq) (invL_one _) (by omega)
    rw [show i + (n - i) = n by omega, ← hee] at h2
    rw [show i + (n - i) = n by omega] at h1
    exact ⟨w', h1, h2, h3⟩
  rw [hel]
  rw [hn] at hlc hi hb ⊢
  have HS := Lib.hid hsrc
  clear hsrc hee hdl hel ho hj
  have k1 : (i : Int) < (n : Int) + 1 := by omega
  have k2 : (n : Int) + 1 ≤ cp := by omega
  have k3 : (i : Int) + 1 ≤ (n : Int) + 1 := by omega
  have k4 : ((i : Int) == (i : Int) + 1) = false := by simp; omega
  have k5 : IntKind.i64.wrap ((n : Int) + 1) = (n : Int) + 1 := by rw [IntKind.wrap_i64]; omega
  have k6 : (i : Int) ≤ cp := by omega
  have k7 : (0 : Int) ≤ i := by omega
  have k8 : (0 : Int) ≤ (i : Int) + 1 := by omega
  have k9 : (n : Int) ≤ (n : Int) + 1 := by omega
  have k10 : (0 : Int) ≤ n := by omega
  obtain ⟨w2, hr, ho2, hg2⟩ := HS.out w.drew rfl
  have HR := Lib.hid hr
  have HO2 := Lib.hid ho2
  have HG2 := Lib.hid hg2
  clear hr ho2 hg2
  go_enter Try.func57, Try.ntmps57
  have HU1 : Hid (sliced (some ⟨g, 0, none⟩) 0 i cp 2 = .slice (some ⟨g, 0, none⟩) i cp) := Lib.hid (by unfold sliced; split <;> simp [Go.WideShapes.add_plain])
  obtain ⟨u2, hu2⟩ : ∃ u2, Value.slice (some (if cp = i + 1 then ⟨g, 0, none⟩ else ⟨g, (i + 1) * 2, none⟩)) (n - i) (cp - (i + 1)) = u2 := ⟨_, rfl⟩
  have HU2 : Hid (sliced (some ⟨g, 0, none⟩) (i + 1) (n + 1) cp 2 = u2) := Lib.hid (by rw [← hu2]; unfold sliced; split <;> simp [Go.WideShapes.add_plain])
  rw [hu2] at HR
  clear hu2 HS
  go_wp2
  refine wp_region_held_drew (S := fun _ => True) (by kernel_rfl) trivial (fun hHeld => ?_)
  refine wpAnyH_take (i := 0) (oi := { dst := some 20, op := Go.Op.move (Go.Operand.tmp 0), type := 103, pos := "slices.go:232", after := #[], guard := none }) (v := ?_) rfl (by kernel_rfl) (by kernel_rfl) (by kernel_rfl) (fun _ _ _ h => h) (Or.inl ⟨by rfl, ?_⟩) (by assumption) ?_
  rotate_left
  · (intro w0 hSw; (try dsimp only at hSw); go_split_ands; go_simp; with_reducible rfl)
  try simp only [Act.put, List.setIfInBounds_toArray, List.set_cons_zero, List.set_cons_succ]
  refine wpAnyH_take (i := 1) (oi := { dst := some 21, op := Go.Op.move (Go.Operand.tmp 1), type := 3, pos := "slices.go:232", after := #[], guard := none }) (v := ?_) rfl (by kernel_rfl) (by kernel_rfl) (by kernel_rfl) (fun _ _ _ h => h) (Or.inl ⟨by rfl, ?_⟩) (by assumption) ?_
  rotate_left
  · (intro w0 hSw; (try dsimp only at hSw); go_split_ands; go_simp; with_reducible rfl)
  try simp only [Act.put, List.setIfInBounds_toArray, List.set_cons_zero, List.set_cons_succ]
  refine wpAnyH_take (i := 2) (oi := { dst := some 22, op := Go.Op.slice 103 (Go.Operand.tmp 20) none (some (Go.Operand.tmp 21)) none, type := 103, pos := "slices.go:232", after := #[{ on := 0, ground := Go.Ground.data }, { on := 1, ground := Go.Ground.data }], guard := none }) (v := .slice (some ⟨g, 0, none⟩) i cp) rfl (by kernel_rfl) (by kernel_rfl) (by kernel_rfl) (fun _ _ _ h => h) (Or.inl ⟨by rfl, ?_⟩) (by assumption) ?_
  · (intro w0 hSw; rw [← HU1.out]; go_simp)
  try simp only [Act.put, List.setIfInBounds_toArray, List.set_cons_zero, List.set_cons_succ]
  refine wpAnyH_take (i := 3) (oi := { dst := some 23, op := Go.Op.move (Go.Operand.tmp 0), type := 103, pos := "slices.go:232", after := #[], guard := none }) (v := ?_) rfl (by kernel_rfl) (by kernel_rfl) (by kernel_rfl) (fun _ _ _ h => h) (Or.inl ⟨by rfl, ?_⟩) (by assumption) ?_
  rotate_left
  · (intro w0 hSw; (try dsimp only at hSw); go_split_ands; go_simp; with_reducible rfl)
  try simp only [Act.put, List.setIfInBounds_toArray, List.set_cons_zero, List.set_cons_succ]
  refine wpAnyH_take (i := 4) (oi := { dst := some 24, op := Go.Op.move (Go.Operand.tmp 2), type := 3, pos := "slices.go:232", after := #[], guard := none }) (v := ?_) rfl (by kernel_rfl) (by kernel_rfl) (by kernel_rfl) (fun _ _ _ h => h) (Or.inl ⟨by rfl, ?_⟩) (by assumption) ?_
  rotate_left
  · (intro w0 hSw; (try dsimp only at hSw); go_split_ands; go_simp; with_reducible rfl)
  try simp only [Act.put, List.setIfInBounds_toArray, List.set_cons_zero, List.set_cons_succ]
  refine wpAnyH_take (i := 5) (oi := { dst := some 25, op := Go.Op.slice 103 (Go.Operand.tmp 23) (some (Go.Operand.tmp 24)) none none, type := 103, pos := "slices.go:232", after := #[{ on := 3, ground := Go.Ground.data }, { on := 4, ground := Go.Ground.data }], guard := none }) (v := u2) rfl (by kernel_rfl) (by kernel_rfl) (by kernel_rfl) (fun _ _ _ h => h) (Or.inl ⟨by rfl, ?_⟩) (by assumption) ?_
  · (intro w0 hSw; rw [← HU2.out]; go_simp)
  try simp only [Act.put, List.setIfInBounds_toArray, List.set_cons_zero, List.set_cons_succ]
  refine wpAnyH_ready (rs := [6]) (by kernel_rfl) (by simp) ?_
  refine AllReadyH.cons (o := { dst := some 26, op := Go.Op.call { callee := Go.Callee.builtin Go.Builtin.append, args := #[Go.Operand.tmp 22, Go.Operand.tmp 25], argTypes := #[103, 103] }, type := 103, pos := "slices.go:232", after := #[{ on := 2, ground := Go.Ground.data }, { on := 5, ground := Go.Ground.data }], guard := none }) rfl (fun K hK => ?_) AllReadyH.nil
  refine step_append_run rfl _ _ _ rfl _ _ _ _ rfl (by rfl) HR.out ?_
  refine hK.out _ _ trivial (fun hHeld => ?_)
  clear hK K
  try simp only [Act.put, List.setIfInBounds_toArray, List.set_cons_zero, List.set_cons_succ]
  refine wpAnyH_take (i := 7) (oi := { dst := some 0, op := Go.Op.assign (Go.Operand.tmp 26), type := 103, pos := "slices.go:232", after := #[{ on := 6, ground := Go.Ground.data }, { on := 6, ground := Go.Ground.chain }, { on := 0, ground := Go.Ground.phase }, { on := 1, ground := Go.Ground.phase }, { on := 2, ground := Go.Ground.phase }, { on := 3, ground := Go.Ground.phase }, { on := 4, ground := Go.Ground.phase }, { on := 5, ground := Go.Ground.phase }, { on := 6, ground := Go.Ground.phase }], guard := none }) (v := ?_) rfl (by kernel_rfl) (by kernel_rfl) (by kernel_rfl) (fun _ _ _ h => h) (Or.inl ⟨by rfl, ?_⟩) (by assumption) ?_
  rotate_left
  · (intro w0 hSw; (try dsimp only at hSw); go_split_ands; go_simp; with_reducible rfl)
  try simp only [Act.put, List.setIfInBounds_toArray, List.set_cons_zero]
  refine wpAnyH_done (by kernel_rfl) ?_ _
  clear hHeld
  have HCL : Hid (∀ ty, (Builtin.clear_ #[103] ty #[.slice (some ⟨g, n * 2, none⟩) 1 (cp - n)]).run Try.prog w2 = .ok (.tuple #[]) (w2.setCells g (n * 2) [.int .i64 0, .int .u64 0])) := Lib.hid (fun ty => by
    have hzc : (Builtin.zeroCells (Value.agg #[.int .i64 0, .int .u64 0]).cells 1).toList = [.int .i64 0, .int .u64 0] := by kernel_rfl
    have hst := run_storeCells_cells (P := Try.prog) g (n * 2) [.int .i64 0, .int .u64 0] 0 w2 (fun q hq => by
      have hq : q < 2 := hq
      exact own_room HO2.out (by omega)) (fun q _ => (own_cells HO2.out).2 _) (by intro v hv; simp only [List.mem_cons, List.not_mem_nil, or_false] at hv; rcases hv with rfl | rfl <;> rfl)
    simp only [Nat.add_zero] at hst
    simp [Builtin.clear_, run_underlying Try.underlying103, hzc, hst])
  have HFI : Hid ((w2.setCells g (n * 2) [.int .i64 0, .int .u64 0]).ownsRow base 105 2 (.slice (some ⟨g, 0, none⟩) n cp) n (invL (l.eraseIdx i)) ∧ w.grownBy (w2.setCells g (n * 2) [.int .i64 0, .int .u64 0]) (some g)) := Lib.hid ⟨own_set_past (own_set_past HO2.out (Nat.le_refl _) _) (Nat.le_succ _) _, (show w.grownBy w2 (some g) from ⟨HG2.out.os, HG2.out.tape, HG2.out.output, HG2.out.size, HG2.out.block⟩).andThen (setCells_grown _ _ _ _) (fun j hj => .inr hj)⟩
  go_wp2
  rw [HCL.out]
  go_wp2
  go_ret
  exact ⟨rfl, HFI.out⟩
/-! ### Deliver -/
theorem max_tmod (n : Int) (len i : Nat) (h : (max n 0) % (len : Int) = (i : Int)) : (max n 0).tmod (len : Int) = (i : Int) := by
  rw [Int.tmod_eq_emod_of_nonneg (by omega)]
  exact h
def clrC (F : Int → Nat → Option Nat) (c : Int) (f j : Nat) : Int → Nat → Option Nat := fun c' a => if c' = c ∧ f ≤ a ∧ a < f + 4 * j ∧ (a - f) % 4 = 0 then none else F c' a
theorem clrC_zero (F : Int → Nat → Option Nat) (c : Int) (f : Nat) : clrC F c f 0 = F := by
  funext c' a
  unfold clrC
  rw [if_neg (by omega)]
theorem clrC_step (F : Int → Nat → Option Nat) (c : Int) (f j : Nat) : upd (clrC F c f j) c (f + 4 * j) none = clrC F c f (j + 1) := by
  funext c' a
  unfold upd clrC
  by_cases h1 : c' = c ∧ a = f + 4 * j
  · rw [if_pos h1, if_pos (by omega)]
  · rw [if_neg h1]
    by_cases h2 : c' = c ∧ f ≤ a ∧ a < f + 4 * j ∧ (a - f) % 4 = 0
    · rw [if_pos h2, if_pos (by omega)]
    · rw [if_neg h2, if_neg (by omega)]
def Sd.atK (S : Sd) (c n : Int) : Nat := ((max n 0) % ((S.Wt c.toNat).length : Int)).toNat
def Sd.deliver (S : Sd) (c n : Int) : Sd := if S.waitN c = 0 then S else { S with
  C := clrC S.C c (((S.Wt c.toNat).getD (S.atK c n) (0, 0)).2 - ((S.Wt c.toNat).getD (S.atK c n) (0, 0)).2 % 64) 16
  Wt := fun d => if d = c.toNat then (S.Wt c.toNat).eraseIdx (S.atK c n) else S.Wt d }
section
variable {w : World} {lo : Nat → Prop} {p : Nat} {L : Pl} {V : Nat → Value} {S : Sd}
set_option maxRecDepth 100000 in
set_option maxHeartbeats 8000000 in
theorem deliver_c (h : SdC w lo p L V S) (c n : Int) (hn : n ≤ 9223372036854775807) (hwl : ∀ d, d < S.n → (S.Wt d).length ≤ 1000000) (hw2 : ∀ d, d < S.n → ∀ y ∈ S.Wt d, y.2 < 18446744073709551616) :
    Calls Try.prog 20 #[.pointer (some ⟨p, 0, none⟩), .int .i64 c, .int .i64 n] w fun e w' => e = .returned (.bool (decide (S.waitN c ≠ 0))) ∧ (∃ V', SdC w' lo p L V' (S.deliver c n)) ∧ Sv lo w w' := by
  have HWT := Lib.hid (waiting_c h c)
  have H := Lib.hid h
  by_cases h0 : S.waitN c = 0
  · have HV : Hid (S.deliver c n = S) := Lib.hid (if_pos h0)
    have HD : Hid (decide (S.waitN c ≠ 0) = false) := Lib.hid (decide_eq_false fun h => h h0)
    rw [HD.out]
    rw [h0] at HWT
    clear h h0 hwl hw2
    go_enter Try.func20, Try.ntmps20
    go_wp2_with (go_at_call 48; refine HWT.out.mono ?_; rintro e w1 ⟨rfl, h1⟩; obtain rfl := h1.symm)
    go_ret
    exact ⟨rfl, ⟨V, by rw [HV.out]; exact H.out⟩, Sv.refl _ _⟩
  · have HD : Hid (decide (S.waitN c ≠ 0) = true) := Lib.hid (decide_eq_true h0)
    rw [HD.out]
    have hc : isC S c := by
      unfold Sd.waitN at h0
      split at h0
      · assumption
      · exact absurd rfl h0
    obtain ⟨k, rfl⟩ := Int.eq_ofNat_of_zero_le hc.1
    have hk : k < S.n := by have := hc.2; omega
    have hw : S.waitN (k : Int) = (S.Wt k).length := if_pos hc
    have hpos : 0 < (S.Wt k).length := by omega
    obtain ⟨i, hi⟩ : ∃ i, S.atK (k : Int) n = i := ⟨_, rfl⟩
    have hi1 : (max n 0) % ((S.Wt k).length : Int) = (i : Int) := by
      have h1 := Int.emod_nonneg (max n 0) (b := ((S.Wt k).length : Int)) (by omega)
      have h2 : S.atK (k : Int) n = ((max n 0) % ((S.Wt k).length : Int)).toNat := rfl
      omega
    have hil : i < (S.Wt k).length := by
      have h2 := Int.emod_lt_of_pos (max n 0) (b := ((S.Wt k).length : Int)) (by omega)
      omega
    obtain ⟨y, hy⟩ : ∃ y, (S.Wt k).getD i (0, 0) = y := ⟨_, rfl⟩
    have hyl : (S.Wt k)[i]? = some y := by rw [List.getD_eq_getElem?_getD] at hy; rw [← hy, List.getElem?_eq_getElem hil]; rfl
    have HV : Hid (S.deliver (k : Int) n = { S with C := clrC S.C (k : Int) (y.2 - y.2 % 64) 16, Wt := fun d => if d = k then (S.Wt k).eraseIdx i else S.Wt d }) := Lib.hid (by
      unfold Sd.deliver
      rw [if_neg h0]
      show ({ S with C := clrC S.C (k : Int) (((S.Wt k).getD (S.atK (k : Int) n) (0, 0)).2 - ((S.Wt k).getD (S.atK (k : Int) n) (0, 0)).2 % 64) 16, Wt := fun d => if d = k then (S.Wt k).eraseIdx (S.atK (k : Int) n) else S.Wt d } : Sd) = _
      rw [hi, hy])
    have hy2 : y.2 < 18446744073709551616 := hw2 k hk y (List.mem_of_getElem? hyl)
    have hlb := hwl k hk
    rw [hw] at HWT
    obtain ⟨g, cp, hv, hg0, hg1⟩ := own_pos (h.rows k hk) hpos
    have c4 := h.cells.2.2.2.2
    have cw := (h.wcell hk).1
    rw [hv] at cw
    have hrow := h.rows k hk
    rw [hv] at hrow
    have cy : w.cell? ⟨g, i * 2 + 1, none⟩ = some (.int .u64 (y.2 : Nat)) := (own_cells hrow).1 _ _ (by
      have h1 := invL_drop (S.Wt k) i
      have h2 : ((invL (S.Wt k)).drop (i * 2))[1]? = some (.int .u64 (y.2 : Nat)) := by
        rw [h1, List.drop_eq_getElem_cons hil]
        have : (S.Wt k)[i] = y := by have := List.getElem?_eq_getElem hil; rw [hyl] at this; injection this with this; exact this.symm
        rw [this]
        rfl
      rw [List.getElem?_drop] at h2
      exact h2)
    have gk : (k : Int) < S.n := by omega
    have gl : ((S.Wt k).length : Int) ≠ 0 := by omega
    have gz : (((S.Wt k).length : Int) == 0) = false := by rw [beq_eq_false_iff_ne]; omega
    have gi : (i : Int) < ((S.Wt k).length : Int) := by omega
    have HVK := Lib.hid hv
    have HIL := Lib.hid hil
    have HLB := Lib.hid hlb
    have HK := Lib.hid hk
    have hmx : (if n < 0 then (0 : Int) else n) % ((S.Wt k).length : Int) = (i : Int) := by rw [show (if n < 0 then (0 : Int) else n) = max n 0 by split <;> omega]; exact hi1
    have hsz : ∀ d, (S.Wt d).length = (S.Wt d).length := fun _ => rfl
    generalize hlen : (S.Wt k).length = len at HWT cw gl gz gi hmx
    have HLEN := Lib.hid hlen
    clear hsz hlen
    clear h h0 hwl hw2 hc hw hpos hi hi1 hil hyl hlb hk hrow hy
    go_enter Try.func20, Try.ntmps20
    have HMX := Lib.hid hmx
    clear hmx
    go_upto_region 4 with (go_at_call 48; refine HWT.out.mono ?_; rintro e w1 ⟨rfl, h1⟩; obtain rfl := h1.symm)
    go_cut [2] from 21 to 25 (fun s wx => s = .int .i64 (i : Int) ∧ wx = w)
    case first =>
      have hmx := HMX.out
      by_cases hn0 : n < 0
      · rw [if_pos hn0] at hmx
        have h0 : (i : Int) = 0 := by rw [← hmx]; exact Int.zero_emod _
        clear hmx
        go_wp2_with fail
        go_meet
        case rel => exact ⟨by rw [h0], rfl⟩
      · rw [if_neg hn0] at hmx
        go_wp2_with fail
        go_meet
        case rel => first | exact ⟨rfl, rfl⟩ | exact ⟨by rw [hmx], rfl⟩
    case rest =>
    obtain ⟨rfl, h1⟩ := hcut
    obtain rfl := h1.symm
    clear c4 gz gl cw HWT
    have HWD := Lib.hid (words_c w hy2)
    go_wp2_with (go_at_call 56; refine HWD.out.mono ?_; rintro e w1 ⟨⟨v', rfl, ho⟩, hb⟩; obtain ⟨gw, cpw, rfl, hgw, hgw2⟩ := own_pos ho (by omega); have HO := Lib.hid ho; have HB1 := Lib.hid hb; clear ho hb)
    have H64 : Hid ((y.2 - y.2 % 64) + 64 ≤ 18446744073709551616) := Lib.hid (by omega)
    generalize y.2 - y.2 % 64 = f at HV HO H64
    have HS1 : Hid (SdC w1 lo p L V { S with C := clrC S.C (k : Int) f 0 }) := Lib.hid (by rw [clrC_zero]; exact H.out.past HB1.out)
    have HBl : Hid (Sv lo w w1) := Lib.hid (Sv.of HB1.out)
    have HBC : Hid (L.bc < w.heap.size) := Lib.hid H.out.mc.lt
    have HNE : Hid (gw ≠ L.bc) := Lib.hid (fun e => by have := HBC.out; have := hgw; omega)
    clear cy HWD
    go_loopw [9, 33] (fun _ s33 wr => ∃ j : Nat, j ≤ 16 ∧ s33 = .int .i64 j ∧ Hid (SdC wr lo p L V { S with C := clrC S.C (k : Int) f j }) ∧ Hid (w1.grownBy wr (some L.bc))) (fun _ s33 _ => 17 - (intOf s33).toNat)
    case atStart => exact ⟨0, by omega, rfl, HS1, Lib.hid ⟨rfl, rfl, rfl, Nat.le_refl _, fun _ _ _ => rfl⟩⟩
    case round =>
      obtain ⟨j, hj, rfl, HS, HG⟩ := hrel
      by_cases hlt : j < 16
      · have c0 : wr.cell? ⟨gw, j, none⟩ = some (.int .u64 ((f + 4 * j : Nat) : Int)) := (own_cells (own_kept HO.out fun q hq => HG.out.block q (HO.out.lt q hq).2 (fun e => by injection hq with hq; injection e with e; exact HNE.out (hq.trans e)))).1 j _ (by unfold wlL; rw [List.getElem?_map, List.getElem?_range hlt]; rfl)
        have gj : (j : Int) < 16 := by omega
        have c2 := HS.out.cells.2.2.1
        have hok : Okk (k : Int) (f + 4 * j) := ⟨by omega, by have := HK.out; have := H.out.n4.2; omega, by have := H64.out; omega⟩
        have HOK := Lib.hid hok
        obtain ⟨x, hx⟩ : ∃ x, f + 4 * j = x := ⟨_, rfl⟩
        rw [hx] at c0 HOK
        have HX := Lib.hid hx
        clear hok hx
        go_wp2_with (at_delete; refine wpList_del rfl _ _ rfl rfl rfl HS.out.mc HOK.out ?_; intro w2 hm hg; have HS2 := Lib.hid (HS.out.setC (Nat.le_refl _) hm hg); have HG2 := Lib.hid (HG.out.andThen hg (fun j hj => .inr hj)); clear hm hg)
        exact ⟨⟨j + 1, by omega, by go_num, Lib.hid (by rw [← clrC_step, HX.out]; exact HS2.out), HG2⟩, by simp [intOf]; omega⟩
      · have hj16 : j = 16 := by omega
        subst hj16
        go_upto_region 10 with (fail)
        have hbd : Below wr.heap.size wr wr.drew := below_drewN (Below.refl _ _) 1
        have HSd := Lib.hid (HS.out.past hbd)
        have HBd : Hid (Sv lo w wr.drew) := Lib.hid ((HBl.out.grown HG.out (fun q hq => by injection hq with hq; subst hq; exact H.out.lc)).trans (Sv.of hbd))
        clear hbd
        refine wp_region_held_drew (S := fun w' => w'.cell? ⟨p, 4, none⟩ = some (.slice (some ⟨L.wb, 0, none⟩) S.n S.n)) (by kernel_rfl) HSd.out.cells.2.2.2.2 (fun hHeld => ?_)
        generalize wr.drew = V1 at HSd HBd hHeld ⊢
        have hrow := HSd.out.rows k HK.out
        rw [HVK.out] at hrow
        have hrow : V1.ownsRow 0 105 2 (.slice (some ⟨g, 0, none⟩) (S.Wt k).length cp) (S.Wt k).length (invL (S.Wt k)) := hrow
        have HDL := Lib.hid (delete_c V1 0 g cp (S.Wt k) hrow HIL.out HLB.out)
        rw [HLEN.out] at HDL
        have HCW := Lib.hid (HSd.out.wcell HK.out)
        have k8 : IntKind.i64.wrap ((i : Int) + 1) = (i : Int) + 1 := by have := HIL.out; have := HLB.out; rw [IntKind.wrap_i64]; omega
        clear hrow
        refine wpAnyH_take (i := 0) (oi := { dst := some 45, op := Go.Op.move (Go.Operand.tmp 0), type := 37, pos := "icache.go:172", after := #[], guard := none }) (v := ?_) rfl (by kernel_rfl) (by kernel_rfl) (by kernel_rfl) (fun _ _ _ h => h) (Or.inl ⟨by rfl, ?_⟩) (by assumption) ?_
        rotate_left
        · (intro w0 hSw; (try dsimp only at hSw); go_split_ands; go_simp; with_reducible rfl)
        try simp only [Act.put, List.setIfInBounds_toArray, List.set_cons_zero, List.set_cons_succ]
        refine wpAnyH_take (i := 1) (oi := { dst := some 46, op := Go.Op.nilCheck (Go.Operand.tmp 45), type := 0, pos := "icache.go:172", after := #[{ on := 0, ground := Go.Ground.data }], guard := none }) (v := ?_) rfl (by kernel_rfl) (by kernel_rfl) (by kernel_rfl) (fun _ _ _ h => h) (Or.inl ⟨by rfl, ?_⟩) (by assumption) ?_
        rotate_left
        · (intro w0 hSw; (try dsimp only at hSw); go_split_ands; go_simp; with_reducible rfl)
        try simp only [Act.put, List.setIfInBounds_toArray, List.set_cons_zero, List.set_cons_succ]
        refine wpAnyH_take (i := 2) (oi := { dst := some 47, op := Go.Op.fieldAddr 80 (Go.Operand.tmp 46) 4, type := 0, pos := "icache.go:172", after := #[{ on := 1, ground := Go.Ground.data }], guard := none }) (v := ?_) rfl (by kernel_rfl) (by kernel_rfl) (by kernel_rfl) (fun _ _ _ h => h) (Or.inl ⟨by rfl, ?_⟩) (by assumption) ?_
        rotate_left
        · (intro w0 hSw; (try dsimp only at hSw); go_split_ands; go_simp; with_reducible rfl)
        try simp only [Act.put, List.setIfInBounds_toArray, List.set_cons_zero, List.set_cons_succ]
        refine wpAnyH_take (i := 3) (oi := { dst := some 48, op := Go.Op.load 78 (Go.Operand.tmp 47), type := 78, pos := "icache.go:172", after := #[{ on := 2, ground := Go.Ground.data }], guard := none }) (v := ?_) rfl (by kernel_rfl) (by kernel_rfl) (by kernel_rfl) (fun _ _ _ h => h) (Or.inl ⟨by rfl, ?_⟩) (by assumption) ?_
        rotate_left
        · (intro w0 hSw; (try dsimp only at hSw); go_split_ands; go_simp; with_reducible rfl)
        try simp only [Act.put, List.setIfInBounds_toArray, List.set_cons_zero, List.set_cons_succ]
        refine wpAnyH_take (i := 4) (oi := { dst := some 49, op := Go.Op.move (Go.Operand.tmp 1), type := 3, pos := "icache.go:172", after := #[], guard := none }) (v := ?_) rfl (by kernel_rfl) (by kernel_rfl) (by kernel_rfl) (fun _ _ _ h => h) (Or.inl ⟨by rfl, ?_⟩) (by assumption) ?_
        rotate_left
        · (intro w0 hSw; (try dsimp only at hSw); go_split_ands; go_simp; with_reducible rfl)
        try simp only [Act.put, List.setIfInBounds_toArray, List.set_cons_zero, List.set_cons_succ]
        refine wpAnyH_take (i := 5) (oi := { dst := some 50, op := Go.Op.move (Go.Operand.tmp 7), type := 103, pos := "icache.go:172", after := #[], guard := none }) (v := ?_) rfl (by kernel_rfl) (by kernel_rfl) (by kernel_rfl) (fun _ _ _ h => h) (Or.inl ⟨by rfl, ?_⟩) (by assumption) ?_
        rotate_left
        · (intro w0 hSw; (try dsimp only at hSw); go_split_ands; go_simp; with_reducible rfl)
        try simp only [Act.put, List.setIfInBounds_toArray, List.set_cons_zero, List.set_cons_succ]
        refine wpAnyH_take (i := 6) (oi := { dst := some 51, op := Go.Op.move (Go.Operand.tmp 2), type := 3, pos := "icache.go:172", after := #[], guard := none }) (v := ?_) rfl (by kernel_rfl) (by kernel_rfl) (by kernel_rfl) (fun _ _ _ h => h) (Or.inl ⟨by rfl, ?_⟩) (by assumption) ?_
        rotate_left
        · (intro w0 hSw; (try dsimp only at hSw); go_split_ands; go_simp; with_reducible rfl)
        try simp only [Act.put, List.setIfInBounds_toArray, List.set_cons_zero, List.set_cons_succ]
        refine wpAnyH_take (i := 7) (oi := { dst := some 52, op := Go.Op.move (Go.Operand.tmp 2), type := 3, pos := "icache.go:172", after := #[], guard := none }) (v := ?_) rfl (by kernel_rfl) (by kernel_rfl) (by kernel_rfl) (fun _ _ _ h => h) (Or.inl ⟨by rfl, ?_⟩) (by assumption) ?_
        rotate_left
        · (intro w0 hSw; (try dsimp only at hSw); go_split_ands; go_simp; with_reducible rfl)
        try simp only [Act.put, List.setIfInBounds_toArray, List.set_cons_zero, List.set_cons_succ]
        refine wpAnyH_take (i := 8) (oi := { dst := some 53, op := Go.Op.binOp Go.BinOp.add 3 (Go.Operand.tmp 52) (Go.Operand.const (Go.Value.int Go.IntKind.i64 1)) 3, type := 3, pos := "icache.go:172", after := #[{ on := 7, ground := Go.Ground.data }], guard := none }) (v := ?_) rfl (by kernel_rfl) (by kernel_rfl) (by kernel_rfl) (fun _ _ _ h => h) (Or.inl ⟨by rfl, ?_⟩) (by assumption) ?_
        rotate_left
        · (intro w0 hSw; (try dsimp only at hSw); go_split_ands; go_simp; with_reducible rfl)
        try simp only [Act.put, List.setIfInBounds_toArray, List.set_cons_zero, List.set_cons_succ]
        refine wpAnyH_ready (rs := [9]) (by kernel_rfl) (by simp) ?_
        refine AllReadyH.cons (o := { dst := some 54, op := Go.Op.call { callee := Go.Callee.value (Go.Operand.func 57), args := #[Go.Operand.tmp 50, Go.Operand.tmp 51, Go.Operand.tmp 53], argTypes := #[103, 3, 3] }, type := 103, pos := "icache.go:172", after := #[{ on := 5, ground := Go.Ground.data }, { on := 6, ground := Go.Ground.data }, { on := 8, ground := Go.Ground.data }], guard := none }) rfl (fun K hK => ?_) AllReadyH.nil
        go_simp
        go_at_call 57
        refine HDL.out.mono ?_
        rintro e w2 ⟨rfl, ho2, hg2⟩
        have hk2 := HSd.out.grow_keep HK.out (w1 := w2) (by rw [HVK.out]; exact hg2)
        have e2 : w2.cell? ⟨p, 4, none⟩ = some (.slice (some ⟨L.wb, 0, none⟩) S.n S.n) := by rw [cell_of_row w2 p 4 _ 80 _ (hk2.1.trans HSd.out.row)]; rfl
        have e3 : w2.cell? ⟨L.wb, k, none⟩ = some (V k) := (show w2.cell? ⟨L.wb, k, none⟩ = _ by unfold World.cell?; rw [hk2.2]).trans HCW.out.1
        have f3 : w2.frozen? ⟨L.wb, k, none⟩ = false := (show w2.frozen? ⟨L.wb, k, none⟩ = _ by unfold World.frozen?; rw [hk2.2]).trans HCW.out.2
        rw [HVK.out] at e3
        have hel : ((S.Wt k).eraseIdx i).length = len - 1 := by rw [List.length_eraseIdx_of_lt HIL.out, HLEN.out]
        have hsw := HSd.out.setW HK.out (w1 := w2) (v' := .slice (some ⟨g, 0, none⟩) (len - 1) cp) (l' := (S.Wt k).eraseIdx i) (by rw [HVK.out]; exact hg2) (by rw [hel] at ho2 ⊢; exact ho2) (fun q hq => .inl (by rw [HVK.out]; exact hq))
        have HSW := Lib.hid hsw.1
        have HBW := Lib.hid (HBd.out.trans hsw.2)
        have e4 := hsw.1.cells.2.2.2.2
        clear hsw hk2 ho2 hg2 hel
        refine hK.out _ _ e2 (fun hHeld => ?_)
        clear hK K
        try simp only [Act.put, List.setIfInBounds_toArray, List.set_cons_zero, List.set_cons_succ]
        refine wpAnyH_take (i := 10) (oi := { dst := some 55, op := Go.Op.indexAddr 78 (Go.Operand.tmp 48) (Go.Operand.tmp 49), type := 0, pos := "icache.go:172", after := #[{ on := 3, ground := Go.Ground.data }, { on := 4, ground := Go.Ground.data }, { on := 0, ground := Go.Ground.phase }, { on := 1, ground := Go.Ground.phase }, { on := 2, ground := Go.Ground.phase }, { on := 3, ground := Go.Ground.phase }, { on := 4, ground := Go.Ground.phase }, { on := 5, ground := Go.Ground.phase }, { on := 6, ground := Go.Ground.phase }, { on := 7, ground := Go.Ground.phase }, { on := 8, ground := Go.Ground.phase }, { on := 9, ground := Go.Ground.phase }], guard := none }) (v := ?_) rfl (by kernel_rfl) (by kernel_rfl) (by kernel_rfl) (fun _ _ _ h => h) (Or.inl ⟨by rfl, ?_⟩) (by assumption) ?_
        rotate_left
        · (intro w0 hSw; (try dsimp only at hSw); go_split_ands; go_simp; with_reducible rfl)
        try simp only [Act.put, List.setIfInBounds_toArray, List.set_cons_zero, List.set_cons_succ]
        refine wpAnyH_ready (rs := [11]) (by kernel_rfl) (by simp) ?_
        refine AllReadyH.cons (o := { dst := none, op := Go.Op.store 103 (Go.Operand.tmp 55) (Go.Operand.tmp 54), type := 0, pos := "icache.go:172", after := #[{ on := 10, ground := Go.Ground.data }, { on := 9, ground := Go.Ground.data }, { on := 9, ground := Go.Ground.chain }, { on := 0, ground := Go.Ground.phase }, { on := 1, ground := Go.Ground.phase }, { on := 2, ground := Go.Ground.phase }, { on := 3, ground := Go.Ground.phase }, { on := 4, ground := Go.Ground.phase }, { on := 5, ground := Go.Ground.phase }, { on := 6, ground := Go.Ground.phase }, { on := 7, ground := Go.Ground.phase }, { on := 8, ground := Go.Ground.phase }, { on := 9, ground := Go.Ground.phase }], guard := none }) rfl (fun K hK => ?_) AllReadyH.nil
        go_simp
        refine hK.out _ _ e4 (fun hHeld => ?_)
        clear hK K
        try simp only [Act.put, List.setIfInBounds_toArray, List.set_cons_zero, List.set_cons_succ]
        refine wpAnyH_done (by kernel_rfl) ?_ _
        clear hHeld
        go_wp2
        go_ret
        exact ⟨rfl, ⟨_, by rw [HV.out]; exact HSW.out⟩, HBW.out⟩
end
end Go.Proofs.Ytjcbhomfggjmhaa.Mm
