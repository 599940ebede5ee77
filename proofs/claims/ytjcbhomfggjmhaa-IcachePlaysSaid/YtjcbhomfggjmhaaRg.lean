import Derived.Test.YtjcbhomfggjmhaaRf
namespace Go.Proofs.Ytjcbhomfggjmhaa.Mm
open Go.ChangeShapes Go.WideShapes Go.ChangeAt Go.RowKit Go.Maps
set_option linter.unusedVariables false
/-- Elements of a slice type. -/
structure El (lt e : TypeId) (size : Nat) : Prop where
  ex : ∃ i z bytes, Try.prog.underlying lt = some (.slice e) ∧ Try.prog.info? e = some i ∧ i.zero = some z ∧ i.size = size ∧ i.bytes = bytes ∧ z.cells.size = size ∧ 0 < size ∧ bytes ≤ 64
theorem info118z : (Try.prog.info? 118).map (fun i => (i.zero, i.size, i.bytes)) = some (some (.agg #[.int .i64 0, .int .i64 0, .int .u64 0]), 3, 24) := by kernel_rfl
theorem el115 : El 82 115 3 := by
  obtain ⟨i, h1, h2, h3, h4⟩ := info_parts info115z
  exact ⟨i, _, _, Try.underlying82, h1, h2, h3, h4, rfl, by omega, by omega⟩
theorem el118 : El 83 118 3 := by
  obtain ⟨i, h1, h2, h3, h4⟩ := info_parts info118z
  exact ⟨i, _, _, Try.underlying83, h1, h2, h3, h4, rfl, by omega, by omega⟩
/-- What an append reads. -/
def Src (W : World) (size : Nat) (u : Value) (m : Nat) (news : List Value) : Prop := ∃ a c, u = .slice (some a) m c ∧ news.length = m * size ∧ (∀ j x, news[j]? = some x → W.cell? (a.add j) = some x) ∧ ∀ x ∈ news, x.oneCell' = true
theorem Src.past {w w' : World} {size m : Nat} {u : Value} {news : List Value} (h : Src w size u m news) (hb : Below w.heap.size w w') : Src w' size u m news := by
  obtain ⟨a, c, e, hl, hc, h1⟩ := h
  exact ⟨a, c, e, hl, fun j x hj => (hb.cell (p := a.add j) (World.block_lt_of_cell? w _ (hc j x hj))).trans (hc j x hj), h1⟩
theorem app_c {lt e : TypeId} {size : Nat} (he : El lt e size) (W : World) (base n m : Nat) (v u : Value) (xs news : List Value) (ho : W.ownsRow base e size v n xs) (hs : Src W size u m news) (hm : n + m ≤ 1100000) (hb : base ≤ W.heap.size) :
    ∃ v' W', (Builtin.append_ #[lt, lt] lt #[v, u]).run Try.prog W = .ok v' W' ∧ W'.ownsRow base e size v' (n + m) (xs ++ news) ∧ W.grownBy W' v.ownBlock ∧ (v'.ownBlock = v.ownBlock ∨ v'.ownBlock = some W.heap.size) := by
  obtain ⟨i0, z, bytes, h1, hi, hz0, hz1, hz2, hzs, hp, hby⟩ := he.ex
  obtain ⟨a, c, rfl, hl, hc, h1'⟩ := hs
  obtain ⟨v', W', h2, h3, h4, _, h5⟩ := run_append_own_at (P := Try.prog) W base lt lt e i0 z size bytes h1 hi hz0 hz1 hz2 hzs hp v n xs ho a m c news hl hc h1' (by unfold maxLen; omega) (Nat.le_trans (Nat.mul_le_mul hm hby) (by omega)) hb
  exact ⟨v', W', h2, h3, h4, h5⟩
theorem own_srcs {w : World} {base n g cap size : Nat} {e : TypeId} {xs : List Value} (h : w.ownsRow base e size (.slice (some ⟨g, 0, none⟩) n cap) n xs) (h1 : ∀ x ∈ xs, x.oneCell' = true) {i : Nat} (hi : i < n) :
    Src w size (.slice (some ⟨g, 0, none⟩) i cap) i (xs.take (i * size)) ∧ Src w size (.slice (some (if cap = i + 1 then ⟨g, 0, none⟩ else ⟨g, (i + 1) * size, none⟩)) (n - (i + 1)) (cap - (i + 1))) (n - (i + 1)) (xs.drop ((i + 1) * size)) := by
  have hcell := (own_cells h).1
  have hcap := own_cap h
  have hlen := h.1
  have hle : (i + 1) * size ≤ n * size := Nat.mul_le_mul_right _ hi
  refine ⟨⟨_, _, rfl, ?_, fun j x hj => ?_, fun x hx => h1 x (List.mem_of_mem_take hx)⟩, ⟨_, _, rfl, ?_, fun j x hj => ?_, fun x hx => h1 x (List.mem_of_mem_drop hx)⟩⟩
  · rw [List.length_take, hlen, Nat.min_eq_left (by rw [Nat.add_mul] at hle; omega)]
  · rw [Go.WideShapes.add_plain, Nat.zero_add]
    refine hcell j x ?_
    rw [List.getElem?_take] at hj
    split at hj
    · exact hj
    · cases hj
  · rw [List.length_drop, hlen, Nat.sub_mul]
  · rw [List.getElem?_drop] at hj
    by_cases hc : cap = i + 1
    · have hlt := (List.getElem?_eq_some_iff.1 hj).1
      have : n = i + 1 := by omega
      subst this
      omega
    · rw [if_neg hc, Go.WideShapes.add_plain]
      exact hcell _ x hj
theorem eraseIdx_cl (l : List Cl) (i : Nat) : clL (l.eraseIdx i) = (clL l).take (i * 3) ++ (clL l).drop ((i + 1) * 3) := by rw [List.eraseIdx_eq_take_drop_succ, clL_app, clL_take, clL_drop]
set_option maxRecDepth 100000 in
set_option maxHeartbeats 4000000 in
theorem drop_c (w : World) (B : Nat) (v : Value) (l : List Cl) (ho : w.ownsRow B 115 3 v l.length (clL l)) (hb : l.length ≤ 1000000) {i : Nat} (hi : i < l.length) :
    Calls Try.prog 65 #[v, .int .i64 i] w fun e w' => (∃ v', e = .returned v' ∧ w'.ownsRow w.heap.size 115 3 v' (l.eraseIdx i).length (clL (l.eraseIdx i))) ∧ Below w.heap.size w w' := by
  obtain ⟨pa, cp, rfl, hf⟩ := own_form ho
  obtain ⟨g, rfl⟩ : ∃ g, pa = some ⟨g, 0, none⟩ := by
    rcases hf with hf | hf
    · omega
    · exact hf
  have hcp := own_cap ho
  obtain ⟨hs1, hs2⟩ := own_srcs ho (clL_one l) hi
  have hle : (l.eraseIdx i).length = 0 + i + (l.length - (i + 1)) := by rw [List.length_eraseIdx_of_lt hi]; omega
  have hll : clL (l.eraseIdx i) = [] ++ (clL l).take (i * 3) ++ (clL l).drop ((i + 1) * 3) := by rw [eraseIdx_cl]; rfl
  have HLE := Lib.hid hle
  have HLL := Lib.hid hll
  rw [HLE.out, HLL.out]
  clear hle hll ho hf
  have HU1 : Hid (sliced (some ⟨g, 0, none⟩) 0 i cp 3 = .slice (some ⟨g, 0, none⟩) i cp) := Lib.hid (by unfold sliced; split <;> simp [Go.WideShapes.add_plain])
  have HU2 : Hid (sliced (some ⟨g, 0, none⟩) (i + 1) l.length cp 3 = .slice (some (if cp = i + 1 then ⟨g, 0, none⟩ else ⟨g, (i + 1) * 3, none⟩)) (l.length - (i + 1)) (cp - (i + 1))) := Lib.hid (by unfold sliced; split <;> simp [Go.WideShapes.add_plain])
  generalize (clL l).take (i * 3) = x1 at hs1 ⊢
  generalize (clL l).drop ((i + 1) * 3) = x2 at hs2 ⊢
  generalize l.length = n at hb hi hcp hs1 hs2 HU1 HU2 ⊢
  obtain ⟨u1, hu1⟩ : ∃ u1, Value.slice (some ⟨g, 0, none⟩) i cp = u1 := ⟨_, rfl⟩
  obtain ⟨u2, hu2⟩ : ∃ u2, Value.slice (some (if cp = i + 1 then ⟨g, 0, none⟩ else ⟨g, (i + 1) * 3, none⟩)) (n - (i + 1)) (cp - (i + 1)) = u2 := ⟨_, rfl⟩
  rw [hu1] at hs1 HU1
  rw [hu2] at hs2 HU2
  clear hu1 hu2 HLE HLL
  have HB0 : Hid (Below w.heap.size w (w.drew.alloc (.cells #[] 115))) := Lib.hid ((below_drewN (Below.refl _ _) 1).alloc (Nat.le_refl _) _)
  have HO0 : Hid ((w.drew.alloc (.cells #[] 115)).ownsRow w.heap.size 115 3 (.slice (some ⟨w.drew.heap.size, 0, none⟩) 0 0) 0 []) := Lib.hid (World.ownsRow_made w.drew #[] 0 (Nat.le_refl _) (by unfold maxLen; omega) rfl)
  have HS1 := Lib.hid (hs1.past HB0.out)
  have HS2 : Hid (∀ W, Below w.heap.size w W → Src W 3 u2 (n - (i + 1)) x2) := Lib.hid (fun W hb => hs2.past hb)
  have k1 : IntKind.i64.wrap ((i : Int) + 1) = (i : Int) + 1 := by rw [IntKind.wrap_i64]; omega
  have k2 : (i : Int) ≤ cp := by omega
  have k3 : (i : Int) + 1 ≤ n := by omega
  have k4 : (n : Int) ≤ cp := by omega
  have k5 : (0 : Int) ≤ i := by omega
  have k6 : (0 : Int) ≤ (i : Int) + 1 := by omega
  clear hs1 hs2
  go_enter Try.func65, Try.ntmps65
  go_wp2
  refine wp_region_held_drew (S := fun _ => True) (by kernel_rfl) trivial (fun hHeld => ?_)
  refine wpAnyH_take (i := 1) (oi := { dst := some 6, op := Go.Op.move (Go.Operand.tmp 0), type := 82, pos := "ref.go:47", after := #[], guard := none }) (v := ?_) rfl (by kernel_rfl) (by kernel_rfl) (by kernel_rfl) (fun _ _ _ h => h) (Or.inl ⟨by rfl, ?_⟩) (by assumption) ?_
  rotate_left
  · (intro w0 hSw; (try dsimp only at hSw); go_split_ands; go_simp; with_reducible rfl)
  try simp only [Act.put, List.setIfInBounds_toArray, List.set_cons_zero, List.set_cons_succ]
  refine wpAnyH_take (i := 2) (oi := { dst := some 7, op := Go.Op.move (Go.Operand.tmp 1), type := 3, pos := "ref.go:47", after := #[], guard := none }) (v := ?_) rfl (by kernel_rfl) (by kernel_rfl) (by kernel_rfl) (fun _ _ _ h => h) (Or.inl ⟨by rfl, ?_⟩) (by assumption) ?_
  rotate_left
  · (intro w0 hSw; (try dsimp only at hSw); go_split_ands; go_simp; with_reducible rfl)
  try simp only [Act.put, List.setIfInBounds_toArray, List.set_cons_zero, List.set_cons_succ]
  refine wpAnyH_take (i := 3) (oi := { dst := some 8, op := Go.Op.slice 82 (Go.Operand.tmp 6) none (some (Go.Operand.tmp 7)) none, type := 82, pos := "ref.go:47", after := #[{ on := 1, ground := Go.Ground.data }, { on := 2, ground := Go.Ground.data }], guard := none }) (v := u1) rfl (by kernel_rfl) (by kernel_rfl) (by kernel_rfl) (fun _ _ _ h => h) (Or.inl ⟨by rfl, ?_⟩) (by assumption) ?_
  · (intro w0 hSw; rw [← HU1.out]; go_simp)
  try simp only [Act.put, List.setIfInBounds_toArray, List.set_cons_zero, List.set_cons_succ]
  refine wpAnyH_take (i := 5) (oi := { dst := some 10, op := Go.Op.move (Go.Operand.tmp 0), type := 82, pos := "ref.go:47", after := #[], guard := none }) (v := ?_) rfl (by kernel_rfl) (by kernel_rfl) (by kernel_rfl) (fun _ _ _ h => h) (Or.inl ⟨by rfl, ?_⟩) (by assumption) ?_
  rotate_left
  · (intro w0 hSw; (try dsimp only at hSw); go_split_ands; go_simp; with_reducible rfl)
  try simp only [Act.put, List.setIfInBounds_toArray, List.set_cons_zero, List.set_cons_succ]
  refine wpAnyH_take (i := 6) (oi := { dst := some 11, op := Go.Op.move (Go.Operand.tmp 1), type := 3, pos := "ref.go:47", after := #[], guard := none }) (v := ?_) rfl (by kernel_rfl) (by kernel_rfl) (by kernel_rfl) (fun _ _ _ h => h) (Or.inl ⟨by rfl, ?_⟩) (by assumption) ?_
  rotate_left
  · (intro w0 hSw; (try dsimp only at hSw); go_split_ands; go_simp; with_reducible rfl)
  try simp only [Act.put, List.setIfInBounds_toArray, List.set_cons_zero, List.set_cons_succ]
  refine wpAnyH_take (i := 7) (oi := { dst := some 12, op := Go.Op.binOp Go.BinOp.add 3 (Go.Operand.tmp 11) (Go.Operand.const (Go.Value.int Go.IntKind.i64 1)) 3, type := 3, pos := "ref.go:47", after := #[{ on := 6, ground := Go.Ground.data }], guard := none }) (v := ?_) rfl (by kernel_rfl) (by kernel_rfl) (by kernel_rfl) (fun _ _ _ h => h) (Or.inl ⟨by rfl, ?_⟩) (by assumption) ?_
  rotate_left
  · (intro w0 hSw; (try dsimp only at hSw); go_split_ands; go_simp; with_reducible rfl)
  try simp only [Act.put, List.setIfInBounds_toArray, List.set_cons_zero, List.set_cons_succ]
  refine wpAnyH_take (i := 8) (oi := { dst := some 13, op := Go.Op.slice 82 (Go.Operand.tmp 10) (some (Go.Operand.tmp 12)) none none, type := 82, pos := "ref.go:47", after := #[{ on := 5, ground := Go.Ground.data }, { on := 7, ground := Go.Ground.data }], guard := none }) (v := u2) rfl (by kernel_rfl) (by kernel_rfl) (by kernel_rfl) (fun _ _ _ h => h) (Or.inl ⟨by rfl, ?_⟩) (by assumption) ?_
  · (intro w0 hSw; rw [← HU2.out]; go_simp)
  try simp only [Act.put, List.setIfInBounds_toArray, List.set_cons_zero, List.set_cons_succ]
  refine wpAnyH_ready (rs := [0]) (by kernel_rfl) (by simp) ?_
  refine AllReadyH.cons (o := { dst := some 5, op := Go.Op.buildSlice 82 0 #[], type := 82, pos := "ref.go:47", after := #[], guard := none }) rfl (fun K hK => ?_) AllReadyH.nil
  go_simp
  have h0 := HO0.out
  refine hK.out _ _ trivial (fun hHeld => ?_)
  clear hK K
  try simp only [Act.put, List.setIfInBounds_toArray, List.set_cons_zero, List.set_cons_succ]
  obtain ⟨v4, W4, hr4, ho4, hg4, _⟩ := app_c el115 _ w.heap.size 0 i _ u1 [] _ HO0.out HS1.out (by omega) (by simp)
  have HB4 := Lib.hid (HB0.out.grown hg4 HB0.out.size (fun q hq => (HO0.out.lt q hq).1))
  have HO4 := Lib.hid ho4
  have HR4 := Lib.hid hr4
  clear hr4 ho4 hg4 h0
  refine wpAnyH_ready (rs := [4]) (by kernel_rfl) (by simp) ?_
  refine AllReadyH.cons (o := { dst := some 9, op := Go.Op.call { callee := Go.Callee.builtin Go.Builtin.append, args := #[Go.Operand.tmp 5, Go.Operand.tmp 8], argTypes := #[82, 82] }, type := 82, pos := "ref.go:47", after := #[{ on := 0, ground := Go.Ground.data }, { on := 3, ground := Go.Ground.data }], guard := none }) rfl (fun K hK => ?_) AllReadyH.nil
  refine step_append_run rfl _ _ _ rfl _ _ _ _ rfl (by rfl) HR4.out ?_
  refine hK.out _ _ trivial (fun hHeld => ?_)
  clear hK K
  try simp only [Act.put, List.setIfInBounds_toArray, List.set_cons_zero, List.set_cons_succ]
  obtain ⟨v9, W9, hr9, ho9, hg9, _⟩ := app_c el115 W4 w.heap.size (0 + i) (n - (i + 1)) v4 u2 _ _ HO4.out (HS2.out _ HB4.out) (by omega) HB4.out.size
  have HB9 := Lib.hid (HB4.out.grown hg9 HB4.out.size (fun q hq => (HO4.out.lt q hq).1))
  have HO9 := Lib.hid ho9
  have HR9 := Lib.hid hr9
  clear hr9 ho9 hg9
  refine wpAnyH_ready (rs := [9]) (by kernel_rfl) (by simp) ?_
  refine AllReadyH.cons (o := { dst := some 14, op := Go.Op.call { callee := Go.Callee.builtin Go.Builtin.append, args := #[Go.Operand.tmp 9, Go.Operand.tmp 13], argTypes := #[82, 82] }, type := 82, pos := "ref.go:47", after := #[{ on := 4, ground := Go.Ground.data }, { on := 8, ground := Go.Ground.data }, { on := 4, ground := Go.Ground.chain }], guard := none }) rfl (fun K hK => ?_) AllReadyH.nil
  refine step_append_run rfl _ _ _ rfl _ _ _ _ rfl (by rfl) HR9.out ?_
  refine hK.out _ _ trivial (fun hHeld => ?_)
  clear hK K
  try simp only [Act.put, List.setIfInBounds_toArray, List.set_cons_zero, List.set_cons_succ]
  refine wpAnyH_take (i := 10) (oi := { dst := some 4, op := Go.Op.assign (Go.Operand.tmp 14), type := 82, pos := "ref.go:47", after := #[{ on := 9, ground := Go.Ground.data }, { on := 9, ground := Go.Ground.chain }, { on := 0, ground := Go.Ground.phase }, { on := 1, ground := Go.Ground.phase }, { on := 2, ground := Go.Ground.phase }, { on := 3, ground := Go.Ground.phase }, { on := 4, ground := Go.Ground.phase }, { on := 5, ground := Go.Ground.phase }, { on := 6, ground := Go.Ground.phase }, { on := 7, ground := Go.Ground.phase }, { on := 8, ground := Go.Ground.phase }, { on := 9, ground := Go.Ground.phase }], guard := none }) (v := ?_) rfl (by kernel_rfl) (by kernel_rfl) (by kernel_rfl) (fun _ _ _ h => h) (Or.inl ⟨by rfl, ?_⟩) (by assumption) ?_
  rotate_left
  · (intro w0 hSw; (try dsimp only at hSw); go_split_ands; go_simp; with_reducible rfl)
  try simp only [Act.put, List.setIfInBounds_toArray, List.set_cons_zero, List.set_cons_succ]
  refine wpAnyH_done (by kernel_rfl) ?_ _
  clear hHeld
  go_wp2
  go_ret
  exact ⟨⟨_, rfl, HO9.out⟩, HB9.out⟩
end Go.Proofs.Ytjcbhomfggjmhaa.Mm
