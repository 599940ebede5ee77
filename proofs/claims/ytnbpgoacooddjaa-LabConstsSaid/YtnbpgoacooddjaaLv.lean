import Derived.Test.YtnbpgoacooddjaaLu
namespace Go.Proofs.Ytnbpgoacooddjaa.Lab
open Go.ChangeShapes Go.WideShapes Go.ChangeAt Go.RowKit
set_option linter.unusedVariables false
attribute [local go_sem ↓] ld26 ld29 ld51 st26
attribute [local go_sem] rowAt_drew rowAt_drewN
/-- An effect. -/
def efA (r : Rg) (nx ad da : Int) (to : Bool) : Array Value := r.arr ++ #[.int .u64 nx, .int .u64 ad, .int .u64 da, .bool to]
theorem efA_size (r : Rg) (nx ad da : Int) (to : Bool) : (efA r nx ad da to).size = 40 := by simp [efA, r.size]
set_option maxRecDepth 100000 in
theorem built51 (r : Rg) (nx : Int) : Try.prog.built 51 [(0, .agg r.arr), (1, .int .u64 nx)] = some (efA r nx 0 0 false) := by kernel_rfl
theorem efA_one (r : Rg) (nx ad da : Int) (to : Bool) : (efA r nx ad da to).all (·.oneCell') = true := by
  refine Array.all_eq_true_iff_forall_mem.2 fun v hv => ?_
  have h1 := Array.all_eq_true_iff_forall_mem.1 r.one
  simp [efA] at hv
  rcases hv with hv | rfl | rfl | rfl | rfl
  · exact h1 v hv
  all_goals rfl
def z40 : Array Value := efA ⟨fun _ => 0, 0, false, false, false, false⟩ 0 0 0 false
theorem ef_all {w : World} {b : Nat} {r : Rg} {nx ad da : Int} {to : Bool} (h : rowAt w b = some (efA r nx ad da to)) : (Instr.loadAt 51 (.pointer (some ⟨b, 0, none⟩))).run Try.prog w = .ok (.agg (efA r nx ad da to)) w :=
  load_all Try.underlying51 rfl info51 h (efA_size _ _ _ _ _)
theorem st_regs {w : World} {b : Nat} {r r' : Rg} {nx ad da : Int} {to : Bool} (h : rowAt w b = some (efA r nx ad da to)) : (stAt 26 (.pointer (some ⟨b, 0, none⟩)) (.agg r'.arr)).run Try.prog w = .ok () (w.setCells b 0 r'.arr.toList) := by
  refine run_storeAt_mid w b 0 26 r'.arr (fun j hj => ?_) (by rw [Rg.size]; exact info25) r'.one
  rw [Rg.size] at hj
  rw [Nat.zero_add]
  refine ⟨?_, rowAt_frz h j⟩
  rw [rowAt_cell h j, Array.getElem?_eq_getElem (by rw [efA_size]; omega)]
  rfl
set_option maxRecDepth 100000 in
theorem fold_regs (r r' : Rg) (nx ad da : Int) (to : Bool) : some ((r'.arr.toList.zipIdx 0).foldl (fun cs x => cs.setIfInBounds x.2 x.1) (efA r nx ad da to)) = some (efA r' nx ad da to) := by kernel_rfl
theorem st_regs_row {w : World} {b : Nat} {r r' : Rg} {nx ad da : Int} {to : Bool} (h : rowAt w b = some (efA r nx ad da to)) : rowAt (w.setCells b 0 r'.arr.toList) b = some (efA r' nx ad da to) := by
  rw [setCells_row _ 0 w b _ h]
  exact fold_regs r r' nx ad da to
theorem wpl_build2 {P : Program} {ops : Array Oper} {rest : List Oper} {o : Oper} {a : Act} {w : World} {Q : Exit → Act → World → Prop} (hg : o.guard = none) (t : TypeId) (i j : Nat) (x y : Operand) (ho : o.op = .build t #[(i, x), (j, y)])
    (u v : Value) (hx : a.eval x = u) (hy : a.eval y = v) (cells : Array Value) (hf : P.built t [(i, u), (j, v)] = some cells)
    (h : wpList P ops Q rest (a.put o.dst (.agg cells)) w) : wpList P ops Q (o :: rest) a w :=
  wpl_build hg t _ ho [(i, u), (j, v)] (by simp [hx, hy]) cells hf h
set_option maxRecDepth 100000 in
theorem field_efA (r : Rg) (nx : Int) (w : World) : (Instr.field 51 (.agg (efA r nx 0 0 false)) 0).run Try.prog w = .ok (.agg r.arr) w := by kernel_rfl
set_option maxRecDepth 100000 in
set_option maxHeartbeats 4000000 in
theorem rdo_23 (o d m i v : Int) (ho : o = 2 ∨ o = 3) (d1 : 0 ≤ d) (d2 : d ≤ 30) (m1 : 0 ≤ m) (m2 : m ≤ 3) (i1 : 0 ≤ i) (i2 : i ≤ 65535) (r : Rg) (hv : ∀ w, Calls Try.prog 85 #[.agg #[.int .i64 o, .int .i64 d, .int .i64 0, .int .i64 m, .int .i64 0, .int .i64 0, .int .i64 i], .agg r.arr] w fun e w' => e = .returned (.tuple #[.int .u64 v, .bool true]) ∧ Below w.heap.size w w') (w : World) :
    Calls Try.prog 23 #[.agg #[.int .i64 o, .int .i64 d, .int .i64 0, .int .i64 m, .int .i64 0, .int .i64 0, .int .i64 i], .int .u64 0, .agg r.arr] w fun e w' => e = .returned (.agg (efA (r.set d v) 4 0 0 false)) ∧ Below w.heap.size w w' := by
  have HV := Lib.hid hv
  have HCK := Lib.hid (rcheck_23 o d m i ho d1 d2 m1 m2 i1 i2)
  have HGO := Lib.hid (rgoes_23 o d m i 0 ho r)
  have HDS := Lib.hid (rdest_23 o d m i d1 d2)
  have HST := Lib.hid (rstore_23 o ho)
  have HSE := Lib.hid (set14 r d v)
  clear hv
  obtain ⟨x0, hx0⟩ : ∃ x, Value.int .i64 o = x := ⟨_, rfl⟩
  have HI0 : Hid (rowAt (((w.alloc (.cells #[.int .i64 o, .int .i64 d, .int .i64 0, .int .i64 m, .int .i64 0, .int .i64 0, .int .i64 i] 29)).alloc (.cells r.arr 26)).alloc (.cells z40 51)) w.heap.size = some #[.int .i64 o, .int .i64 d, .int .i64 0, .int .i64 m, .int .i64 0, .int .i64 0, .int .i64 i]) := Lib.hid (rowAt_past (rowAt_past (rowAt_new _ _ _) _) _)
  have HR0 : Hid (rowAt (((w.alloc (.cells #[.int .i64 o, .int .i64 d, .int .i64 0, .int .i64 m, .int .i64 0, .int .i64 0, .int .i64 i] 29)).alloc (.cells r.arr 26)).alloc (.cells z40 51)) (w.heap.size + 1) = some r.arr) := Lib.hid (by have := rowAt_past (rowAt_new (w.alloc (.cells #[.int .i64 o, .int .i64 d, .int .i64 0, .int .i64 m, .int .i64 0, .int .i64 0, .int .i64 i] 29)) r.arr 26) (.cells z40 51); simpa using this)
  have HZ0 : Hid (rowAt (((w.alloc (.cells #[.int .i64 o, .int .i64 d, .int .i64 0, .int .i64 m, .int .i64 0, .int .i64 0, .int .i64 i] 29)).alloc (.cells r.arr 26)).alloc (.cells z40 51)) (w.heap.size + 1 + 1) = some z40) := Lib.hid (by have := rowAt_new ((w.alloc (.cells #[.int .i64 o, .int .i64 d, .int .i64 0, .int .i64 m, .int .i64 0, .int .i64 0, .int .i64 i] 29)).alloc (.cells r.arr 26)) z40 51; simpa using this)
  have HB0 : Hid (Below w.heap.size w (((w.alloc (.cells #[.int .i64 o, .int .i64 d, .int .i64 0, .int .i64 m, .int .i64 0, .int .i64 0, .int .i64 i] 29)).alloc (.cells r.arr 26)).alloc (.cells z40 51))) := Lib.hid ((((Below.refl _ _).alloc (Nat.le_refl _) _).alloc (by simp) _).alloc (by simp; omega) _)
  have HI1 := Lib.hid (rowAt_past HI0.out (.cells z40 51))
  have HR1 := Lib.hid (rowAt_past HR0.out (.cells z40 51))
  have HZ1 := Lib.hid (rowAt_past HZ0.out (.cells z40 51))
  have HE1 : Hid (rowAt ((((w.alloc (.cells #[.int .i64 o, .int .i64 d, .int .i64 0, .int .i64 m, .int .i64 0, .int .i64 0, .int .i64 i] 29)).alloc (.cells r.arr 26)).alloc (.cells z40 51)).alloc (.cells z40 51)) (w.heap.size + 1 + 1 + 1) = some z40) := Lib.hid (by have := rowAt_new (((w.alloc (.cells #[.int .i64 o, .int .i64 d, .int .i64 0, .int .i64 m, .int .i64 0, .int .i64 0, .int .i64 i] 29)).alloc (.cells r.arr 26)).alloc (.cells z40 51)) z40 51; simpa using this)
  have HB1 := Lib.hid (HB0.out.alloc HB0.out.size (.cells z40 51))
  clear hx0
  go_enter Try.func23, Try.ntmps23
  go_wp2_with (first | (refine wpl_load rfl 26 _ rfl (w.heap.size + 1) 0 rfl r.arr (reg_all HR0.out) ?_) | (refine wpl_build2 rfl 51 0 1 _ _ rfl (.agg r.arr) (.int .u64 4) rfl rfl _ (built51 r 4) ?_) | (refine wpl_store rfl 51 _ _ rfl (w.heap.size + 1 + 1 + 1) (efA r 4 0 0 false) z40 rfl rfl HE1.out (by rw [efA_size]; exact info51) (by rw [efA_size]; rfl) (efA_one _ _ _ _ _) ?_; intro w2 hrow2 hg2; have HE := Lib.hid hrow2; have HI := Lib.hid (rowAt_grown HI1.out hg2 (by omega)); have HR := Lib.hid (rowAt_grown HR1.out hg2 (by omega)); have HZ := Lib.hid (rowAt_grown HZ1.out hg2 (by omega)); have HB := Lib.hid (grown_below HB1.out hg2 (by omega)); clear hrow2 hg2) | (refine wpl_load rfl 29 _ rfl w.heap.size 0 rfl _ (ins_all HI.out) ?_) | (refine wpl_load rfl 26 _ rfl (w.heap.size + 1) 0 rfl r.arr (reg_all HR.out) ?_) | (go_at_call 83; refine (HCK.out _).mono ?_; rintro e w3 ⟨rfl, hb⟩; replace HI := Lib.hid (rowAt_below HI.out hb rfl); replace HR := Lib.hid (rowAt_below HR.out hb rfl); replace HE := Lib.hid (rowAt_below HE.out hb rfl); replace HZ := Lib.hid (rowAt_below HZ.out hb rfl); replace HB := Lib.hid (below_step HB.out hb rfl rfl rfl rfl); clear hb) | (go_at_call 84; refine (HGO.out _).mono ?_; rintro e w3 ⟨rfl, hb⟩; replace HI := Lib.hid (rowAt_below HI.out hb rfl); replace HR := Lib.hid (rowAt_below HR.out hb rfl); replace HE := Lib.hid (rowAt_below HE.out hb rfl); replace HZ := Lib.hid (rowAt_below HZ.out hb rfl); replace HB := Lib.hid (below_step HB.out hb rfl rfl rfl rfl); clear hb) | (go_at_call 85; refine (HV.out _).mono ?_; rintro e w3 ⟨rfl, hb⟩; replace HI := Lib.hid (rowAt_below HI.out hb rfl); replace HR := Lib.hid (rowAt_below HR.out hb rfl); replace HE := Lib.hid (rowAt_below HE.out hb rfl); replace HZ := Lib.hid (rowAt_below HZ.out hb rfl); replace HB := Lib.hid (below_step HB.out hb rfl rfl rfl rfl); clear hb))
  clear HI0 HR0 HZ0 HB0 HI1 HR1 HZ1 HE1 HB1 HV HCK HGO
  have hR := HR.out
  have hI := HI.out
  have hE := HE.out
  have n1 : w.heap.size + 1 ≠ w.heap.size + 1 + 1 + 1 := by omega
  have n2 : w.heap.size ≠ w.heap.size + 1 + 1 + 1 := by omega
  have n3 : w.heap.size + 1 + 1 ≠ w.heap.size + 1 + 1 + 1 := by omega
  have hl1 : ∀ w', rowAt w' (w.heap.size + 1) = some r.arr → (ldAt 26 (.pointer (some ⟨w.heap.size + 1, 0, none⟩))).run Try.prog w' = .ok (.agg r.arr) w' := fun w' h => ldr w' _ r h
  have hl2 : ∀ w', rowAt w' w.heap.size = some #[.int .i64 o, .int .i64 d, .int .i64 0, .int .i64 m, .int .i64 0, .int .i64 0, .int .i64 i] → (ldAt 29 (.pointer (some ⟨w.heap.size, 0, none⟩))).run Try.prog w' = .ok (.agg #[.int .i64 o, .int .i64 d, .int .i64 0, .int .i64 m, .int .i64 0, .int .i64 0, .int .i64 i]) w' := fun w' h => ldi w' _ _ _ _ _ _ _ _ h
  have hst : ∀ w', rowAt w' (w.heap.size + 1 + 1 + 1) = some (efA r 4 0 0 false) → (stAt 26 (.pointer (some ⟨w.heap.size + 1 + 1 + 1, 0, none⟩)) (.agg (r.set d v).arr)).run Try.prog w' = .ok () (w'.setCells (w.heap.size + 1 + 1 + 1) 0 (r.set d v).arr.toList) := fun w' h => st_regs h
  generalize hEE : efA r 4 0 0 false = Ee at *
  have HEE := Lib.hid hEE
  clear hEE
  go_region_held3 (fun w' => rowAt w' (w.heap.size + 1) = some r.arr ∧ rowAt w' w.heap.size = some #[.int .i64 o, .int .i64 d, .int .i64 0, .int .i64 m, .int .i64 0, .int .i64 0, .int .i64 i]) (first | exact ⟨setCells_far hRb n1 _ _, setCells_far hIb n2 _ _⟩ | exact ⟨hRb, hIb⟩ | exact ⟨hRa, hIa⟩ | exact ⟨hR, hI⟩) (first | (go_at_call 87; refine (HDS.out _).mono ?_; rintro e wa ⟨rfl, hba⟩; have hRa : rowAt wa (w.heap.size + 1) = some r.arr := rowAt_below hR hba rfl; have hIa : rowAt wa w.heap.size = some #[.int .i64 o, .int .i64 d, .int .i64 0, .int .i64 m, .int .i64 0, .int .i64 0, .int .i64 i] := rowAt_below hI hba rfl; have hEa := rowAt_below hE hba rfl; have HZa := Lib.hid (rowAt_below HZ.out hba rfl); have HBa := Lib.hid (below_step HB.out hba rfl rfl rfl rfl); clear hba) | (go_at_call 86; refine (HSE.out _).mono ?_; rintro e wb ⟨rfl, hbb⟩; have hRb : rowAt wb (w.heap.size + 1) = some r.arr := rowAt_below hRa hbb rfl; have hIb : rowAt wb w.heap.size = some #[.int .i64 o, .int .i64 d, .int .i64 0, .int .i64 m, .int .i64 0, .int .i64 0, .int .i64 i] := rowAt_below hIa hbb rfl; have hEb := rowAt_below hEa hbb rfl; have HZb := Lib.hid (rowAt_below HZa.out hbb rfl); have HBb := Lib.hid (below_step HBa.out hbb rfl rfl rfl rfl); clear hbb))
  have HEF : Hid (rowAt (wb.setCells (w.heap.size + 1 + 1 + 1) 0 (r.set d v).arr.toList) (w.heap.size + 1 + 1 + 1) = some (efA (r.set d v) 4 0 0 false)) := Lib.hid (st_regs_row (r := r) (by rw [HEE.out]; exact hEb))
  have HZF : Hid (rowAt (wb.setCells (w.heap.size + 1 + 1 + 1) 0 (r.set d v).arr.toList) (w.heap.size + 1 + 1) = some z40) := Lib.hid (setCells_far HZb.out n3 _ _)
  have HBF : Hid (Below w.heap.size w (wb.setCells (w.heap.size + 1 + 1 + 1) 0 (r.set d v).arr.toList)) := Lib.hid (grown_below HBb.out (setCells_grown _ _ _ _) (by omega))
  have HIF := Lib.hid (setCells_far hIb n2 0 (r.set d v).arr.toList)
  clear hR hI hE hRa hIa hEa HZa HBa hRb hIb hEb HZb HBb hl1 hl2 hst HR HI HE HZ HB
  generalize wb.setCells (w.heap.size + 1 + 1 + 1) 0 (r.set d v).arr.toList = w8 at *
  obtain ⟨i0, j1, j3, j4, j6⟩ := cells7 HIF.out
  go_wp2_with (first | (go_at_call 92; refine (HST.out _).mono ?_; rintro e w' ⟨rfl, rfl⟩) | (refine wpl_load rfl 51 _ rfl (w.heap.size + 1 + 1 + 1) 0 rfl (efA (r.set d v) 4 0 0 false) (ef_all HEF.out) ?_) | (refine wpl_store rfl 51 _ _ rfl (w.heap.size + 1 + 1) (efA (r.set d v) 4 0 0 false) z40 rfl rfl HZF.out (by rw [efA_size]; exact info51) (by rw [efA_size]; rfl) (efA_one _ _ _ _ _) ?_; intro w9 hrow9 hg9; have HR9 := Lib.hid hrow9; have HB9 := Lib.hid (grown_below HBF.out hg9 (by omega)); clear hrow9 hg9))
  obtain ⟨t9, ht9⟩ := rowAt_heap HR9.out
  refine bodyPost_ret (results_cell_row rfl _ _ (w.heap.size + 1 + 1) t9 (efA (r.set d v) 4 0 0 false) (0, 0) _ rfl ht9 Try.underlying51 rfl (by rw [efA_size]; exact info51)) rfl ⟨rfl, HB9.out⟩
end Go.Proofs.Ytnbpgoacooddjaa.Lab
