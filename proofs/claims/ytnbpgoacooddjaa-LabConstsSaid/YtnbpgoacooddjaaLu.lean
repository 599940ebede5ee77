import Derived.Test.YtnbpgoacooddjaaLs
namespace Go.Proofs.Ytnbpgoacooddjaa.Lab
open Go.ChangeShapes Go.WideShapes Go.ChangeAt Go.RowKit
set_option linter.unusedVariables false
/-- A load of a row, under a name of its own. -/
def ldAt (ty : TypeId) (v : Value) : Sem Value := Instr.loadAt ty v
def stAt (ty : TypeId) (p v : Value) : Sem Unit := Instr.storeAt ty p v
theorem ld26 (v : Value) : Instr.loadAt 26 v = ldAt 26 v := rfl
theorem ld29 (v : Value) : Instr.loadAt 29 v = ldAt 29 v := rfl
theorem ld51 (v : Value) : Instr.loadAt 51 v = ldAt 51 v := rfl
theorem st26 (p v : Value) : Instr.storeAt 26 p v = stAt 26 p v := rfl
theorem load_all {ty : TypeId} {n : Nat} {d : TypeDesc} (hu : Try.prog.underlying ty = some d) (hd : d.isRow = true) (hi : (Try.prog.info? ty).map (·.size) = some n) {w : World} {b : Nat} {C : Array Value} (h : rowAt w b = some C) (hs : C.size = n) :
    (Instr.loadAt ty (.pointer (some ⟨b, 0, none⟩))).run Try.prog w = .ok (.agg C) w := by
  rw [load_row hu hd hi, h]
  simp only [Nat.zero_add]
  rw [if_pos (by omega), ← hs]
  simp
theorem info29 : (Try.prog.info? 29).map (·.size) = some 7 := by kernel_rfl
theorem info51 : (Try.prog.info? 51).map (·.size) = some 40 := by kernel_rfl
theorem reg_all {w : World} {b : Nat} {r : Rg} (h : rowAt w b = some r.arr) : (Instr.loadAt 26 (.pointer (some ⟨b, 0, none⟩))).run Try.prog w = .ok (.agg r.arr) w := load_all Try.underlying26 rfl info25 h r.size
theorem ins_all {w : World} {b : Nat} {a0 a1 a2 a3 a4 a5 a6 : Value} (h : rowAt w b = some #[a0, a1, a2, a3, a4, a5, a6]) : (Instr.loadAt 29 (.pointer (some ⟨b, 0, none⟩))).run Try.prog w = .ok (.agg #[a0, a1, a2, a3, a4, a5, a6]) w := load_all Try.underlying29 rfl info29 h rfl
theorem cells7 {w : World} {b : Nat} {a0 a1 a2 a3 a4 a5 a6 : Value} (h : rowAt w b = some #[a0, a1, a2, a3, a4, a5, a6]) : w.cell? ⟨b, 0, none⟩ = some a0 ∧ w.cell? ⟨b, 1, none⟩ = some a1 ∧ w.cell? ⟨b, 3, none⟩ = some a3 ∧ w.cell? ⟨b, 4, none⟩ = some a4 ∧ w.cell? ⟨b, 6, none⟩ = some a6 :=
  ⟨rowAt_cell h 0, rowAt_cell h 1, rowAt_cell h 3, rowAt_cell h 4, rowAt_cell h 6⟩
attribute [local go_sem ↓] ld26 ld29 ld51 st26
attribute [local go_sem] rowAt_drew rowAt_drewN
theorem ldr (w' : World) (b : Nat) (r : Rg) (h : rowAt w' b = some r.arr) : (ldAt 26 (.pointer (some ⟨b, 0, none⟩))).run Try.prog w' = .ok (.agg r.arr) w' := reg_all h
theorem ldi (w' : World) (b : Nat) (a0 a1 a2 a3 a4 a5 a6 : Value) (h : rowAt w' b = some #[a0, a1, a2, a3, a4, a5, a6]) : (ldAt 29 (.pointer (some ⟨b, 0, none⟩))).run Try.prog w' = .ok (.agg #[a0, a1, a2, a3, a4, a5, a6]) w' := ins_all h
set_option maxRecDepth 100000 in
set_option maxHeartbeats 4000000 in
theorem rval2_0 (d i : Int) (r : Rg) (i1 : 0 ≤ i) (i2 : i ≤ 65535) (w : World) : Calls Try.prog 85 #[.agg #[.int .i64 2, .int .i64 d, .int .i64 0, .int .i64 0, .int .i64 0, .int .i64 0, .int .i64 i], .agg r.arr] w fun e w' => e = .returned (.tuple #[.int .u64 (i * pw 0), .bool true]) ∧ Below w.heap.size w w' := by
  have HI : Hid (rowAt ((w.alloc (.cells #[.int .i64 2, .int .i64 d, .int .i64 0, .int .i64 0, .int .i64 0, .int .i64 0, .int .i64 i] 29)).alloc (.cells r.arr 26)) w.heap.size = some #[.int .i64 2, .int .i64 d, .int .i64 0, .int .i64 0, .int .i64 0, .int .i64 0, .int .i64 i]) := Lib.hid (rowAt_past (rowAt_new w #[.int .i64 2, .int .i64 d, .int .i64 0, .int .i64 0, .int .i64 0, .int .i64 0, .int .i64 i] 29) _)
  have HR : Hid (rowAt ((w.alloc (.cells #[.int .i64 2, .int .i64 d, .int .i64 0, .int .i64 0, .int .i64 0, .int .i64 0, .int .i64 i] 29)).alloc (.cells r.arr 26)) (w.heap.size + 1) = some r.arr) := Lib.hid (by have := rowAt_new (w.alloc (.cells #[.int .i64 2, .int .i64 d, .int .i64 0, .int .i64 0, .int .i64 0, .int .i64 0, .int .i64 i] 29)) r.arr 26; simpa using this)
  have HB : Hid (Below w.heap.size w ((w.alloc (.cells #[.int .i64 2, .int .i64 d, .int .i64 0, .int .i64 0, .int .i64 0, .int .i64 0, .int .i64 i] 29)).alloc (.cells r.arr 26))) := Lib.hid (((Below.refl _ _).alloc (Nat.le_refl _) _).alloc (by simp) _)
  have hw1 : IntKind.u64.wrap i = i := by rw [IntKind.wrap_u64]; omega
  have hsh := shl_0 i i1 i2
  have hsh5 := shl65_0
  obtain ⟨i0, j1, j3, j4, j6⟩ := cells7 HI.out
  go_enter Try.func85, Try.ntmps85
  go_wp2_with (first | (refine wpl_load rfl 26 _ rfl (w.heap.size + 1) 0 rfl r.arr (reg_all HR.out) ?_) | (go_at_call 89; refine (get12 r _ _).mono ?_; rintro e w1 ⟨rfl, hb⟩; replace HI := Lib.hid (rowAt_below HI.out hb rfl); replace HR := Lib.hid (rowAt_below HR.out hb rfl); replace HB := Lib.hid (below_step HB.out hb rfl rfl rfl rfl); clear hb))
  clear i0 j1 j3 j4 j6
  have hR := HR.out
  have hI := HI.out
  have hl1 : ∀ w', rowAt w' (w.heap.size + 1) = some r.arr → (ldAt 26 (.pointer (some ⟨w.heap.size + 1, 0, none⟩))).run Try.prog w' = .ok (.agg r.arr) w' := fun w' h => ldr w' _ r h
  have hl2 : ∀ w', rowAt w' w.heap.size = some #[.int .i64 2, .int .i64 d, .int .i64 0, .int .i64 0, .int .i64 0, .int .i64 0, .int .i64 i] → (ldAt 29 (.pointer (some ⟨w.heap.size, 0, none⟩))).run Try.prog w' = .ok (.agg #[.int .i64 2, .int .i64 d, .int .i64 0, .int .i64 0, .int .i64 0, .int .i64 0, .int .i64 i]) w' := fun w' h => ldi w' _ _ _ _ _ _ _ _ h
  go_region_held3 (fun w' => rowAt w' (w.heap.size + 1) = some r.arr ∧ rowAt w' w.heap.size = some #[.int .i64 2, .int .i64 d, .int .i64 0, .int .i64 0, .int .i64 0, .int .i64 0, .int .i64 i]) (first | exact ⟨hRb, hIb⟩ | exact ⟨hRa, hIa⟩ | exact ⟨hR, hI⟩) (first | (go_at_call 90; refine (rbase_23 2 d 0 i _).mono ?_; rintro e wa ⟨rfl, hba⟩; have hRa : rowAt wa (w.heap.size + 1) = some r.arr := rowAt_below hR hba rfl; have hIa : rowAt wa w.heap.size = some #[.int .i64 2, .int .i64 d, .int .i64 0, .int .i64 0, .int .i64 0, .int .i64 0, .int .i64 i] := rowAt_below hI hba rfl; have HBa := Lib.hid (below_step HB.out hba rfl rfl rfl rfl); clear hba) | (go_at_call 89; refine (get12 r _ _).mono ?_; rintro e wb ⟨rfl, hbb⟩; have hRb : rowAt wb (w.heap.size + 1) = some r.arr := rowAt_below hRa hbb rfl; have hIb : rowAt wb w.heap.size = some #[.int .i64 2, .int .i64 d, .int .i64 0, .int .i64 0, .int .i64 0, .int .i64 0, .int .i64 i] := rowAt_below hIa hbb rfl; have HBb := Lib.hid (below_step HBa.out hbb rfl rfl rfl rfl); clear hbb))
  clear hl1 hl2 hR hI HR HI HB
  have HR := Lib.hid hRb
  have HI := Lib.hid hIb
  have HB := Lib.hid HBb.out
  clear hRa hIa HBa hRb hIb HBb
  obtain ⟨i0, j1, j3, j4, j6⟩ := cells7 HI.out
  go_wp2_with (first | (refine wpl_load rfl 26 _ rfl (w.heap.size + 1) 0 rfl r.arr (reg_all HR.out) ?_) | (go_at_call 89; refine (get12 r _ _).mono ?_; rintro e w1 ⟨rfl, hb⟩; replace HI := Lib.hid (rowAt_below HI.out hb rfl); replace HR := Lib.hid (rowAt_below HR.out hb rfl); replace HB := Lib.hid (below_step HB.out hb rfl rfl rfl rfl); clear hb; clear i0 j1 j3 j4 j6; obtain ⟨i0, j1, j3, j4, j6⟩ := cells7 HI.out))
  refine bodyPost_ret (v := .tuple #[.int .u64 (i * pw 0), .bool true]) ?_ rfl ⟨rfl, HB.out⟩
  simp [results, Try.results85, go_sem, pw]
set_option maxRecDepth 100000 in
set_option maxHeartbeats 4000000 in
theorem rval2_1 (d i : Int) (r : Rg) (i1 : 0 ≤ i) (i2 : i ≤ 65535) (w : World) : Calls Try.prog 85 #[.agg #[.int .i64 2, .int .i64 d, .int .i64 0, .int .i64 1, .int .i64 0, .int .i64 0, .int .i64 i], .agg r.arr] w fun e w' => e = .returned (.tuple #[.int .u64 (i * pw 1), .bool true]) ∧ Below w.heap.size w w' := by
  have HI : Hid (rowAt ((w.alloc (.cells #[.int .i64 2, .int .i64 d, .int .i64 0, .int .i64 1, .int .i64 0, .int .i64 0, .int .i64 i] 29)).alloc (.cells r.arr 26)) w.heap.size = some #[.int .i64 2, .int .i64 d, .int .i64 0, .int .i64 1, .int .i64 0, .int .i64 0, .int .i64 i]) := Lib.hid (rowAt_past (rowAt_new w #[.int .i64 2, .int .i64 d, .int .i64 0, .int .i64 1, .int .i64 0, .int .i64 0, .int .i64 i] 29) _)
  have HR : Hid (rowAt ((w.alloc (.cells #[.int .i64 2, .int .i64 d, .int .i64 0, .int .i64 1, .int .i64 0, .int .i64 0, .int .i64 i] 29)).alloc (.cells r.arr 26)) (w.heap.size + 1) = some r.arr) := Lib.hid (by have := rowAt_new (w.alloc (.cells #[.int .i64 2, .int .i64 d, .int .i64 0, .int .i64 1, .int .i64 0, .int .i64 0, .int .i64 i] 29)) r.arr 26; simpa using this)
  have HB : Hid (Below w.heap.size w ((w.alloc (.cells #[.int .i64 2, .int .i64 d, .int .i64 0, .int .i64 1, .int .i64 0, .int .i64 0, .int .i64 i] 29)).alloc (.cells r.arr 26))) := Lib.hid (((Below.refl _ _).alloc (Nat.le_refl _) _).alloc (by simp) _)
  have hw1 : IntKind.u64.wrap i = i := by rw [IntKind.wrap_u64]; omega
  have hsh := shl_1 i i1 i2
  have hsh5 := shl65_1
  obtain ⟨i0, j1, j3, j4, j6⟩ := cells7 HI.out
  go_enter Try.func85, Try.ntmps85
  go_wp2_with (first | (refine wpl_load rfl 26 _ rfl (w.heap.size + 1) 0 rfl r.arr (reg_all HR.out) ?_) | (go_at_call 89; refine (get12 r _ _).mono ?_; rintro e w1 ⟨rfl, hb⟩; replace HI := Lib.hid (rowAt_below HI.out hb rfl); replace HR := Lib.hid (rowAt_below HR.out hb rfl); replace HB := Lib.hid (below_step HB.out hb rfl rfl rfl rfl); clear hb))
  clear i0 j1 j3 j4 j6
  have hR := HR.out
  have hI := HI.out
  have hl1 : ∀ w', rowAt w' (w.heap.size + 1) = some r.arr → (ldAt 26 (.pointer (some ⟨w.heap.size + 1, 0, none⟩))).run Try.prog w' = .ok (.agg r.arr) w' := fun w' h => ldr w' _ r h
  have hl2 : ∀ w', rowAt w' w.heap.size = some #[.int .i64 2, .int .i64 d, .int .i64 0, .int .i64 1, .int .i64 0, .int .i64 0, .int .i64 i] → (ldAt 29 (.pointer (some ⟨w.heap.size, 0, none⟩))).run Try.prog w' = .ok (.agg #[.int .i64 2, .int .i64 d, .int .i64 0, .int .i64 1, .int .i64 0, .int .i64 0, .int .i64 i]) w' := fun w' h => ldi w' _ _ _ _ _ _ _ _ h
  go_region_held3 (fun w' => rowAt w' (w.heap.size + 1) = some r.arr ∧ rowAt w' w.heap.size = some #[.int .i64 2, .int .i64 d, .int .i64 0, .int .i64 1, .int .i64 0, .int .i64 0, .int .i64 i]) (first | exact ⟨hRb, hIb⟩ | exact ⟨hRa, hIa⟩ | exact ⟨hR, hI⟩) (first | (go_at_call 90; refine (rbase_23 2 d 1 i _).mono ?_; rintro e wa ⟨rfl, hba⟩; have hRa : rowAt wa (w.heap.size + 1) = some r.arr := rowAt_below hR hba rfl; have hIa : rowAt wa w.heap.size = some #[.int .i64 2, .int .i64 d, .int .i64 0, .int .i64 1, .int .i64 0, .int .i64 0, .int .i64 i] := rowAt_below hI hba rfl; have HBa := Lib.hid (below_step HB.out hba rfl rfl rfl rfl); clear hba) | (go_at_call 89; refine (get12 r _ _).mono ?_; rintro e wb ⟨rfl, hbb⟩; have hRb : rowAt wb (w.heap.size + 1) = some r.arr := rowAt_below hRa hbb rfl; have hIb : rowAt wb w.heap.size = some #[.int .i64 2, .int .i64 d, .int .i64 0, .int .i64 1, .int .i64 0, .int .i64 0, .int .i64 i] := rowAt_below hIa hbb rfl; have HBb := Lib.hid (below_step HBa.out hbb rfl rfl rfl rfl); clear hbb))
  clear hl1 hl2 hR hI HR HI HB
  have HR := Lib.hid hRb
  have HI := Lib.hid hIb
  have HB := Lib.hid HBb.out
  clear hRa hIa HBa hRb hIb HBb
  obtain ⟨i0, j1, j3, j4, j6⟩ := cells7 HI.out
  go_wp2_with (first | (refine wpl_load rfl 26 _ rfl (w.heap.size + 1) 0 rfl r.arr (reg_all HR.out) ?_) | (go_at_call 89; refine (get12 r _ _).mono ?_; rintro e w1 ⟨rfl, hb⟩; replace HI := Lib.hid (rowAt_below HI.out hb rfl); replace HR := Lib.hid (rowAt_below HR.out hb rfl); replace HB := Lib.hid (below_step HB.out hb rfl rfl rfl rfl); clear hb; clear i0 j1 j3 j4 j6; obtain ⟨i0, j1, j3, j4, j6⟩ := cells7 HI.out))
  refine bodyPost_ret (v := .tuple #[.int .u64 (i * pw 1), .bool true]) ?_ rfl ⟨rfl, HB.out⟩
  simp [results, Try.results85, go_sem, pw]
set_option maxRecDepth 100000 in
set_option maxHeartbeats 4000000 in
theorem rval2_2 (d i : Int) (r : Rg) (i1 : 0 ≤ i) (i2 : i ≤ 65535) (w : World) : Calls Try.prog 85 #[.agg #[.int .i64 2, .int .i64 d, .int .i64 0, .int .i64 2, .int .i64 0, .int .i64 0, .int .i64 i], .agg r.arr] w fun e w' => e = .returned (.tuple #[.int .u64 (i * pw 2), .bool true]) ∧ Below w.heap.size w w' := by
  have HI : Hid (rowAt ((w.alloc (.cells #[.int .i64 2, .int .i64 d, .int .i64 0, .int .i64 2, .int .i64 0, .int .i64 0, .int .i64 i] 29)).alloc (.cells r.arr 26)) w.heap.size = some #[.int .i64 2, .int .i64 d, .int .i64 0, .int .i64 2, .int .i64 0, .int .i64 0, .int .i64 i]) := Lib.hid (rowAt_past (rowAt_new w #[.int .i64 2, .int .i64 d, .int .i64 0, .int .i64 2, .int .i64 0, .int .i64 0, .int .i64 i] 29) _)
  have HR : Hid (rowAt ((w.alloc (.cells #[.int .i64 2, .int .i64 d, .int .i64 0, .int .i64 2, .int .i64 0, .int .i64 0, .int .i64 i] 29)).alloc (.cells r.arr 26)) (w.heap.size + 1) = some r.arr) := Lib.hid (by have := rowAt_new (w.alloc (.cells #[.int .i64 2, .int .i64 d, .int .i64 0, .int .i64 2, .int .i64 0, .int .i64 0, .int .i64 i] 29)) r.arr 26; simpa using this)
  have HB : Hid (Below w.heap.size w ((w.alloc (.cells #[.int .i64 2, .int .i64 d, .int .i64 0, .int .i64 2, .int .i64 0, .int .i64 0, .int .i64 i] 29)).alloc (.cells r.arr 26))) := Lib.hid (((Below.refl _ _).alloc (Nat.le_refl _) _).alloc (by simp) _)
  have hw1 : IntKind.u64.wrap i = i := by rw [IntKind.wrap_u64]; omega
  have hsh := shl_2 i i1 i2
  have hsh5 := shl65_2
  obtain ⟨i0, j1, j3, j4, j6⟩ := cells7 HI.out
  go_enter Try.func85, Try.ntmps85
  go_wp2_with (first | (refine wpl_load rfl 26 _ rfl (w.heap.size + 1) 0 rfl r.arr (reg_all HR.out) ?_) | (go_at_call 89; refine (get12 r _ _).mono ?_; rintro e w1 ⟨rfl, hb⟩; replace HI := Lib.hid (rowAt_below HI.out hb rfl); replace HR := Lib.hid (rowAt_below HR.out hb rfl); replace HB := Lib.hid (below_step HB.out hb rfl rfl rfl rfl); clear hb))
  clear i0 j1 j3 j4 j6
  have hR := HR.out
  have hI := HI.out
  have hl1 : ∀ w', rowAt w' (w.heap.size + 1) = some r.arr → (ldAt 26 (.pointer (some ⟨w.heap.size + 1, 0, none⟩))).run Try.prog w' = .ok (.agg r.arr) w' := fun w' h => ldr w' _ r h
  have hl2 : ∀ w', rowAt w' w.heap.size = some #[.int .i64 2, .int .i64 d, .int .i64 0, .int .i64 2, .int .i64 0, .int .i64 0, .int .i64 i] → (ldAt 29 (.pointer (some ⟨w.heap.size, 0, none⟩))).run Try.prog w' = .ok (.agg #[.int .i64 2, .int .i64 d, .int .i64 0, .int .i64 2, .int .i64 0, .int .i64 0, .int .i64 i]) w' := fun w' h => ldi w' _ _ _ _ _ _ _ _ h
  go_region_held3 (fun w' => rowAt w' (w.heap.size + 1) = some r.arr ∧ rowAt w' w.heap.size = some #[.int .i64 2, .int .i64 d, .int .i64 0, .int .i64 2, .int .i64 0, .int .i64 0, .int .i64 i]) (first | exact ⟨hRb, hIb⟩ | exact ⟨hRa, hIa⟩ | exact ⟨hR, hI⟩) (first | (go_at_call 90; refine (rbase_23 2 d 2 i _).mono ?_; rintro e wa ⟨rfl, hba⟩; have hRa : rowAt wa (w.heap.size + 1) = some r.arr := rowAt_below hR hba rfl; have hIa : rowAt wa w.heap.size = some #[.int .i64 2, .int .i64 d, .int .i64 0, .int .i64 2, .int .i64 0, .int .i64 0, .int .i64 i] := rowAt_below hI hba rfl; have HBa := Lib.hid (below_step HB.out hba rfl rfl rfl rfl); clear hba) | (go_at_call 89; refine (get12 r _ _).mono ?_; rintro e wb ⟨rfl, hbb⟩; have hRb : rowAt wb (w.heap.size + 1) = some r.arr := rowAt_below hRa hbb rfl; have hIb : rowAt wb w.heap.size = some #[.int .i64 2, .int .i64 d, .int .i64 0, .int .i64 2, .int .i64 0, .int .i64 0, .int .i64 i] := rowAt_below hIa hbb rfl; have HBb := Lib.hid (below_step HBa.out hbb rfl rfl rfl rfl); clear hbb))
  clear hl1 hl2 hR hI HR HI HB
  have HR := Lib.hid hRb
  have HI := Lib.hid hIb
  have HB := Lib.hid HBb.out
  clear hRa hIa HBa hRb hIb HBb
  obtain ⟨i0, j1, j3, j4, j6⟩ := cells7 HI.out
  go_wp2_with (first | (refine wpl_load rfl 26 _ rfl (w.heap.size + 1) 0 rfl r.arr (reg_all HR.out) ?_) | (go_at_call 89; refine (get12 r _ _).mono ?_; rintro e w1 ⟨rfl, hb⟩; replace HI := Lib.hid (rowAt_below HI.out hb rfl); replace HR := Lib.hid (rowAt_below HR.out hb rfl); replace HB := Lib.hid (below_step HB.out hb rfl rfl rfl rfl); clear hb; clear i0 j1 j3 j4 j6; obtain ⟨i0, j1, j3, j4, j6⟩ := cells7 HI.out))
  refine bodyPost_ret (v := .tuple #[.int .u64 (i * pw 2), .bool true]) ?_ rfl ⟨rfl, HB.out⟩
  simp [results, Try.results85, go_sem, pw]
set_option maxRecDepth 100000 in
set_option maxHeartbeats 4000000 in
theorem rval2_3 (d i : Int) (r : Rg) (i1 : 0 ≤ i) (i2 : i ≤ 65535) (w : World) : Calls Try.prog 85 #[.agg #[.int .i64 2, .int .i64 d, .int .i64 0, .int .i64 3, .int .i64 0, .int .i64 0, .int .i64 i], .agg r.arr] w fun e w' => e = .returned (.tuple #[.int .u64 (i * pw 3), .bool true]) ∧ Below w.heap.size w w' := by
  have HI : Hid (rowAt ((w.alloc (.cells #[.int .i64 2, .int .i64 d, .int .i64 0, .int .i64 3, .int .i64 0, .int .i64 0, .int .i64 i] 29)).alloc (.cells r.arr 26)) w.heap.size = some #[.int .i64 2, .int .i64 d, .int .i64 0, .int .i64 3, .int .i64 0, .int .i64 0, .int .i64 i]) := Lib.hid (rowAt_past (rowAt_new w #[.int .i64 2, .int .i64 d, .int .i64 0, .int .i64 3, .int .i64 0, .int .i64 0, .int .i64 i] 29) _)
  have HR : Hid (rowAt ((w.alloc (.cells #[.int .i64 2, .int .i64 d, .int .i64 0, .int .i64 3, .int .i64 0, .int .i64 0, .int .i64 i] 29)).alloc (.cells r.arr 26)) (w.heap.size + 1) = some r.arr) := Lib.hid (by have := rowAt_new (w.alloc (.cells #[.int .i64 2, .int .i64 d, .int .i64 0, .int .i64 3, .int .i64 0, .int .i64 0, .int .i64 i] 29)) r.arr 26; simpa using this)
  have HB : Hid (Below w.heap.size w ((w.alloc (.cells #[.int .i64 2, .int .i64 d, .int .i64 0, .int .i64 3, .int .i64 0, .int .i64 0, .int .i64 i] 29)).alloc (.cells r.arr 26))) := Lib.hid (((Below.refl _ _).alloc (Nat.le_refl _) _).alloc (by simp) _)
  have hw1 : IntKind.u64.wrap i = i := by rw [IntKind.wrap_u64]; omega
  have hsh := shl_3 i i1 i2
  have hsh5 := shl65_3
  obtain ⟨i0, j1, j3, j4, j6⟩ := cells7 HI.out
  go_enter Try.func85, Try.ntmps85
  go_wp2_with (first | (refine wpl_load rfl 26 _ rfl (w.heap.size + 1) 0 rfl r.arr (reg_all HR.out) ?_) | (go_at_call 89; refine (get12 r _ _).mono ?_; rintro e w1 ⟨rfl, hb⟩; replace HI := Lib.hid (rowAt_below HI.out hb rfl); replace HR := Lib.hid (rowAt_below HR.out hb rfl); replace HB := Lib.hid (below_step HB.out hb rfl rfl rfl rfl); clear hb))
  clear i0 j1 j3 j4 j6
  have hR := HR.out
  have hI := HI.out
  have hl1 : ∀ w', rowAt w' (w.heap.size + 1) = some r.arr → (ldAt 26 (.pointer (some ⟨w.heap.size + 1, 0, none⟩))).run Try.prog w' = .ok (.agg r.arr) w' := fun w' h => ldr w' _ r h
  have hl2 : ∀ w', rowAt w' w.heap.size = some #[.int .i64 2, .int .i64 d, .int .i64 0, .int .i64 3, .int .i64 0, .int .i64 0, .int .i64 i] → (ldAt 29 (.pointer (some ⟨w.heap.size, 0, none⟩))).run Try.prog w' = .ok (.agg #[.int .i64 2, .int .i64 d, .int .i64 0, .int .i64 3, .int .i64 0, .int .i64 0, .int .i64 i]) w' := fun w' h => ldi w' _ _ _ _ _ _ _ _ h
  go_region_held3 (fun w' => rowAt w' (w.heap.size + 1) = some r.arr ∧ rowAt w' w.heap.size = some #[.int .i64 2, .int .i64 d, .int .i64 0, .int .i64 3, .int .i64 0, .int .i64 0, .int .i64 i]) (first | exact ⟨hRb, hIb⟩ | exact ⟨hRa, hIa⟩ | exact ⟨hR, hI⟩) (first | (go_at_call 90; refine (rbase_23 2 d 3 i _).mono ?_; rintro e wa ⟨rfl, hba⟩; have hRa : rowAt wa (w.heap.size + 1) = some r.arr := rowAt_below hR hba rfl; have hIa : rowAt wa w.heap.size = some #[.int .i64 2, .int .i64 d, .int .i64 0, .int .i64 3, .int .i64 0, .int .i64 0, .int .i64 i] := rowAt_below hI hba rfl; have HBa := Lib.hid (below_step HB.out hba rfl rfl rfl rfl); clear hba) | (go_at_call 89; refine (get12 r _ _).mono ?_; rintro e wb ⟨rfl, hbb⟩; have hRb : rowAt wb (w.heap.size + 1) = some r.arr := rowAt_below hRa hbb rfl; have hIb : rowAt wb w.heap.size = some #[.int .i64 2, .int .i64 d, .int .i64 0, .int .i64 3, .int .i64 0, .int .i64 0, .int .i64 i] := rowAt_below hIa hbb rfl; have HBb := Lib.hid (below_step HBa.out hbb rfl rfl rfl rfl); clear hbb))
  clear hl1 hl2 hR hI HR HI HB
  have HR := Lib.hid hRb
  have HI := Lib.hid hIb
  have HB := Lib.hid HBb.out
  clear hRa hIa HBa hRb hIb HBb
  obtain ⟨i0, j1, j3, j4, j6⟩ := cells7 HI.out
  go_wp2_with (first | (refine wpl_load rfl 26 _ rfl (w.heap.size + 1) 0 rfl r.arr (reg_all HR.out) ?_) | (go_at_call 89; refine (get12 r _ _).mono ?_; rintro e w1 ⟨rfl, hb⟩; replace HI := Lib.hid (rowAt_below HI.out hb rfl); replace HR := Lib.hid (rowAt_below HR.out hb rfl); replace HB := Lib.hid (below_step HB.out hb rfl rfl rfl rfl); clear hb; clear i0 j1 j3 j4 j6; obtain ⟨i0, j1, j3, j4, j6⟩ := cells7 HI.out))
  refine bodyPost_ret (v := .tuple #[.int .u64 (i * pw 3), .bool true]) ?_ rfl ⟨rfl, HB.out⟩
  simp [results, Try.results85, go_sem, pw]
set_option maxRecDepth 100000 in
set_option maxHeartbeats 4000000 in
theorem rval3_0 (d i : Int) (r : Rg) (i1 : 0 ≤ i) (i2 : i ≤ 65535) (x1 : 0 ≤ r.get d) (x2 : r.get d < 18446744073709551616) (hf : r.get d / 1 % 65536 = 0) (w : World) : Calls Try.prog 85 #[.agg #[.int .i64 3, .int .i64 d, .int .i64 0, .int .i64 0, .int .i64 0, .int .i64 0, .int .i64 i], .agg r.arr] w fun e w' => e = .returned (.tuple #[.int .u64 (r.get d + i * pw 0), .bool true]) ∧ Below w.heap.size w w' := by
  have HI : Hid (rowAt ((w.alloc (.cells #[.int .i64 3, .int .i64 d, .int .i64 0, .int .i64 0, .int .i64 0, .int .i64 0, .int .i64 i] 29)).alloc (.cells r.arr 26)) w.heap.size = some #[.int .i64 3, .int .i64 d, .int .i64 0, .int .i64 0, .int .i64 0, .int .i64 0, .int .i64 i]) := Lib.hid (rowAt_past (rowAt_new w #[.int .i64 3, .int .i64 d, .int .i64 0, .int .i64 0, .int .i64 0, .int .i64 0, .int .i64 i] 29) _)
  have HR : Hid (rowAt ((w.alloc (.cells #[.int .i64 3, .int .i64 d, .int .i64 0, .int .i64 0, .int .i64 0, .int .i64 0, .int .i64 i] 29)).alloc (.cells r.arr 26)) (w.heap.size + 1) = some r.arr) := Lib.hid (by have := rowAt_new (w.alloc (.cells #[.int .i64 3, .int .i64 d, .int .i64 0, .int .i64 0, .int .i64 0, .int .i64 0, .int .i64 i] 29)) r.arr 26; simpa using this)
  have HB : Hid (Below w.heap.size w ((w.alloc (.cells #[.int .i64 3, .int .i64 d, .int .i64 0, .int .i64 0, .int .i64 0, .int .i64 0, .int .i64 i] 29)).alloc (.cells r.arr 26))) := Lib.hid (((Below.refl _ _).alloc (Nat.le_refl _) _).alloc (by simp) _)
  have hw1 : IntKind.u64.wrap i = i := by rw [IntKind.wrap_u64]; omega
  have hsh := shl_0 i i1 i2
  have hsh5 := shl65_0
  have hk := keep_0 (r.get d) i x1 x2 i1 i2 hf
  rw [show IntKind.u64.wrap 65535 = 65535 from rfl] at hk
  have HK := Lib.hid hk
  clear hf hk
  obtain ⟨i0, j1, j3, j4, j6⟩ := cells7 HI.out
  go_enter Try.func85, Try.ntmps85
  go_wp2_with (first | (refine wpl_load rfl 26 _ rfl (w.heap.size + 1) 0 rfl r.arr (reg_all HR.out) ?_) | (go_at_call 89; refine (get12 r _ _).mono ?_; rintro e w1 ⟨rfl, hb⟩; replace HI := Lib.hid (rowAt_below HI.out hb rfl); replace HR := Lib.hid (rowAt_below HR.out hb rfl); replace HB := Lib.hid (below_step HB.out hb rfl rfl rfl rfl); clear hb))
  clear i0 j1 j3 j4 j6
  have hR := HR.out
  have hI := HI.out
  have hl1 : ∀ w', rowAt w' (w.heap.size + 1) = some r.arr → (ldAt 26 (.pointer (some ⟨w.heap.size + 1, 0, none⟩))).run Try.prog w' = .ok (.agg r.arr) w' := fun w' h => ldr w' _ r h
  have hl2 : ∀ w', rowAt w' w.heap.size = some #[.int .i64 3, .int .i64 d, .int .i64 0, .int .i64 0, .int .i64 0, .int .i64 0, .int .i64 i] → (ldAt 29 (.pointer (some ⟨w.heap.size, 0, none⟩))).run Try.prog w' = .ok (.agg #[.int .i64 3, .int .i64 d, .int .i64 0, .int .i64 0, .int .i64 0, .int .i64 0, .int .i64 i]) w' := fun w' h => ldi w' _ _ _ _ _ _ _ _ h
  go_region_held3 (fun w' => rowAt w' (w.heap.size + 1) = some r.arr ∧ rowAt w' w.heap.size = some #[.int .i64 3, .int .i64 d, .int .i64 0, .int .i64 0, .int .i64 0, .int .i64 0, .int .i64 i]) (first | exact ⟨hRb, hIb⟩ | exact ⟨hRa, hIa⟩ | exact ⟨hR, hI⟩) (first | (go_at_call 90; refine (rbase_23 3 d 0 i _).mono ?_; rintro e wa ⟨rfl, hba⟩; have hRa : rowAt wa (w.heap.size + 1) = some r.arr := rowAt_below hR hba rfl; have hIa : rowAt wa w.heap.size = some #[.int .i64 3, .int .i64 d, .int .i64 0, .int .i64 0, .int .i64 0, .int .i64 0, .int .i64 i] := rowAt_below hI hba rfl; have HBa := Lib.hid (below_step HB.out hba rfl rfl rfl rfl); clear hba) | (go_at_call 89; refine (get12 r _ _).mono ?_; rintro e wb ⟨rfl, hbb⟩; have hRb : rowAt wb (w.heap.size + 1) = some r.arr := rowAt_below hRa hbb rfl; have hIb : rowAt wb w.heap.size = some #[.int .i64 3, .int .i64 d, .int .i64 0, .int .i64 0, .int .i64 0, .int .i64 0, .int .i64 i] := rowAt_below hIa hbb rfl; have HBb := Lib.hid (below_step HBa.out hbb rfl rfl rfl rfl); clear hbb))
  clear hl1 hl2 hR hI HR HI HB
  have HR := Lib.hid hRb
  have HI := Lib.hid hIb
  have HB := Lib.hid HBb.out
  clear hRa hIa HBa hRb hIb HBb
  obtain ⟨i0, j1, j3, j4, j6⟩ := cells7 HI.out
  go_wp2_with (first | (refine wpl_load rfl 26 _ rfl (w.heap.size + 1) 0 rfl r.arr (reg_all HR.out) ?_) | (go_at_call 89; refine (get12 r _ _).mono ?_; rintro e w1 ⟨rfl, hb⟩; replace HI := Lib.hid (rowAt_below HI.out hb rfl); replace HR := Lib.hid (rowAt_below HR.out hb rfl); replace HB := Lib.hid (below_step HB.out hb rfl rfl rfl rfl); clear hb; clear i0 j1 j3 j4 j6; obtain ⟨i0, j1, j3, j4, j6⟩ := cells7 HI.out))
  refine bodyPost_ret (v := .tuple #[.int .u64 (r.get d + i * pw 0), .bool true]) ?_ rfl ⟨rfl, HB.out⟩
  simp [results, Try.results85, go_sem, pw, HK.out]
set_option maxRecDepth 100000 in
set_option maxHeartbeats 4000000 in
theorem rval3_1 (d i : Int) (r : Rg) (i1 : 0 ≤ i) (i2 : i ≤ 65535) (x1 : 0 ≤ r.get d) (x2 : r.get d < 18446744073709551616) (hf : r.get d / 65536 % 65536 = 0) (w : World) : Calls Try.prog 85 #[.agg #[.int .i64 3, .int .i64 d, .int .i64 0, .int .i64 1, .int .i64 0, .int .i64 0, .int .i64 i], .agg r.arr] w fun e w' => e = .returned (.tuple #[.int .u64 (r.get d + i * pw 1), .bool true]) ∧ Below w.heap.size w w' := by
  have HI : Hid (rowAt ((w.alloc (.cells #[.int .i64 3, .int .i64 d, .int .i64 0, .int .i64 1, .int .i64 0, .int .i64 0, .int .i64 i] 29)).alloc (.cells r.arr 26)) w.heap.size = some #[.int .i64 3, .int .i64 d, .int .i64 0, .int .i64 1, .int .i64 0, .int .i64 0, .int .i64 i]) := Lib.hid (rowAt_past (rowAt_new w #[.int .i64 3, .int .i64 d, .int .i64 0, .int .i64 1, .int .i64 0, .int .i64 0, .int .i64 i] 29) _)
  have HR : Hid (rowAt ((w.alloc (.cells #[.int .i64 3, .int .i64 d, .int .i64 0, .int .i64 1, .int .i64 0, .int .i64 0, .int .i64 i] 29)).alloc (.cells r.arr 26)) (w.heap.size + 1) = some r.arr) := Lib.hid (by have := rowAt_new (w.alloc (.cells #[.int .i64 3, .int .i64 d, .int .i64 0, .int .i64 1, .int .i64 0, .int .i64 0, .int .i64 i] 29)) r.arr 26; simpa using this)
  have HB : Hid (Below w.heap.size w ((w.alloc (.cells #[.int .i64 3, .int .i64 d, .int .i64 0, .int .i64 1, .int .i64 0, .int .i64 0, .int .i64 i] 29)).alloc (.cells r.arr 26))) := Lib.hid (((Below.refl _ _).alloc (Nat.le_refl _) _).alloc (by simp) _)
  have hw1 : IntKind.u64.wrap i = i := by rw [IntKind.wrap_u64]; omega
  have hsh := shl_1 i i1 i2
  have hsh5 := shl65_1
  have hk := keep_1 (r.get d) i x1 x2 i1 i2 hf
  rw [show IntKind.u64.wrap 4294901760 = 4294901760 from rfl] at hk
  have HK := Lib.hid hk
  clear hf hk
  obtain ⟨i0, j1, j3, j4, j6⟩ := cells7 HI.out
  go_enter Try.func85, Try.ntmps85
  go_wp2_with (first | (refine wpl_load rfl 26 _ rfl (w.heap.size + 1) 0 rfl r.arr (reg_all HR.out) ?_) | (go_at_call 89; refine (get12 r _ _).mono ?_; rintro e w1 ⟨rfl, hb⟩; replace HI := Lib.hid (rowAt_below HI.out hb rfl); replace HR := Lib.hid (rowAt_below HR.out hb rfl); replace HB := Lib.hid (below_step HB.out hb rfl rfl rfl rfl); clear hb))
  clear i0 j1 j3 j4 j6
  have hR := HR.out
  have hI := HI.out
  have hl1 : ∀ w', rowAt w' (w.heap.size + 1) = some r.arr → (ldAt 26 (.pointer (some ⟨w.heap.size + 1, 0, none⟩))).run Try.prog w' = .ok (.agg r.arr) w' := fun w' h => ldr w' _ r h
  have hl2 : ∀ w', rowAt w' w.heap.size = some #[.int .i64 3, .int .i64 d, .int .i64 0, .int .i64 1, .int .i64 0, .int .i64 0, .int .i64 i] → (ldAt 29 (.pointer (some ⟨w.heap.size, 0, none⟩))).run Try.prog w' = .ok (.agg #[.int .i64 3, .int .i64 d, .int .i64 0, .int .i64 1, .int .i64 0, .int .i64 0, .int .i64 i]) w' := fun w' h => ldi w' _ _ _ _ _ _ _ _ h
  go_region_held3 (fun w' => rowAt w' (w.heap.size + 1) = some r.arr ∧ rowAt w' w.heap.size = some #[.int .i64 3, .int .i64 d, .int .i64 0, .int .i64 1, .int .i64 0, .int .i64 0, .int .i64 i]) (first | exact ⟨hRb, hIb⟩ | exact ⟨hRa, hIa⟩ | exact ⟨hR, hI⟩) (first | (go_at_call 90; refine (rbase_23 3 d 1 i _).mono ?_; rintro e wa ⟨rfl, hba⟩; have hRa : rowAt wa (w.heap.size + 1) = some r.arr := rowAt_below hR hba rfl; have hIa : rowAt wa w.heap.size = some #[.int .i64 3, .int .i64 d, .int .i64 0, .int .i64 1, .int .i64 0, .int .i64 0, .int .i64 i] := rowAt_below hI hba rfl; have HBa := Lib.hid (below_step HB.out hba rfl rfl rfl rfl); clear hba) | (go_at_call 89; refine (get12 r _ _).mono ?_; rintro e wb ⟨rfl, hbb⟩; have hRb : rowAt wb (w.heap.size + 1) = some r.arr := rowAt_below hRa hbb rfl; have hIb : rowAt wb w.heap.size = some #[.int .i64 3, .int .i64 d, .int .i64 0, .int .i64 1, .int .i64 0, .int .i64 0, .int .i64 i] := rowAt_below hIa hbb rfl; have HBb := Lib.hid (below_step HBa.out hbb rfl rfl rfl rfl); clear hbb))
  clear hl1 hl2 hR hI HR HI HB
  have HR := Lib.hid hRb
  have HI := Lib.hid hIb
  have HB := Lib.hid HBb.out
  clear hRa hIa HBa hRb hIb HBb
  obtain ⟨i0, j1, j3, j4, j6⟩ := cells7 HI.out
  go_wp2_with (first | (refine wpl_load rfl 26 _ rfl (w.heap.size + 1) 0 rfl r.arr (reg_all HR.out) ?_) | (go_at_call 89; refine (get12 r _ _).mono ?_; rintro e w1 ⟨rfl, hb⟩; replace HI := Lib.hid (rowAt_below HI.out hb rfl); replace HR := Lib.hid (rowAt_below HR.out hb rfl); replace HB := Lib.hid (below_step HB.out hb rfl rfl rfl rfl); clear hb; clear i0 j1 j3 j4 j6; obtain ⟨i0, j1, j3, j4, j6⟩ := cells7 HI.out))
  refine bodyPost_ret (v := .tuple #[.int .u64 (r.get d + i * pw 1), .bool true]) ?_ rfl ⟨rfl, HB.out⟩
  simp [results, Try.results85, go_sem, pw, HK.out]
set_option maxRecDepth 100000 in
set_option maxHeartbeats 4000000 in
theorem rval3_2 (d i : Int) (r : Rg) (i1 : 0 ≤ i) (i2 : i ≤ 65535) (x1 : 0 ≤ r.get d) (x2 : r.get d < 18446744073709551616) (hf : r.get d / 4294967296 % 65536 = 0) (w : World) : Calls Try.prog 85 #[.agg #[.int .i64 3, .int .i64 d, .int .i64 0, .int .i64 2, .int .i64 0, .int .i64 0, .int .i64 i], .agg r.arr] w fun e w' => e = .returned (.tuple #[.int .u64 (r.get d + i * pw 2), .bool true]) ∧ Below w.heap.size w w' := by
  have HI : Hid (rowAt ((w.alloc (.cells #[.int .i64 3, .int .i64 d, .int .i64 0, .int .i64 2, .int .i64 0, .int .i64 0, .int .i64 i] 29)).alloc (.cells r.arr 26)) w.heap.size = some #[.int .i64 3, .int .i64 d, .int .i64 0, .int .i64 2, .int .i64 0, .int .i64 0, .int .i64 i]) := Lib.hid (rowAt_past (rowAt_new w #[.int .i64 3, .int .i64 d, .int .i64 0, .int .i64 2, .int .i64 0, .int .i64 0, .int .i64 i] 29) _)
  have HR : Hid (rowAt ((w.alloc (.cells #[.int .i64 3, .int .i64 d, .int .i64 0, .int .i64 2, .int .i64 0, .int .i64 0, .int .i64 i] 29)).alloc (.cells r.arr 26)) (w.heap.size + 1) = some r.arr) := Lib.hid (by have := rowAt_new (w.alloc (.cells #[.int .i64 3, .int .i64 d, .int .i64 0, .int .i64 2, .int .i64 0, .int .i64 0, .int .i64 i] 29)) r.arr 26; simpa using this)
  have HB : Hid (Below w.heap.size w ((w.alloc (.cells #[.int .i64 3, .int .i64 d, .int .i64 0, .int .i64 2, .int .i64 0, .int .i64 0, .int .i64 i] 29)).alloc (.cells r.arr 26))) := Lib.hid (((Below.refl _ _).alloc (Nat.le_refl _) _).alloc (by simp) _)
  have hw1 : IntKind.u64.wrap i = i := by rw [IntKind.wrap_u64]; omega
  have hsh := shl_2 i i1 i2
  have hsh5 := shl65_2
  have hk := keep_2 (r.get d) i x1 x2 i1 i2 hf
  rw [show IntKind.u64.wrap 281470681743360 = 281470681743360 from rfl] at hk
  have HK := Lib.hid hk
  clear hf hk
  obtain ⟨i0, j1, j3, j4, j6⟩ := cells7 HI.out
  go_enter Try.func85, Try.ntmps85
  go_wp2_with (first | (refine wpl_load rfl 26 _ rfl (w.heap.size + 1) 0 rfl r.arr (reg_all HR.out) ?_) | (go_at_call 89; refine (get12 r _ _).mono ?_; rintro e w1 ⟨rfl, hb⟩; replace HI := Lib.hid (rowAt_below HI.out hb rfl); replace HR := Lib.hid (rowAt_below HR.out hb rfl); replace HB := Lib.hid (below_step HB.out hb rfl rfl rfl rfl); clear hb))
  clear i0 j1 j3 j4 j6
  have hR := HR.out
  have hI := HI.out
  have hl1 : ∀ w', rowAt w' (w.heap.size + 1) = some r.arr → (ldAt 26 (.pointer (some ⟨w.heap.size + 1, 0, none⟩))).run Try.prog w' = .ok (.agg r.arr) w' := fun w' h => ldr w' _ r h
  have hl2 : ∀ w', rowAt w' w.heap.size = some #[.int .i64 3, .int .i64 d, .int .i64 0, .int .i64 2, .int .i64 0, .int .i64 0, .int .i64 i] → (ldAt 29 (.pointer (some ⟨w.heap.size, 0, none⟩))).run Try.prog w' = .ok (.agg #[.int .i64 3, .int .i64 d, .int .i64 0, .int .i64 2, .int .i64 0, .int .i64 0, .int .i64 i]) w' := fun w' h => ldi w' _ _ _ _ _ _ _ _ h
  go_region_held3 (fun w' => rowAt w' (w.heap.size + 1) = some r.arr ∧ rowAt w' w.heap.size = some #[.int .i64 3, .int .i64 d, .int .i64 0, .int .i64 2, .int .i64 0, .int .i64 0, .int .i64 i]) (first | exact ⟨hRb, hIb⟩ | exact ⟨hRa, hIa⟩ | exact ⟨hR, hI⟩) (first | (go_at_call 90; refine (rbase_23 3 d 2 i _).mono ?_; rintro e wa ⟨rfl, hba⟩; have hRa : rowAt wa (w.heap.size + 1) = some r.arr := rowAt_below hR hba rfl; have hIa : rowAt wa w.heap.size = some #[.int .i64 3, .int .i64 d, .int .i64 0, .int .i64 2, .int .i64 0, .int .i64 0, .int .i64 i] := rowAt_below hI hba rfl; have HBa := Lib.hid (below_step HB.out hba rfl rfl rfl rfl); clear hba) | (go_at_call 89; refine (get12 r _ _).mono ?_; rintro e wb ⟨rfl, hbb⟩; have hRb : rowAt wb (w.heap.size + 1) = some r.arr := rowAt_below hRa hbb rfl; have hIb : rowAt wb w.heap.size = some #[.int .i64 3, .int .i64 d, .int .i64 0, .int .i64 2, .int .i64 0, .int .i64 0, .int .i64 i] := rowAt_below hIa hbb rfl; have HBb := Lib.hid (below_step HBa.out hbb rfl rfl rfl rfl); clear hbb))
  clear hl1 hl2 hR hI HR HI HB
  have HR := Lib.hid hRb
  have HI := Lib.hid hIb
  have HB := Lib.hid HBb.out
  clear hRa hIa HBa hRb hIb HBb
  obtain ⟨i0, j1, j3, j4, j6⟩ := cells7 HI.out
  go_wp2_with (first | (refine wpl_load rfl 26 _ rfl (w.heap.size + 1) 0 rfl r.arr (reg_all HR.out) ?_) | (go_at_call 89; refine (get12 r _ _).mono ?_; rintro e w1 ⟨rfl, hb⟩; replace HI := Lib.hid (rowAt_below HI.out hb rfl); replace HR := Lib.hid (rowAt_below HR.out hb rfl); replace HB := Lib.hid (below_step HB.out hb rfl rfl rfl rfl); clear hb; clear i0 j1 j3 j4 j6; obtain ⟨i0, j1, j3, j4, j6⟩ := cells7 HI.out))
  refine bodyPost_ret (v := .tuple #[.int .u64 (r.get d + i * pw 2), .bool true]) ?_ rfl ⟨rfl, HB.out⟩
  simp [results, Try.results85, go_sem, pw, HK.out]
set_option maxRecDepth 100000 in
set_option maxHeartbeats 4000000 in
theorem rval3_3 (d i : Int) (r : Rg) (i1 : 0 ≤ i) (i2 : i ≤ 65535) (x1 : 0 ≤ r.get d) (x2 : r.get d < 18446744073709551616) (hf : r.get d / 281474976710656 % 65536 = 0) (w : World) : Calls Try.prog 85 #[.agg #[.int .i64 3, .int .i64 d, .int .i64 0, .int .i64 3, .int .i64 0, .int .i64 0, .int .i64 i], .agg r.arr] w fun e w' => e = .returned (.tuple #[.int .u64 (r.get d + i * pw 3), .bool true]) ∧ Below w.heap.size w w' := by
  have HI : Hid (rowAt ((w.alloc (.cells #[.int .i64 3, .int .i64 d, .int .i64 0, .int .i64 3, .int .i64 0, .int .i64 0, .int .i64 i] 29)).alloc (.cells r.arr 26)) w.heap.size = some #[.int .i64 3, .int .i64 d, .int .i64 0, .int .i64 3, .int .i64 0, .int .i64 0, .int .i64 i]) := Lib.hid (rowAt_past (rowAt_new w #[.int .i64 3, .int .i64 d, .int .i64 0, .int .i64 3, .int .i64 0, .int .i64 0, .int .i64 i] 29) _)
  have HR : Hid (rowAt ((w.alloc (.cells #[.int .i64 3, .int .i64 d, .int .i64 0, .int .i64 3, .int .i64 0, .int .i64 0, .int .i64 i] 29)).alloc (.cells r.arr 26)) (w.heap.size + 1) = some r.arr) := Lib.hid (by have := rowAt_new (w.alloc (.cells #[.int .i64 3, .int .i64 d, .int .i64 0, .int .i64 3, .int .i64 0, .int .i64 0, .int .i64 i] 29)) r.arr 26; simpa using this)
  have HB : Hid (Below w.heap.size w ((w.alloc (.cells #[.int .i64 3, .int .i64 d, .int .i64 0, .int .i64 3, .int .i64 0, .int .i64 0, .int .i64 i] 29)).alloc (.cells r.arr 26))) := Lib.hid (((Below.refl _ _).alloc (Nat.le_refl _) _).alloc (by simp) _)
  have hw1 : IntKind.u64.wrap i = i := by rw [IntKind.wrap_u64]; omega
  have hsh := shl_3 i i1 i2
  have hsh5 := shl65_3
  have hk := keep_3 (r.get d) i x1 x2 i1 i2 hf
  rw [show IntKind.u64.wrap 18446462598732840960 = 18446462598732840960 from rfl] at hk
  have HK := Lib.hid hk
  clear hf hk
  obtain ⟨i0, j1, j3, j4, j6⟩ := cells7 HI.out
  go_enter Try.func85, Try.ntmps85
  go_wp2_with (first | (refine wpl_load rfl 26 _ rfl (w.heap.size + 1) 0 rfl r.arr (reg_all HR.out) ?_) | (go_at_call 89; refine (get12 r _ _).mono ?_; rintro e w1 ⟨rfl, hb⟩; replace HI := Lib.hid (rowAt_below HI.out hb rfl); replace HR := Lib.hid (rowAt_below HR.out hb rfl); replace HB := Lib.hid (below_step HB.out hb rfl rfl rfl rfl); clear hb))
  clear i0 j1 j3 j4 j6
  have hR := HR.out
  have hI := HI.out
  have hl1 : ∀ w', rowAt w' (w.heap.size + 1) = some r.arr → (ldAt 26 (.pointer (some ⟨w.heap.size + 1, 0, none⟩))).run Try.prog w' = .ok (.agg r.arr) w' := fun w' h => ldr w' _ r h
  have hl2 : ∀ w', rowAt w' w.heap.size = some #[.int .i64 3, .int .i64 d, .int .i64 0, .int .i64 3, .int .i64 0, .int .i64 0, .int .i64 i] → (ldAt 29 (.pointer (some ⟨w.heap.size, 0, none⟩))).run Try.prog w' = .ok (.agg #[.int .i64 3, .int .i64 d, .int .i64 0, .int .i64 3, .int .i64 0, .int .i64 0, .int .i64 i]) w' := fun w' h => ldi w' _ _ _ _ _ _ _ _ h
  go_region_held3 (fun w' => rowAt w' (w.heap.size + 1) = some r.arr ∧ rowAt w' w.heap.size = some #[.int .i64 3, .int .i64 d, .int .i64 0, .int .i64 3, .int .i64 0, .int .i64 0, .int .i64 i]) (first | exact ⟨hRb, hIb⟩ | exact ⟨hRa, hIa⟩ | exact ⟨hR, hI⟩) (first | (go_at_call 90; refine (rbase_23 3 d 3 i _).mono ?_; rintro e wa ⟨rfl, hba⟩; have hRa : rowAt wa (w.heap.size + 1) = some r.arr := rowAt_below hR hba rfl; have hIa : rowAt wa w.heap.size = some #[.int .i64 3, .int .i64 d, .int .i64 0, .int .i64 3, .int .i64 0, .int .i64 0, .int .i64 i] := rowAt_below hI hba rfl; have HBa := Lib.hid (below_step HB.out hba rfl rfl rfl rfl); clear hba) | (go_at_call 89; refine (get12 r _ _).mono ?_; rintro e wb ⟨rfl, hbb⟩; have hRb : rowAt wb (w.heap.size + 1) = some r.arr := rowAt_below hRa hbb rfl; have hIb : rowAt wb w.heap.size = some #[.int .i64 3, .int .i64 d, .int .i64 0, .int .i64 3, .int .i64 0, .int .i64 0, .int .i64 i] := rowAt_below hIa hbb rfl; have HBb := Lib.hid (below_step HBa.out hbb rfl rfl rfl rfl); clear hbb))
  clear hl1 hl2 hR hI HR HI HB
  have HR := Lib.hid hRb
  have HI := Lib.hid hIb
  have HB := Lib.hid HBb.out
  clear hRa hIa HBa hRb hIb HBb
  obtain ⟨i0, j1, j3, j4, j6⟩ := cells7 HI.out
  go_wp2_with (first | (refine wpl_load rfl 26 _ rfl (w.heap.size + 1) 0 rfl r.arr (reg_all HR.out) ?_) | (go_at_call 89; refine (get12 r _ _).mono ?_; rintro e w1 ⟨rfl, hb⟩; replace HI := Lib.hid (rowAt_below HI.out hb rfl); replace HR := Lib.hid (rowAt_below HR.out hb rfl); replace HB := Lib.hid (below_step HB.out hb rfl rfl rfl rfl); clear hb; clear i0 j1 j3 j4 j6; obtain ⟨i0, j1, j3, j4, j6⟩ := cells7 HI.out))
  refine bodyPost_ret (v := .tuple #[.int .u64 (r.get d + i * pw 3), .bool true]) ?_ rfl ⟨rfl, HB.out⟩
  simp [results, Try.results85, go_sem, pw, HK.out]
end Go.Proofs.Ytnbpgoacooddjaa.Lab
