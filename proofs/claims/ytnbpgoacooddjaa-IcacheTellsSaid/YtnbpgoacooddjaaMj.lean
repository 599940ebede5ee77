import Derived.Test.YtnbpgoacooddjaaMi
namespace Go.Proofs.Ytnbpgoacooddjaa.Mm
open Go.ChangeShapes Go.WideShapes Go.ChangeAt Go.RowKit
open Go.Proofs.Ytnbpgoacooddjaa.Lab (rowAt rowAt_cell rowAt_frz rowAt_lt rowAt_new rowAt_below rowAt_of rowAt_past rowAt_grown wpl_load wpl_store load_row grown_below)
set_option linter.unusedVariables false
section
variable {w : World} {FP : Nat → Prop} {p : Nat} {M : Me} {v : Value} {B C : Nat → Nat}
set_option maxRecDepth 100000 in
set_option maxHeartbeats 8000000 in
theorem twin_c (h : MeC 184 187 w FP p M v B C) :
    Calls Try.prog 66 #[.pointer (some ⟨p, 0, none⟩)] w fun e w' => (∃ v' B' C', e = .returned (.pointer (some ⟨w.heap.size, 0, none⟩)) ∧ MeC 184 187 w' (fun k => w.heap.size ≤ k ∧ k < w'.heap.size) w.heap.size M v' B' C') ∧ Below w.heap.size w w' := by
  have hn16 := h.ok.n16
  have hOk := Lib.hid h.ok
  obtain ⟨i0, hi, hz0, hz1, hz2⟩ := info_parts info187z
  have HB1 : Hid (Below w.heap.size w (w.alloc (.cells #[.slice none 0 0] 184))) := Lib.hid ((Below.refl _ _).alloc (Nat.le_refl _) _)
  have HT1 : Hid (TwAt 184 187 (w.alloc (.cells #[.slice none 0 0] 184)) w.heap.size M 0 (.slice none 0 0) B C) := Lib.hid ⟨heap_alloc_new w _, ⟨rfl, .inl ⟨rfl, rfl⟩⟩, fun k hk => by omega, fun i k hi => by omega⟩
  have hcm := (h.past HB1.out).cv
  have H0 := Lib.hid h
  have hp0 := h.fl p h.fp
  obtain ⟨a, cap, rfl, ha⟩ := own_form h.ars
  clear h
  go_enter Try.func66, Try.ntmps66
  go_wp2
  clear hcm
  go_loopw [13] (fun s13 wr => ∃ (j : Nat) (s3 : Value) (B' C' : Nat → Nat), j ≤ M.n ∧ s13 = .int .i64 j ∧ Hid (TwAt 184 187 wr w.heap.size M j s3 B' C') ∧ Hid (Below w.heap.size w wr)) (fun s13 _ => M.n - (intOf s13).toNat)
  case atStart => exact ⟨0, _, B, C, by omega, rfl, HT1, HB1⟩
  case round =>
    obtain ⟨j, s3, B', C', hj, rfl, HT0, HB⟩ := hrel
    have H := Lib.hid (H0.out.past HB.out)
    by_cases hlt : j < M.n
    · obtain ⟨ab, rfl⟩ : ∃ g, a = some ⟨g, 0, none⟩ := by
        rcases ha with ha | ha
        · omega
        · exact ha
      obtain ⟨f1, f2, f3, f4, f5⟩ := H.out.area rfl j hlt
      have hab : ab < wr.heap.size := H.out.fl ab (H.out.fv ab rfl)
      have hW : Below wr.heap.size wr (wr.alloc (.cells #[.int .u64 (M.A j : Nat), .int .u64 (M.S j : Nat), .bool (M.W j), .bool (M.X j), .slice (some ⟨B j, 0, none⟩) (M.S j) (C j)] 187)).drew := below_drewN ((Below.refl _ _).alloc (Nat.le_refl _) _) 1
      have HT := Lib.hid (HT0.out.past hW)
      have HSRC : Hid (Bys (wr.alloc (.cells #[.int .u64 (M.A j : Nat), .int .u64 (M.S j : Nat), .bool (M.W j), .bool (M.X j), .slice (some ⟨B j, 0, none⟩) (M.S j) (C j)] 187)).drew (.slice (some ⟨B j, 0, none⟩) (M.S j) (C j)) (M.row j)) := Lib.hid (bys_own (own_past (H.out.byt j hlt) hW))
      have HB2 : Hid (Below w.heap.size w (wr.alloc (.cells #[.int .u64 (M.A j : Nat), .int .u64 (M.S j : Nat), .bool (M.W j), .bool (M.X j), .slice (some ⟨B j, 0, none⟩) (M.S j) (C j)] 187)).drew) := Lib.hid (HB.out.trans (hW.mono HB.out.size))
      have HSZ : Hid (wr.heap.size < (wr.alloc (.cells #[.int .u64 (M.A j : Nat), .int .u64 (M.S j : Nat), .bool (M.W j), .bool (M.X j), .slice (some ⟨B j, 0, none⟩) (M.S j) (C j)] 187)).drew.heap.size) := Lib.hid (by simp)
      have HL : Hid ((wr.alloc (.cells #[.int .u64 (M.A j : Nat), .int .u64 (M.S j : Nat), .bool (M.W j), .bool (M.X j), .slice (some ⟨B j, 0, none⟩) (M.S j) (C j)] 187)).drew.cell? ⟨wr.heap.size, 0, none⟩ = some (.int .u64 (M.A j : Nat)) ∧ (wr.alloc (.cells #[.int .u64 (M.A j : Nat), .int .u64 (M.S j : Nat), .bool (M.W j), .bool (M.X j), .slice (some ⟨B j, 0, none⟩) (M.S j) (C j)] 187)).drew.cell? ⟨wr.heap.size, 1, none⟩ = some (.int .u64 (M.S j : Nat)) ∧ (wr.alloc (.cells #[.int .u64 (M.A j : Nat), .int .u64 (M.S j : Nat), .bool (M.W j), .bool (M.X j), .slice (some ⟨B j, 0, none⟩) (M.S j) (C j)] 187)).drew.cell? ⟨wr.heap.size, 2, none⟩ = some (.bool (M.W j)) ∧ (wr.alloc (.cells #[.int .u64 (M.A j : Nat), .int .u64 (M.S j : Nat), .bool (M.W j), .bool (M.X j), .slice (some ⟨B j, 0, none⟩) (M.S j) (C j)] 187)).drew.cell? ⟨wr.heap.size, 3, none⟩ = some (.bool (M.X j)) ∧ (wr.alloc (.cells #[.int .u64 (M.A j : Nat), .int .u64 (M.S j : Nat), .bool (M.W j), .bool (M.X j), .slice (some ⟨B j, 0, none⟩) (M.S j) (C j)] 187)).drew.cell? ⟨wr.heap.size, 4, none⟩ = some (.slice (some ⟨B j, 0, none⟩) (M.S j) (C j))) := Lib.hid ⟨World.cell?_alloc_at _ _ _ _ rfl, World.cell?_alloc_at _ _ _ _ rfl, World.cell?_alloc_at _ _ _ _ rfl, World.cell?_alloc_at _ _ _ _ rfl, World.cell?_alloc_at _ _ _ _ rfl⟩
      have HSJ : Hid (M.S j ≤ 16777216) := Lib.hid (hOk.out.sz j hlt).2.1
      have HPOS : Hid (0 < M.S j) := Lib.hid (hOk.out.sz j hlt).1
      have HNE : Hid (w.heap.size < wr.heap.size) := Lib.hid (Array.getElem?_eq_some_iff.1 HT0.out.row).1
      clear hW
      go_wp2
      refine wp_region_held_drew (S := fun w' => (w'.cell? ⟨wr.heap.size, 0, none⟩ = some (.int .u64 (M.A j : Nat)) ∧ w'.cell? ⟨wr.heap.size, 1, none⟩ = some (.int .u64 (M.S j : Nat)) ∧ w'.cell? ⟨wr.heap.size, 2, none⟩ = some (.bool (M.W j)) ∧ w'.cell? ⟨wr.heap.size, 3, none⟩ = some (.bool (M.X j)) ∧ w'.cell? ⟨wr.heap.size, 4, none⟩ = some (.slice (some ⟨B j, 0, none⟩) (M.S j) (C j)))) (by kernel_rfl) HL.out (fun hHeld => ?_)
      generalize (wr.alloc (.cells #[.int .u64 (M.A j : Nat), .int .u64 (M.S j : Nat), .bool (M.W j), .bool (M.X j), .slice (some ⟨B j, 0, none⟩) (M.S j) (C j)] 187)).drew = V at HT HSRC HB2 HSZ HL hHeld ⊢
      refine wpAnyH_take (i := 0) (oi := { dst := some 17, op := Go.Op.move (Go.Operand.tmp 3), type := 83, pos := "mem.go:158", after := #[], guard := none }) (v := ?_) rfl (by kernel_rfl) (by kernel_rfl) (by kernel_rfl) (fun _ _ _ h => h) (Or.inl ⟨by rfl, ?_⟩) (by assumption) ?_
      rotate_left
      · (intro w0 hSw; (try dsimp only at hSw); go_split_ands; go_simp; with_reducible rfl)
      try simp only [Act.put, List.setIfInBounds_toArray, List.set_cons_zero, List.set_cons_succ]
      refine wpAnyH_take (i := 1) (oi := { dst := some 18, op := Go.Op.move (Go.Operand.tmp 3), type := 83, pos := "mem.go:158", after := #[], guard := none }) (v := ?_) rfl (by kernel_rfl) (by kernel_rfl) (by kernel_rfl) (fun _ _ _ h => h) (Or.inl ⟨by rfl, ?_⟩) (by assumption) ?_
      rotate_left
      · (intro w0 hSw; (try dsimp only at hSw); go_split_ands; go_simp; with_reducible rfl)
      try simp only [Act.put, List.setIfInBounds_toArray, List.set_cons_zero, List.set_cons_succ]
      refine wpAnyH_take (i := 2) (oi := { dst := some 19, op := Go.Op.nilCheck (Go.Operand.tmp 18), type := 0, pos := "mem.go:158", after := #[{ on := 1, ground := Go.Ground.data }], guard := none }) (v := ?_) rfl (by kernel_rfl) (by kernel_rfl) (by kernel_rfl) (fun _ _ _ h => h) (Or.inl ⟨by rfl, ?_⟩) (by assumption) ?_
      rotate_left
      · (intro w0 hSw; (try dsimp only at hSw); go_split_ands; go_simp; with_reducible rfl)
      try simp only [Act.put, List.setIfInBounds_toArray, List.set_cons_zero, List.set_cons_succ]
      refine wpAnyH_take (i := 3) (oi := { dst := some 20, op := Go.Op.fieldAddr 184 (Go.Operand.tmp 19) 0, type := 0, pos := "mem.go:158", after := #[{ on := 2, ground := Go.Ground.data }], guard := none }) (v := ?_) rfl (by kernel_rfl) (by kernel_rfl) (by kernel_rfl) (fun _ _ _ h => h) (Or.inl ⟨by rfl, ?_⟩) (by assumption) ?_
      rotate_left
      · (intro w0 hSw; (try dsimp only at hSw); go_split_ands; go_simp; with_reducible rfl)
      try simp only [Act.put, List.setIfInBounds_toArray, List.set_cons_zero, List.set_cons_succ]
      refine wpAnyH_take (i := 5) (oi := { dst := some 22, op := Go.Op.fieldAddr 187 (Go.Operand.tmp 5) 0, type := 0, pos := "mem.go:158", after := #[], guard := none }) (v := ?_) rfl (by kernel_rfl) (by kernel_rfl) (by kernel_rfl) (fun _ _ _ h => h) (Or.inl ⟨by rfl, ?_⟩) (by assumption) ?_
      rotate_left
      · (intro w0 hSw; (try dsimp only at hSw); go_split_ands; go_simp; with_reducible rfl)
      try simp only [Act.put, List.setIfInBounds_toArray, List.set_cons_zero, List.set_cons_succ]
      refine wpAnyH_take (i := 6) (oi := { dst := some 23, op := Go.Op.load 113 (Go.Operand.tmp 22), type := 113, pos := "mem.go:158", after := #[{ on := 5, ground := Go.Ground.data }], guard := none }) (v := ?_) rfl (by kernel_rfl) (by kernel_rfl) (by kernel_rfl) (fun _ _ _ h => h) (Or.inl ⟨by rfl, ?_⟩) (by assumption) ?_
      rotate_left
      · (intro w0 hSw; (try dsimp only at hSw); go_split_ands; go_simp; with_reducible rfl)
      try simp only [Act.put, List.setIfInBounds_toArray, List.set_cons_zero, List.set_cons_succ]
      refine wpAnyH_take (i := 7) (oi := { dst := some 24, op := Go.Op.fieldAddr 187 (Go.Operand.tmp 5) 1, type := 0, pos := "mem.go:158", after := #[], guard := none }) (v := ?_) rfl (by kernel_rfl) (by kernel_rfl) (by kernel_rfl) (fun _ _ _ h => h) (Or.inl ⟨by rfl, ?_⟩) (by assumption) ?_
      rotate_left
      · (intro w0 hSw; (try dsimp only at hSw); go_split_ands; go_simp; with_reducible rfl)
      try simp only [Act.put, List.setIfInBounds_toArray, List.set_cons_zero, List.set_cons_succ]
      refine wpAnyH_take (i := 8) (oi := { dst := some 25, op := Go.Op.load 114 (Go.Operand.tmp 24), type := 114, pos := "mem.go:158", after := #[{ on := 7, ground := Go.Ground.data }], guard := none }) (v := ?_) rfl (by kernel_rfl) (by kernel_rfl) (by kernel_rfl) (fun _ _ _ h => h) (Or.inl ⟨by rfl, ?_⟩) (by assumption) ?_
      rotate_left
      · (intro w0 hSw; (try dsimp only at hSw); go_split_ands; go_simp; with_reducible rfl)
      try simp only [Act.put, List.setIfInBounds_toArray, List.set_cons_zero, List.set_cons_succ]
      refine wpAnyH_ready (rs := [4, 9]) (by kernel_rfl) (by simp) ?_
      refine AllReadyH.cons (o := { dst := some 21, op := Go.Op.load 182 (Go.Operand.tmp 20), type := 182, pos := "mem.go:158", after := #[{ on := 3, ground := Go.Ground.data }], guard := none }) rfl (fun K hK => ?_) (AllReadyH.cons (o := { dst := some 26, op := Go.Op.call { callee := Go.Callee.value (Go.Operand.func 141), args := #[Go.Operand.tmp 25], argTypes := #[114] }, type := 114, pos := "mem.go:158", after := #[{ on := 8, ground := Go.Ground.data }], guard := none }) rfl (fun K hK => ?_) AllReadyH.nil)
      · have c1 : V.cell? ⟨w.heap.size, 0, none⟩ = some s3 := by rw [cell_of_row _ _ 0 #[s3] 184 _ HT.out.row]; rfl
        go_simp
        refine hK.out _ _ hHeld (fun hHeld => ?_)
        clear hK K
        try simp only [Act.put, List.setIfInBounds_toArray, List.set_cons_zero, List.set_cons_succ]
        refine wpAnyH_ready (rs := [9]) (by kernel_rfl) (by simp) ?_
        refine AllReadyH.cons (o := { dst := some 26, op := Go.Op.call { callee := Go.Callee.value (Go.Operand.func 141), args := #[Go.Operand.tmp 25], argTypes := #[114] }, type := 114, pos := "mem.go:158", after := #[{ on := 8, ground := Go.Ground.data }], guard := none }) rfl (fun K hK => ?_) AllReadyH.nil
        go_simp
        go_at_call 141
        refine (clone_b V _ _ HSRC.out (by rw [row_len]; exact HSJ.out)).mono ?_
        rintro e w2 ⟨⟨v', rfl, ho2⟩, hb2⟩
        rw [row_len] at ho2
        obtain ⟨g, cp, rfl, hg1, hg2⟩ := own_pos ho2 HPOS.out
        rw [row_byL] at ho2
        have HO2 := Lib.hid ho2
        have HBx := Lib.hid hb2
        have HTx := Lib.hid (HT.out.past hb2)
        have hkeep : ∀ i, w2.cell? ⟨wr.heap.size, i, none⟩ = V.cell? ⟨wr.heap.size, i, none⟩ := fun i => hb2.cell (p := ⟨wr.heap.size, i, none⟩) HSZ.out
        have HL2 : Hid (w2.cell? ⟨wr.heap.size, 0, none⟩ = some (.int .u64 (M.A j : Nat)) ∧ w2.cell? ⟨wr.heap.size, 1, none⟩ = some (.int .u64 (M.S j : Nat)) ∧ w2.cell? ⟨wr.heap.size, 2, none⟩ = some (.bool (M.W j)) ∧ w2.cell? ⟨wr.heap.size, 3, none⟩ = some (.bool (M.X j)) ∧ w2.cell? ⟨wr.heap.size, 4, none⟩ = some (.slice (some ⟨B j, 0, none⟩) (M.S j) (C j))) := Lib.hid (by simp only [hkeep]; exact HL.out)
        clear ho2 hb2 hkeep
        refine hK.out _ _ HL2.out (fun hHeld => ?_)
        clear hK K
        try simp only [Act.put, List.setIfInBounds_toArray, List.set_cons_zero, List.set_cons_succ]
        have HL3 : Hid ((w2.alloc (.cells #[.int .u64 (M.A j : Nat), .int .u64 (M.S j : Nat), .bool (M.W j), .bool (M.X j), .slice (some ⟨g, 0, none⟩) (M.S j) cp] 187)).cell? ⟨wr.heap.size, 0, none⟩ = some (.int .u64 (M.A j : Nat)) ∧ (w2.alloc (.cells #[.int .u64 (M.A j : Nat), .int .u64 (M.S j : Nat), .bool (M.W j), .bool (M.X j), .slice (some ⟨g, 0, none⟩) (M.S j) cp] 187)).cell? ⟨wr.heap.size, 1, none⟩ = some (.int .u64 (M.S j : Nat)) ∧ (w2.alloc (.cells #[.int .u64 (M.A j : Nat), .int .u64 (M.S j : Nat), .bool (M.W j), .bool (M.X j), .slice (some ⟨g, 0, none⟩) (M.S j) cp] 187)).cell? ⟨wr.heap.size, 2, none⟩ = some (.bool (M.W j)) ∧ (w2.alloc (.cells #[.int .u64 (M.A j : Nat), .int .u64 (M.S j : Nat), .bool (M.W j), .bool (M.X j), .slice (some ⟨g, 0, none⟩) (M.S j) cp] 187)).cell? ⟨wr.heap.size, 3, none⟩ = some (.bool (M.X j)) ∧ (w2.alloc (.cells #[.int .u64 (M.A j : Nat), .int .u64 (M.S j : Nat), .bool (M.W j), .bool (M.X j), .slice (some ⟨g, 0, none⟩) (M.S j) cp] 187)).cell? ⟨wr.heap.size, 4, none⟩ = some (.slice (some ⟨B j, 0, none⟩) (M.S j) (C j))) := Lib.hid (by have hkeep : ∀ i, (w2.alloc (.cells #[.int .u64 (M.A j : Nat), .int .u64 (M.S j : Nat), .bool (M.W j), .bool (M.X j), .slice (some ⟨g, 0, none⟩) (M.S j) cp] 187)).cell? ⟨wr.heap.size, i, none⟩ = w2.cell? ⟨wr.heap.size, i, none⟩ := fun i => World.cell?_alloc_past _ _ _ (Nat.lt_of_lt_of_le HSZ.out HBx.out.size); simp only [hkeep]; exact HL2.out)
        have HOA := Lib.hid (own_past HTx.out.ars ((Below.refl _ _).alloc (Nat.le_refl _) (.cells #[.int .u64 (M.A j : Nat), .int .u64 (M.S j : Nat), .bool (M.W j), .bool (M.X j), .slice (some ⟨g, 0, none⟩) (M.S j) cp] 187)))
        refine wpAnyH_take (i := 10) (oi := { dst := some 27, op := Go.Op.build 187 #[(0, Go.Operand.tmp 23), (1, Go.Operand.tmp 26)], type := 187, pos := "mem.go:158", after := #[{ on := 6, ground := Go.Ground.data }, { on := 9, ground := Go.Ground.data }], guard := none }) (v := ?_) rfl (by kernel_rfl) (by kernel_rfl) (by kernel_rfl) (fun _ _ _ h => h) (Or.inl ⟨by rfl, ?_⟩) (by assumption) ?_
        rotate_left
        · (intro w0 hSw; (try dsimp only at hSw); go_split_ands; go_simp; with_reducible rfl)
        try simp only [Act.put, List.setIfInBounds_toArray, List.set_cons_zero, List.set_cons_succ]
        refine wpAnyH_ready (rs := [11]) (by kernel_rfl) (by simp) ?_
        refine AllReadyH.cons (o := { dst := some 28, op := Go.Op.buildSlice 182 1 #[(0, Go.Operand.tmp 27)], type := 182, pos := "mem.go:158", after := #[{ on := 10, ground := Go.Ground.data }], guard := none }) rfl (fun K hK => ?_) AllReadyH.nil
        go_simp
        refine hK.out _ _ HL3.out (fun hHeld => ?_)
        clear hK K
        try simp only [Act.put, List.setIfInBounds_toArray, List.set_cons_zero, List.set_cons_succ]
        refine wpAnyH_ready (rs := [12]) (by kernel_rfl) (by simp) ?_
        refine AllReadyH.cons (o := { dst := some 29, op := Go.Op.call { callee := Go.Callee.builtin Go.Builtin.append, args := #[Go.Operand.tmp 21, Go.Operand.tmp 28], argTypes := #[182, 182] }, type := 182, pos := "mem.go:158", after := #[{ on := 4, ground := Go.Ground.data }, { on := 11, ground := Go.Ground.data }, { on := 9, ground := Go.Ground.chain }], guard := none }) rfl (fun K hK => ?_) AllReadyH.nil
        have hnews : ∀ q u, (arC M (fun k => if k = j then g else B' k) (fun k => if k = j then cp else C' k) j)[q]? = some u → (w2.alloc (.cells #[.int .u64 (M.A j : Nat), .int .u64 (M.S j : Nat), .bool (M.W j), .bool (M.X j), .slice (some ⟨g, 0, none⟩) (M.S j) cp] 187)).cell? ((⟨w2.heap.size, 0, none⟩ : Addr).add q) = some u := fun q u hu => by
          have : (⟨w2.heap.size, 0, none⟩ : Addr).add q = ⟨w2.heap.size, q, none⟩ := by unfold Addr.add; split <;> simp_all
          rw [this, World.cell?_alloc_at _ _ _ _ rfl]
          simp only [arC, if_true] at hu
          rw [← Array.getElem?_toList]
          exact hu
        obtain ⟨v3, w3, hr, ho3, hg3, _, hl3⟩ := run_append_own_at (P := Try.prog) (w2.alloc (.cells #[.int .u64 (M.A j : Nat), .int .u64 (M.S j : Nat), .bool (M.W j), .bool (M.X j), .slice (some ⟨g, 0, none⟩) (M.S j) cp] 187)) (w.heap.size + 1) 182 182 187 i0 _ 5 48 Try.underlying182 hi hz0 hz1 hz2 rfl (by decide) s3 j (arL M B' C' j) HOA.out ⟨w2.heap.size, 0, none⟩ 1 1 (arC M (fun k => if k = j then g else B' k) (fun k => if k = j then cp else C' k) j) rfl hnews (arC_one _ _ _ _) (by unfold maxLen; omega) (by omega) (by have := HTx.out.row; have := (Array.getElem?_eq_some_iff.1 this).1; simp; omega)
        have HST := Lib.hid (HT.out.step (w2 := w2) (by decide) HBx.out HO2.out ho3 hg3)
        have HG3 := Lib.hid hg3
        have hrow3 : w3.heap[w.heap.size]? = some (.cells #[s3] 184 (0, 0)) := (hg3.block _ (by have := HTx.out.row; have := (Array.getElem?_eq_some_iff.1 this).1; simp; omega) (fun e => by have := HTx.out.ars.lt w.heap.size e.symm; omega)).trans ((heap_alloc_old w2 _ (Array.getElem?_eq_some_iff.1 HTx.out.row).1).trans HTx.out.row)
        have c13 : w3.cell? ⟨w.heap.size, 0, none⟩ = some s3 := by rw [cell_of_row w3 _ 0 #[s3] 184 _ hrow3]; rfl
        have f13 := frozen_of_row w3 w.heap.size 0 #[s3] 184 hrow3
        have HL4 : Hid (w3.cell? ⟨wr.heap.size, 0, none⟩ = some (.int .u64 (M.A j : Nat)) ∧ w3.cell? ⟨wr.heap.size, 1, none⟩ = some (.int .u64 (M.S j : Nat)) ∧ w3.cell? ⟨wr.heap.size, 2, none⟩ = some (.bool (M.W j)) ∧ w3.cell? ⟨wr.heap.size, 3, none⟩ = some (.bool (M.X j)) ∧ w3.cell? ⟨wr.heap.size, 4, none⟩ = some (.slice (some ⟨B j, 0, none⟩) (M.S j) (C j))) := Lib.hid (by have hkeep : ∀ i, w3.cell? ⟨wr.heap.size, i, none⟩ = (w2.alloc (.cells #[.int .u64 (M.A j : Nat), .int .u64 (M.S j : Nat), .bool (M.W j), .bool (M.X j), .slice (some ⟨g, 0, none⟩) (M.S j) cp] 187)).cell? ⟨wr.heap.size, i, none⟩ := fun i => hg3.cell_far ⟨wr.heap.size, i, none⟩ (by have := HSZ.out; have := HBx.out.size; simp; omega) (fun e => by have := HT0.out.ars.lt wr.heap.size e.symm; omega); simp only [hkeep]; exact HL3.out)
        have HL5 : Hid ((w3.setCell ⟨w.heap.size, 0, none⟩ v3).cell? ⟨wr.heap.size, 0, none⟩ = some (.int .u64 (M.A j : Nat)) ∧ (w3.setCell ⟨w.heap.size, 0, none⟩ v3).cell? ⟨wr.heap.size, 1, none⟩ = some (.int .u64 (M.S j : Nat)) ∧ (w3.setCell ⟨w.heap.size, 0, none⟩ v3).cell? ⟨wr.heap.size, 2, none⟩ = some (.bool (M.W j)) ∧ (w3.setCell ⟨w.heap.size, 0, none⟩ v3).cell? ⟨wr.heap.size, 3, none⟩ = some (.bool (M.X j)) ∧ (w3.setCell ⟨w.heap.size, 0, none⟩ v3).cell? ⟨wr.heap.size, 4, none⟩ = some (.slice (some ⟨B j, 0, none⟩) (M.S j) (C j))) := Lib.hid (by have hkeep : ∀ i, (w3.setCell ⟨w.heap.size, 0, none⟩ v3).cell? ⟨wr.heap.size, i, none⟩ = w3.cell? ⟨wr.heap.size, i, none⟩ := fun i => World.cell?_setCell_other _ _ _ _ (fun e => by injection e with e; have := HNE.out; omega); simp only [hkeep]; exact HL4.out)
        obtain ⟨a3, cp3, rfl, _⟩ := own_form ho3
        have HB5 : Hid (Below w.heap.size w (w3.setCell ⟨w.heap.size, 0, none⟩ (.slice a3 (j + 1) cp3))) := Lib.hid ((((HB2.out.trans (HBx.out.mono HB2.out.size)).alloc (by have := HB2.out.size; have := HBx.out.size; omega) (.cells #[.int .u64 (M.A j : Nat), .int .u64 (M.S j : Nat), .bool (M.W j), .bool (M.X j), .slice (some ⟨g, 0, none⟩) (M.S j) cp] 187)).grown hg3 (by have := HB2.out.size; have := HBx.out.size; simp; omega) (fun q hq => by have := HT.out.ars.lt q hq; omega)).setCell (Nat.le_refl _) _)
        clear hrow3 hnews ho3 hg3 hl3
        refine step_append_run rfl _ _ _ rfl _ _ _ _ rfl (by rfl) hr ?_
        refine hK.out _ _ HL4.out (fun hHeld => ?_)
        clear hK K
        try simp only [Act.put, List.setIfInBounds_toArray, List.set_cons_zero, List.set_cons_succ]
        refine wpAnyH_take (i := 13) (oi := { dst := some 30, op := Go.Op.nilCheck (Go.Operand.tmp 17), type := 0, pos := "mem.go:158", after := #[{ on := 0, ground := Go.Ground.data }, { on := 0, ground := Go.Ground.phase }, { on := 1, ground := Go.Ground.phase }, { on := 2, ground := Go.Ground.phase }, { on := 3, ground := Go.Ground.phase }, { on := 4, ground := Go.Ground.phase }, { on := 5, ground := Go.Ground.phase }, { on := 6, ground := Go.Ground.phase }, { on := 7, ground := Go.Ground.phase }, { on := 8, ground := Go.Ground.phase }, { on := 9, ground := Go.Ground.phase }, { on := 10, ground := Go.Ground.phase }, { on := 11, ground := Go.Ground.phase }, { on := 12, ground := Go.Ground.phase }], guard := none }) (v := ?_) rfl (by kernel_rfl) (by kernel_rfl) (by kernel_rfl) (fun _ _ _ h => h) (Or.inl ⟨by rfl, ?_⟩) (by assumption) ?_
        rotate_left
        · (intro w0 hSw; (try dsimp only at hSw); go_split_ands; go_simp; with_reducible rfl)
        try simp only [Act.put, List.setIfInBounds_toArray, List.set_cons_zero, List.set_cons_succ]
        refine wpAnyH_take (i := 14) (oi := { dst := some 31, op := Go.Op.fieldAddr 184 (Go.Operand.tmp 30) 0, type := 0, pos := "mem.go:158", after := #[{ on := 13, ground := Go.Ground.data }, { on := 0, ground := Go.Ground.phase }, { on := 1, ground := Go.Ground.phase }, { on := 2, ground := Go.Ground.phase }, { on := 3, ground := Go.Ground.phase }, { on := 4, ground := Go.Ground.phase }, { on := 5, ground := Go.Ground.phase }, { on := 6, ground := Go.Ground.phase }, { on := 7, ground := Go.Ground.phase }, { on := 8, ground := Go.Ground.phase }, { on := 9, ground := Go.Ground.phase }, { on := 10, ground := Go.Ground.phase }, { on := 11, ground := Go.Ground.phase }, { on := 12, ground := Go.Ground.phase }], guard := none }) (v := ?_) rfl (by kernel_rfl) (by kernel_rfl) (by kernel_rfl) (fun _ _ _ h => h) (Or.inl ⟨by rfl, ?_⟩) (by assumption) ?_
        rotate_left
        · (intro w0 hSw; (try dsimp only at hSw); go_split_ands; go_simp; with_reducible rfl)
        try simp only [Act.put, List.setIfInBounds_toArray, List.set_cons_zero, List.set_cons_succ]
        refine wpAnyH_ready (rs := [15]) (by kernel_rfl) (by simp) ?_
        refine AllReadyH.cons (o := { dst := none, op := Go.Op.store 182 (Go.Operand.tmp 31) (Go.Operand.tmp 29), type := 0, pos := "mem.go:158", after := #[{ on := 14, ground := Go.Ground.data }, { on := 12, ground := Go.Ground.data }, { on := 12, ground := Go.Ground.chain }, { on := 0, ground := Go.Ground.phase }, { on := 1, ground := Go.Ground.phase }, { on := 2, ground := Go.Ground.phase }, { on := 3, ground := Go.Ground.phase }, { on := 4, ground := Go.Ground.phase }, { on := 5, ground := Go.Ground.phase }, { on := 6, ground := Go.Ground.phase }, { on := 7, ground := Go.Ground.phase }, { on := 8, ground := Go.Ground.phase }, { on := 9, ground := Go.Ground.phase }, { on := 10, ground := Go.Ground.phase }, { on := 11, ground := Go.Ground.phase }, { on := 12, ground := Go.Ground.phase }], guard := none }) rfl (fun K hK => ?_) AllReadyH.nil
        go_simp
        refine hK.out _ _ HL5.out (fun hHeld => ?_)
        clear hK K
        try simp only [Act.put, List.setIfInBounds_toArray, List.set_cons_zero, List.set_cons_succ]
        refine wpAnyH_done (by kernel_rfl) ?_ _
        clear hHeld
        go_wp2
        exact ⟨⟨j + 1, _, _, _, by omega, by go_num, HST, HB5⟩, by simp [intOf]; omega⟩
      · go_simp
        go_at_call 141
        refine (clone_b V _ _ HSRC.out (by rw [row_len]; exact HSJ.out)).mono ?_
        rintro e w2 ⟨⟨v', rfl, ho2⟩, hb2⟩
        rw [row_len] at ho2
        obtain ⟨g, cp, rfl, hg1, hg2⟩ := own_pos ho2 HPOS.out
        rw [row_byL] at ho2
        have HO2 := Lib.hid ho2
        have HBx := Lib.hid hb2
        have HTx := Lib.hid (HT.out.past hb2)
        have hkeep : ∀ i, w2.cell? ⟨wr.heap.size, i, none⟩ = V.cell? ⟨wr.heap.size, i, none⟩ := fun i => hb2.cell (p := ⟨wr.heap.size, i, none⟩) HSZ.out
        have HL2 : Hid (w2.cell? ⟨wr.heap.size, 0, none⟩ = some (.int .u64 (M.A j : Nat)) ∧ w2.cell? ⟨wr.heap.size, 1, none⟩ = some (.int .u64 (M.S j : Nat)) ∧ w2.cell? ⟨wr.heap.size, 2, none⟩ = some (.bool (M.W j)) ∧ w2.cell? ⟨wr.heap.size, 3, none⟩ = some (.bool (M.X j)) ∧ w2.cell? ⟨wr.heap.size, 4, none⟩ = some (.slice (some ⟨B j, 0, none⟩) (M.S j) (C j))) := Lib.hid (by simp only [hkeep]; exact HL.out)
        clear ho2 hb2 hkeep
        refine hK.out _ _ HL2.out (fun hHeld => ?_)
        clear hK K
        try simp only [Act.put, List.setIfInBounds_toArray, List.set_cons_zero, List.set_cons_succ]
        have HL3 : Hid ((w2.alloc (.cells #[.int .u64 (M.A j : Nat), .int .u64 (M.S j : Nat), .bool (M.W j), .bool (M.X j), .slice (some ⟨g, 0, none⟩) (M.S j) cp] 187)).cell? ⟨wr.heap.size, 0, none⟩ = some (.int .u64 (M.A j : Nat)) ∧ (w2.alloc (.cells #[.int .u64 (M.A j : Nat), .int .u64 (M.S j : Nat), .bool (M.W j), .bool (M.X j), .slice (some ⟨g, 0, none⟩) (M.S j) cp] 187)).cell? ⟨wr.heap.size, 1, none⟩ = some (.int .u64 (M.S j : Nat)) ∧ (w2.alloc (.cells #[.int .u64 (M.A j : Nat), .int .u64 (M.S j : Nat), .bool (M.W j), .bool (M.X j), .slice (some ⟨g, 0, none⟩) (M.S j) cp] 187)).cell? ⟨wr.heap.size, 2, none⟩ = some (.bool (M.W j)) ∧ (w2.alloc (.cells #[.int .u64 (M.A j : Nat), .int .u64 (M.S j : Nat), .bool (M.W j), .bool (M.X j), .slice (some ⟨g, 0, none⟩) (M.S j) cp] 187)).cell? ⟨wr.heap.size, 3, none⟩ = some (.bool (M.X j)) ∧ (w2.alloc (.cells #[.int .u64 (M.A j : Nat), .int .u64 (M.S j : Nat), .bool (M.W j), .bool (M.X j), .slice (some ⟨g, 0, none⟩) (M.S j) cp] 187)).cell? ⟨wr.heap.size, 4, none⟩ = some (.slice (some ⟨B j, 0, none⟩) (M.S j) (C j))) := Lib.hid (by have hkeep : ∀ i, (w2.alloc (.cells #[.int .u64 (M.A j : Nat), .int .u64 (M.S j : Nat), .bool (M.W j), .bool (M.X j), .slice (some ⟨g, 0, none⟩) (M.S j) cp] 187)).cell? ⟨wr.heap.size, i, none⟩ = w2.cell? ⟨wr.heap.size, i, none⟩ := fun i => World.cell?_alloc_past _ _ _ (Nat.lt_of_lt_of_le HSZ.out HBx.out.size); simp only [hkeep]; exact HL2.out)
        have HOA := Lib.hid (own_past HTx.out.ars ((Below.refl _ _).alloc (Nat.le_refl _) (.cells #[.int .u64 (M.A j : Nat), .int .u64 (M.S j : Nat), .bool (M.W j), .bool (M.X j), .slice (some ⟨g, 0, none⟩) (M.S j) cp] 187)))
        refine wpAnyH_take (i := 10) (oi := { dst := some 27, op := Go.Op.build 187 #[(0, Go.Operand.tmp 23), (1, Go.Operand.tmp 26)], type := 187, pos := "mem.go:158", after := #[{ on := 6, ground := Go.Ground.data }, { on := 9, ground := Go.Ground.data }], guard := none }) (v := ?_) rfl (by kernel_rfl) (by kernel_rfl) (by kernel_rfl) (fun _ _ _ h => h) (Or.inl ⟨by rfl, ?_⟩) (by assumption) ?_
        rotate_left
        · (intro w0 hSw; (try dsimp only at hSw); go_split_ands; go_simp; with_reducible rfl)
        try simp only [Act.put, List.setIfInBounds_toArray, List.set_cons_zero, List.set_cons_succ]
        refine wpAnyH_ready (rs := [4, 11]) (by kernel_rfl) (by simp) ?_
        refine AllReadyH.cons (o := { dst := some 21, op := Go.Op.load 182 (Go.Operand.tmp 20), type := 182, pos := "mem.go:158", after := #[{ on := 3, ground := Go.Ground.data }], guard := none }) rfl (fun K hK => ?_) (AllReadyH.cons (o := { dst := some 28, op := Go.Op.buildSlice 182 1 #[(0, Go.Operand.tmp 27)], type := 182, pos := "mem.go:158", after := #[{ on := 10, ground := Go.Ground.data }], guard := none }) rfl (fun K hK => ?_) AllReadyH.nil)
        · have c1 : w2.cell? ⟨w.heap.size, 0, none⟩ = some s3 := by rw [cell_of_row _ _ 0 #[s3] 184 _ HTx.out.row]; rfl
          go_simp
          refine hK.out _ _ hHeld (fun hHeld => ?_)
          clear hK K
          try simp only [Act.put, List.setIfInBounds_toArray, List.set_cons_zero, List.set_cons_succ]
          refine wpAnyH_ready (rs := [11]) (by kernel_rfl) (by simp) ?_
          refine AllReadyH.cons (o := { dst := some 28, op := Go.Op.buildSlice 182 1 #[(0, Go.Operand.tmp 27)], type := 182, pos := "mem.go:158", after := #[{ on := 10, ground := Go.Ground.data }], guard := none }) rfl (fun K hK => ?_) AllReadyH.nil
          go_simp
          refine hK.out _ _ HL3.out (fun hHeld => ?_)
          clear hK K
          try simp only [Act.put, List.setIfInBounds_toArray, List.set_cons_zero, List.set_cons_succ]
          refine wpAnyH_ready (rs := [12]) (by kernel_rfl) (by simp) ?_
          refine AllReadyH.cons (o := { dst := some 29, op := Go.Op.call { callee := Go.Callee.builtin Go.Builtin.append, args := #[Go.Operand.tmp 21, Go.Operand.tmp 28], argTypes := #[182, 182] }, type := 182, pos := "mem.go:158", after := #[{ on := 4, ground := Go.Ground.data }, { on := 11, ground := Go.Ground.data }, { on := 9, ground := Go.Ground.chain }], guard := none }) rfl (fun K hK => ?_) AllReadyH.nil
          have hnews : ∀ q u, (arC M (fun k => if k = j then g else B' k) (fun k => if k = j then cp else C' k) j)[q]? = some u → (w2.alloc (.cells #[.int .u64 (M.A j : Nat), .int .u64 (M.S j : Nat), .bool (M.W j), .bool (M.X j), .slice (some ⟨g, 0, none⟩) (M.S j) cp] 187)).cell? ((⟨w2.heap.size, 0, none⟩ : Addr).add q) = some u := fun q u hu => by
            have : (⟨w2.heap.size, 0, none⟩ : Addr).add q = ⟨w2.heap.size, q, none⟩ := by unfold Addr.add; split <;> simp_all
            rw [this, World.cell?_alloc_at _ _ _ _ rfl]
            simp only [arC, if_true] at hu
            rw [← Array.getElem?_toList]
            exact hu
          obtain ⟨v3, w3, hr, ho3, hg3, _, hl3⟩ := run_append_own_at (P := Try.prog) (w2.alloc (.cells #[.int .u64 (M.A j : Nat), .int .u64 (M.S j : Nat), .bool (M.W j), .bool (M.X j), .slice (some ⟨g, 0, none⟩) (M.S j) cp] 187)) (w.heap.size + 1) 182 182 187 i0 _ 5 48 Try.underlying182 hi hz0 hz1 hz2 rfl (by decide) s3 j (arL M B' C' j) HOA.out ⟨w2.heap.size, 0, none⟩ 1 1 (arC M (fun k => if k = j then g else B' k) (fun k => if k = j then cp else C' k) j) rfl hnews (arC_one _ _ _ _) (by unfold maxLen; omega) (by omega) (by have := HTx.out.row; have := (Array.getElem?_eq_some_iff.1 this).1; simp; omega)
          have HST := Lib.hid (HT.out.step (w2 := w2) (by decide) HBx.out HO2.out ho3 hg3)
          have HG3 := Lib.hid hg3
          have hrow3 : w3.heap[w.heap.size]? = some (.cells #[s3] 184 (0, 0)) := (hg3.block _ (by have := HTx.out.row; have := (Array.getElem?_eq_some_iff.1 this).1; simp; omega) (fun e => by have := HTx.out.ars.lt w.heap.size e.symm; omega)).trans ((heap_alloc_old w2 _ (Array.getElem?_eq_some_iff.1 HTx.out.row).1).trans HTx.out.row)
          have c13 : w3.cell? ⟨w.heap.size, 0, none⟩ = some s3 := by rw [cell_of_row w3 _ 0 #[s3] 184 _ hrow3]; rfl
          have f13 := frozen_of_row w3 w.heap.size 0 #[s3] 184 hrow3
          have HL4 : Hid (w3.cell? ⟨wr.heap.size, 0, none⟩ = some (.int .u64 (M.A j : Nat)) ∧ w3.cell? ⟨wr.heap.size, 1, none⟩ = some (.int .u64 (M.S j : Nat)) ∧ w3.cell? ⟨wr.heap.size, 2, none⟩ = some (.bool (M.W j)) ∧ w3.cell? ⟨wr.heap.size, 3, none⟩ = some (.bool (M.X j)) ∧ w3.cell? ⟨wr.heap.size, 4, none⟩ = some (.slice (some ⟨B j, 0, none⟩) (M.S j) (C j))) := Lib.hid (by have hkeep : ∀ i, w3.cell? ⟨wr.heap.size, i, none⟩ = (w2.alloc (.cells #[.int .u64 (M.A j : Nat), .int .u64 (M.S j : Nat), .bool (M.W j), .bool (M.X j), .slice (some ⟨g, 0, none⟩) (M.S j) cp] 187)).cell? ⟨wr.heap.size, i, none⟩ := fun i => hg3.cell_far ⟨wr.heap.size, i, none⟩ (by have := HSZ.out; have := HBx.out.size; simp; omega) (fun e => by have := HT0.out.ars.lt wr.heap.size e.symm; omega); simp only [hkeep]; exact HL3.out)
          have HL5 : Hid ((w3.setCell ⟨w.heap.size, 0, none⟩ v3).cell? ⟨wr.heap.size, 0, none⟩ = some (.int .u64 (M.A j : Nat)) ∧ (w3.setCell ⟨w.heap.size, 0, none⟩ v3).cell? ⟨wr.heap.size, 1, none⟩ = some (.int .u64 (M.S j : Nat)) ∧ (w3.setCell ⟨w.heap.size, 0, none⟩ v3).cell? ⟨wr.heap.size, 2, none⟩ = some (.bool (M.W j)) ∧ (w3.setCell ⟨w.heap.size, 0, none⟩ v3).cell? ⟨wr.heap.size, 3, none⟩ = some (.bool (M.X j)) ∧ (w3.setCell ⟨w.heap.size, 0, none⟩ v3).cell? ⟨wr.heap.size, 4, none⟩ = some (.slice (some ⟨B j, 0, none⟩) (M.S j) (C j))) := Lib.hid (by have hkeep : ∀ i, (w3.setCell ⟨w.heap.size, 0, none⟩ v3).cell? ⟨wr.heap.size, i, none⟩ = w3.cell? ⟨wr.heap.size, i, none⟩ := fun i => World.cell?_setCell_other _ _ _ _ (fun e => by injection e with e; have := HNE.out; omega); simp only [hkeep]; exact HL4.out)
          obtain ⟨a3, cp3, rfl, _⟩ := own_form ho3
          have HB5 : Hid (Below w.heap.size w (w3.setCell ⟨w.heap.size, 0, none⟩ (.slice a3 (j + 1) cp3))) := Lib.hid ((((HB2.out.trans (HBx.out.mono HB2.out.size)).alloc (by have := HB2.out.size; have := HBx.out.size; omega) (.cells #[.int .u64 (M.A j : Nat), .int .u64 (M.S j : Nat), .bool (M.W j), .bool (M.X j), .slice (some ⟨g, 0, none⟩) (M.S j) cp] 187)).grown hg3 (by have := HB2.out.size; have := HBx.out.size; simp; omega) (fun q hq => by have := HT.out.ars.lt q hq; omega)).setCell (Nat.le_refl _) _)
          clear hrow3 hnews ho3 hg3 hl3
          refine step_append_run rfl _ _ _ rfl _ _ _ _ rfl (by rfl) hr ?_
          refine hK.out _ _ HL4.out (fun hHeld => ?_)
          clear hK K
          try simp only [Act.put, List.setIfInBounds_toArray, List.set_cons_zero, List.set_cons_succ]
          refine wpAnyH_take (i := 13) (oi := { dst := some 30, op := Go.Op.nilCheck (Go.Operand.tmp 17), type := 0, pos := "mem.go:158", after := #[{ on := 0, ground := Go.Ground.data }, { on := 0, ground := Go.Ground.phase }, { on := 1, ground := Go.Ground.phase }, { on := 2, ground := Go.Ground.phase }, { on := 3, ground := Go.Ground.phase }, { on := 4, ground := Go.Ground.phase }, { on := 5, ground := Go.Ground.phase }, { on := 6, ground := Go.Ground.phase }, { on := 7, ground := Go.Ground.phase }, { on := 8, ground := Go.Ground.phase }, { on := 9, ground := Go.Ground.phase }, { on := 10, ground := Go.Ground.phase }, { on := 11, ground := Go.Ground.phase }, { on := 12, ground := Go.Ground.phase }], guard := none }) (v := ?_) rfl (by kernel_rfl) (by kernel_rfl) (by kernel_rfl) (fun _ _ _ h => h) (Or.inl ⟨by rfl, ?_⟩) (by assumption) ?_
          rotate_left
          · (intro w0 hSw; (try dsimp only at hSw); go_split_ands; go_simp; with_reducible rfl)
          try simp only [Act.put, List.setIfInBounds_toArray, List.set_cons_zero, List.set_cons_succ]
          refine wpAnyH_take (i := 14) (oi := { dst := some 31, op := Go.Op.fieldAddr 184 (Go.Operand.tmp 30) 0, type := 0, pos := "mem.go:158", after := #[{ on := 13, ground := Go.Ground.data }, { on := 0, ground := Go.Ground.phase }, { on := 1, ground := Go.Ground.phase }, { on := 2, ground := Go.Ground.phase }, { on := 3, ground := Go.Ground.phase }, { on := 4, ground := Go.Ground.phase }, { on := 5, ground := Go.Ground.phase }, { on := 6, ground := Go.Ground.phase }, { on := 7, ground := Go.Ground.phase }, { on := 8, ground := Go.Ground.phase }, { on := 9, ground := Go.Ground.phase }, { on := 10, ground := Go.Ground.phase }, { on := 11, ground := Go.Ground.phase }, { on := 12, ground := Go.Ground.phase }], guard := none }) (v := ?_) rfl (by kernel_rfl) (by kernel_rfl) (by kernel_rfl) (fun _ _ _ h => h) (Or.inl ⟨by rfl, ?_⟩) (by assumption) ?_
          rotate_left
          · (intro w0 hSw; (try dsimp only at hSw); go_split_ands; go_simp; with_reducible rfl)
          try simp only [Act.put, List.setIfInBounds_toArray, List.set_cons_zero, List.set_cons_succ]
          refine wpAnyH_ready (rs := [15]) (by kernel_rfl) (by simp) ?_
          refine AllReadyH.cons (o := { dst := none, op := Go.Op.store 182 (Go.Operand.tmp 31) (Go.Operand.tmp 29), type := 0, pos := "mem.go:158", after := #[{ on := 14, ground := Go.Ground.data }, { on := 12, ground := Go.Ground.data }, { on := 12, ground := Go.Ground.chain }, { on := 0, ground := Go.Ground.phase }, { on := 1, ground := Go.Ground.phase }, { on := 2, ground := Go.Ground.phase }, { on := 3, ground := Go.Ground.phase }, { on := 4, ground := Go.Ground.phase }, { on := 5, ground := Go.Ground.phase }, { on := 6, ground := Go.Ground.phase }, { on := 7, ground := Go.Ground.phase }, { on := 8, ground := Go.Ground.phase }, { on := 9, ground := Go.Ground.phase }, { on := 10, ground := Go.Ground.phase }, { on := 11, ground := Go.Ground.phase }, { on := 12, ground := Go.Ground.phase }], guard := none }) rfl (fun K hK => ?_) AllReadyH.nil
          go_simp
          refine hK.out _ _ HL5.out (fun hHeld => ?_)
          clear hK K
          try simp only [Act.put, List.setIfInBounds_toArray, List.set_cons_zero, List.set_cons_succ]
          refine wpAnyH_done (by kernel_rfl) ?_ _
          clear hHeld
          go_wp2
          exact ⟨⟨j + 1, _, _, _, by omega, by go_num, HST, HB5⟩, by simp [intOf]; omega⟩
        · go_simp
          refine hK.out _ _ HL3.out (fun hHeld => ?_)
          clear hK K
          try simp only [Act.put, List.setIfInBounds_toArray, List.set_cons_zero, List.set_cons_succ]
          refine wpAnyH_ready (rs := [4]) (by kernel_rfl) (by simp) ?_
          refine AllReadyH.cons (o := { dst := some 21, op := Go.Op.load 182 (Go.Operand.tmp 20), type := 182, pos := "mem.go:158", after := #[{ on := 3, ground := Go.Ground.data }], guard := none }) rfl (fun K hK => ?_) AllReadyH.nil
          have c1 : (w2.alloc (.cells #[.int .u64 (M.A j : Nat), .int .u64 (M.S j : Nat), .bool (M.W j), .bool (M.X j), .slice (some ⟨g, 0, none⟩) (M.S j) cp] 187)).cell? ⟨w.heap.size, 0, none⟩ = some s3 := by rw [cell_of_row _ _ 0 #[s3] 184 _ ((heap_alloc_old w2 _ (Array.getElem?_eq_some_iff.1 HTx.out.row).1).trans HTx.out.row)]; rfl
          go_simp
          refine hK.out _ _ HL3.out (fun hHeld => ?_)
          clear hK K
          try simp only [Act.put, List.setIfInBounds_toArray, List.set_cons_zero, List.set_cons_succ]
          refine wpAnyH_ready (rs := [12]) (by kernel_rfl) (by simp) ?_
          refine AllReadyH.cons (o := { dst := some 29, op := Go.Op.call { callee := Go.Callee.builtin Go.Builtin.append, args := #[Go.Operand.tmp 21, Go.Operand.tmp 28], argTypes := #[182, 182] }, type := 182, pos := "mem.go:158", after := #[{ on := 4, ground := Go.Ground.data }, { on := 11, ground := Go.Ground.data }, { on := 9, ground := Go.Ground.chain }], guard := none }) rfl (fun K hK => ?_) AllReadyH.nil
          have hnews : ∀ q u, (arC M (fun k => if k = j then g else B' k) (fun k => if k = j then cp else C' k) j)[q]? = some u → (w2.alloc (.cells #[.int .u64 (M.A j : Nat), .int .u64 (M.S j : Nat), .bool (M.W j), .bool (M.X j), .slice (some ⟨g, 0, none⟩) (M.S j) cp] 187)).cell? ((⟨w2.heap.size, 0, none⟩ : Addr).add q) = some u := fun q u hu => by
            have : (⟨w2.heap.size, 0, none⟩ : Addr).add q = ⟨w2.heap.size, q, none⟩ := by unfold Addr.add; split <;> simp_all
            rw [this, World.cell?_alloc_at _ _ _ _ rfl]
            simp only [arC, if_true] at hu
            rw [← Array.getElem?_toList]
            exact hu
          obtain ⟨v3, w3, hr, ho3, hg3, _, hl3⟩ := run_append_own_at (P := Try.prog) (w2.alloc (.cells #[.int .u64 (M.A j : Nat), .int .u64 (M.S j : Nat), .bool (M.W j), .bool (M.X j), .slice (some ⟨g, 0, none⟩) (M.S j) cp] 187)) (w.heap.size + 1) 182 182 187 i0 _ 5 48 Try.underlying182 hi hz0 hz1 hz2 rfl (by decide) s3 j (arL M B' C' j) HOA.out ⟨w2.heap.size, 0, none⟩ 1 1 (arC M (fun k => if k = j then g else B' k) (fun k => if k = j then cp else C' k) j) rfl hnews (arC_one _ _ _ _) (by unfold maxLen; omega) (by omega) (by have := HTx.out.row; have := (Array.getElem?_eq_some_iff.1 this).1; simp; omega)
          have HST := Lib.hid (HT.out.step (w2 := w2) (by decide) HBx.out HO2.out ho3 hg3)
          have HG3 := Lib.hid hg3
          have hrow3 : w3.heap[w.heap.size]? = some (.cells #[s3] 184 (0, 0)) := (hg3.block _ (by have := HTx.out.row; have := (Array.getElem?_eq_some_iff.1 this).1; simp; omega) (fun e => by have := HTx.out.ars.lt w.heap.size e.symm; omega)).trans ((heap_alloc_old w2 _ (Array.getElem?_eq_some_iff.1 HTx.out.row).1).trans HTx.out.row)
          have c13 : w3.cell? ⟨w.heap.size, 0, none⟩ = some s3 := by rw [cell_of_row w3 _ 0 #[s3] 184 _ hrow3]; rfl
          have f13 := frozen_of_row w3 w.heap.size 0 #[s3] 184 hrow3
          have HL4 : Hid (w3.cell? ⟨wr.heap.size, 0, none⟩ = some (.int .u64 (M.A j : Nat)) ∧ w3.cell? ⟨wr.heap.size, 1, none⟩ = some (.int .u64 (M.S j : Nat)) ∧ w3.cell? ⟨wr.heap.size, 2, none⟩ = some (.bool (M.W j)) ∧ w3.cell? ⟨wr.heap.size, 3, none⟩ = some (.bool (M.X j)) ∧ w3.cell? ⟨wr.heap.size, 4, none⟩ = some (.slice (some ⟨B j, 0, none⟩) (M.S j) (C j))) := Lib.hid (by have hkeep : ∀ i, w3.cell? ⟨wr.heap.size, i, none⟩ = (w2.alloc (.cells #[.int .u64 (M.A j : Nat), .int .u64 (M.S j : Nat), .bool (M.W j), .bool (M.X j), .slice (some ⟨g, 0, none⟩) (M.S j) cp] 187)).cell? ⟨wr.heap.size, i, none⟩ := fun i => hg3.cell_far ⟨wr.heap.size, i, none⟩ (by have := HSZ.out; have := HBx.out.size; simp; omega) (fun e => by have := HT0.out.ars.lt wr.heap.size e.symm; omega); simp only [hkeep]; exact HL3.out)
          have HL5 : Hid ((w3.setCell ⟨w.heap.size, 0, none⟩ v3).cell? ⟨wr.heap.size, 0, none⟩ = some (.int .u64 (M.A j : Nat)) ∧ (w3.setCell ⟨w.heap.size, 0, none⟩ v3).cell? ⟨wr.heap.size, 1, none⟩ = some (.int .u64 (M.S j : Nat)) ∧ (w3.setCell ⟨w.heap.size, 0, none⟩ v3).cell? ⟨wr.heap.size, 2, none⟩ = some (.bool (M.W j)) ∧ (w3.setCell ⟨w.heap.size, 0, none⟩ v3).cell? ⟨wr.heap.size, 3, none⟩ = some (.bool (M.X j)) ∧ (w3.setCell ⟨w.heap.size, 0, none⟩ v3).cell? ⟨wr.heap.size, 4, none⟩ = some (.slice (some ⟨B j, 0, none⟩) (M.S j) (C j))) := Lib.hid (by have hkeep : ∀ i, (w3.setCell ⟨w.heap.size, 0, none⟩ v3).cell? ⟨wr.heap.size, i, none⟩ = w3.cell? ⟨wr.heap.size, i, none⟩ := fun i => World.cell?_setCell_other _ _ _ _ (fun e => by injection e with e; have := HNE.out; omega); simp only [hkeep]; exact HL4.out)
          obtain ⟨a3, cp3, rfl, _⟩ := own_form ho3
          have HB5 : Hid (Below w.heap.size w (w3.setCell ⟨w.heap.size, 0, none⟩ (.slice a3 (j + 1) cp3))) := Lib.hid ((((HB2.out.trans (HBx.out.mono HB2.out.size)).alloc (by have := HB2.out.size; have := HBx.out.size; omega) (.cells #[.int .u64 (M.A j : Nat), .int .u64 (M.S j : Nat), .bool (M.W j), .bool (M.X j), .slice (some ⟨g, 0, none⟩) (M.S j) cp] 187)).grown hg3 (by have := HB2.out.size; have := HBx.out.size; simp; omega) (fun q hq => by have := HT.out.ars.lt q hq; omega)).setCell (Nat.le_refl _) _)
          clear hrow3 hnews ho3 hg3 hl3
          refine step_append_run rfl _ _ _ rfl _ _ _ _ rfl (by rfl) hr ?_
          refine hK.out _ _ HL4.out (fun hHeld => ?_)
          clear hK K
          try simp only [Act.put, List.setIfInBounds_toArray, List.set_cons_zero, List.set_cons_succ]
          refine wpAnyH_take (i := 13) (oi := { dst := some 30, op := Go.Op.nilCheck (Go.Operand.tmp 17), type := 0, pos := "mem.go:158", after := #[{ on := 0, ground := Go.Ground.data }, { on := 0, ground := Go.Ground.phase }, { on := 1, ground := Go.Ground.phase }, { on := 2, ground := Go.Ground.phase }, { on := 3, ground := Go.Ground.phase }, { on := 4, ground := Go.Ground.phase }, { on := 5, ground := Go.Ground.phase }, { on := 6, ground := Go.Ground.phase }, { on := 7, ground := Go.Ground.phase }, { on := 8, ground := Go.Ground.phase }, { on := 9, ground := Go.Ground.phase }, { on := 10, ground := Go.Ground.phase }, { on := 11, ground := Go.Ground.phase }, { on := 12, ground := Go.Ground.phase }], guard := none }) (v := ?_) rfl (by kernel_rfl) (by kernel_rfl) (by kernel_rfl) (fun _ _ _ h => h) (Or.inl ⟨by rfl, ?_⟩) (by assumption) ?_
          rotate_left
          · (intro w0 hSw; (try dsimp only at hSw); go_split_ands; go_simp; with_reducible rfl)
          try simp only [Act.put, List.setIfInBounds_toArray, List.set_cons_zero, List.set_cons_succ]
          refine wpAnyH_take (i := 14) (oi := { dst := some 31, op := Go.Op.fieldAddr 184 (Go.Operand.tmp 30) 0, type := 0, pos := "mem.go:158", after := #[{ on := 13, ground := Go.Ground.data }, { on := 0, ground := Go.Ground.phase }, { on := 1, ground := Go.Ground.phase }, { on := 2, ground := Go.Ground.phase }, { on := 3, ground := Go.Ground.phase }, { on := 4, ground := Go.Ground.phase }, { on := 5, ground := Go.Ground.phase }, { on := 6, ground := Go.Ground.phase }, { on := 7, ground := Go.Ground.phase }, { on := 8, ground := Go.Ground.phase }, { on := 9, ground := Go.Ground.phase }, { on := 10, ground := Go.Ground.phase }, { on := 11, ground := Go.Ground.phase }, { on := 12, ground := Go.Ground.phase }], guard := none }) (v := ?_) rfl (by kernel_rfl) (by kernel_rfl) (by kernel_rfl) (fun _ _ _ h => h) (Or.inl ⟨by rfl, ?_⟩) (by assumption) ?_
          rotate_left
          · (intro w0 hSw; (try dsimp only at hSw); go_split_ands; go_simp; with_reducible rfl)
          try simp only [Act.put, List.setIfInBounds_toArray, List.set_cons_zero, List.set_cons_succ]
          refine wpAnyH_ready (rs := [15]) (by kernel_rfl) (by simp) ?_
          refine AllReadyH.cons (o := { dst := none, op := Go.Op.store 182 (Go.Operand.tmp 31) (Go.Operand.tmp 29), type := 0, pos := "mem.go:158", after := #[{ on := 14, ground := Go.Ground.data }, { on := 12, ground := Go.Ground.data }, { on := 12, ground := Go.Ground.chain }, { on := 0, ground := Go.Ground.phase }, { on := 1, ground := Go.Ground.phase }, { on := 2, ground := Go.Ground.phase }, { on := 3, ground := Go.Ground.phase }, { on := 4, ground := Go.Ground.phase }, { on := 5, ground := Go.Ground.phase }, { on := 6, ground := Go.Ground.phase }, { on := 7, ground := Go.Ground.phase }, { on := 8, ground := Go.Ground.phase }, { on := 9, ground := Go.Ground.phase }, { on := 10, ground := Go.Ground.phase }, { on := 11, ground := Go.Ground.phase }, { on := 12, ground := Go.Ground.phase }], guard := none }) rfl (fun K hK => ?_) AllReadyH.nil
          go_simp
          refine hK.out _ _ HL5.out (fun hHeld => ?_)
          clear hK K
          try simp only [Act.put, List.setIfInBounds_toArray, List.set_cons_zero, List.set_cons_succ]
          refine wpAnyH_done (by kernel_rfl) ?_ _
          clear hHeld
          go_wp2
          exact ⟨⟨j + 1, _, _, _, by omega, by go_num, HST, HB5⟩, by simp [intOf]; omega⟩
    · obtain rfl : j = M.n := by omega
      go_wp2
      go_ret
      exact ⟨⟨_, _, _, rfl, HT0.out.done hOk.out⟩, HB.out⟩
end
end Go.Proofs.Ytnbpgoacooddjaa.Mm
