import Derived.Test.YtnbpgoacooddjaaLf
namespace Go.Proofs.Ytnbpgoacooddjaa.Lab
open Go.ChangeShapes Go.WideShapes Go.ChangeAt Go.RowKit Go.Maps
open Go.Proofs.Ytnbpgoacooddjaa.En
set_option linter.unusedVariables false
attribute [local go_sem] rowAt_drew rowAt_drewN
set_option maxRecDepth 100000 in
theorem look_y {w : World} {mb cnt : Nat} {D : DataW Unit} (h : w.ownsMap Try.prog 9 (plainElem (H := Unit) Try.prog 3) mb cnt D) {s : ByteArray} (hs : s.size ≤ maxLen) {t : Int} (hh : Maps.has D (ky s) = true) (ha : D.atKey (ky s) (.lit (.int .i64 0)) = .lit (.int .i64 t)) :
    (Instr.lookup 146 (.map (some mb)) (.string s) true).run Try.prog w = .ok (.tuple #[.int .i64 t, .bool true]) w := by
  obtain ⟨v, ps, hrun, hv⟩ := h.look_ok law9 Try.underlying146 (zero3 w) (plainElem_int (H := Unit) Try.underlying3 (by decide)) (ky_of hs)
  obtain ⟨c, rfl, hc, _⟩ := plainElem_int_inv Try.underlying3 hv
  have hc1 := congrArg Prod.fst hc
  rw [ha] at hc1
  injection hc1 with hc1
  injection hc1 with _ hc1
  rw [hrun, hh, hc1]
set_option maxRecDepth 100000 in
theorem look_n {w : World} {mb cnt : Nat} {D : DataW Unit} (h : w.ownsMap Try.prog 9 (plainElem (H := Unit) Try.prog 3) mb cnt D) {s : ByteArray} (hs : s.size ≤ maxLen) {t : Int} (hh : Maps.has D (ky s) = false) (ha : D.atKey (ky s) (.lit (.int .i64 0)) = .lit (.int .i64 t)) :
    (Instr.lookup 146 (.map (some mb)) (.string s) true).run Try.prog w = .ok (.tuple #[.int .i64 t, .bool false]) w := by
  obtain ⟨v, ps, hrun, hv⟩ := h.look_ok law9 Try.underlying146 (zero3 w) (plainElem_int (H := Unit) Try.underlying3 (by decide)) (ky_of hs)
  obtain ⟨c, rfl, hc, _⟩ := plainElem_int_inv Try.underlying3 hv
  have hc1 := congrArg Prod.fst hc
  rw [ha] at hc1
  injection hc1 with hc1
  injection hc1 with _ hc1
  rw [hrun, hh, hc1]
set_option maxRecDepth 100000 in
set_option maxHeartbeats 8000000 in
/-- A jump lands. -/
theorem land_y (w : World) (bx bY bz p mb cnt g n cap a : Nat) (t : Int) (s : ByteArray) (D : DataW Unit) (cX : w.drew.cell? ⟨bx, 0, none⟩ = some (.pointer (some ⟨p, 0, none⟩))) (c2 : w.drew.cell? ⟨p, 2, none⟩ = some (.map (some mb))) (cY : w.drew.cell? ⟨bY, 0, none⟩ = some (.string s)) (cZ : w.drew.cell? ⟨bz, 0, none⟩ = some (.int .i64 (a : Int)))
    (hm : w.drew.ownsMap Try.prog 9 (plainElem (H := Unit) Try.prog 3) mb cnt D) (hs : s.size ≤ maxLen) (hh : Maps.has D (ky s) = true) (ha : D.atKey (ky s) (.lit (.int .i64 0)) = .lit (.int .i64 t)) (ht : 0 ≤ t ∧ t ≤ 1000000) (han : a < n) (hn : n ≤ 1000000)
    (cg : (w.drew.cell? ⟨g, a * 7 + 6, none⟩).isSome = true) (fg : w.drew.frozen? ⟨g, a * 7 + 6, none⟩ = false) :
    Calls Try.prog 107 #[.slice (some ⟨g, 0, none⟩) n cap, .pointer (some ⟨bx, 0, none⟩), .pointer (some ⟨bY, 0, none⟩), .pointer (some ⟨bz, 0, none⟩)] w fun e w' => e = .returned (.int .i64 0) ∧ w' = w.drew.setCell ⟨g, a * 7 + 6, none⟩ (.int .i64 (4 * (t - a))) := by
  obtain ⟨cg0, hcg⟩ := Option.isSome_iff_exists.1 cg
  clear cg
  go_enter Try.func107, Try.ntmps107
  go_upto_region 1 with (fail)
  refine wp_region_held_drew (S := fun w' => w'.cell? ⟨bx, 0, none⟩ = some (.pointer (some ⟨p, 0, none⟩)) ∧ w'.cell? ⟨p, 2, none⟩ = some (.map (some mb)) ∧ w'.cell? ⟨bY, 0, none⟩ = some (.string s) ∧ w'.ownsMap Try.prog 9 (plainElem (H := Unit) Try.prog 3) mb cnt D) (by kernel_rfl) ⟨cX, c2, cY, hm⟩ (fun hHeld => ?_)
  refine wpAnyH_take (i := 0) (oi := { dst := some 9, op := Go.Op.load 43 (Go.Operand.tmp 1), type := 43, pos := "lab.go:67", after := #[], guard := none }) (v := ?_) rfl (by kernel_rfl) (by kernel_rfl) (by kernel_rfl) (fun _ _ _ h => h) (Or.inl ⟨by rfl, ?_⟩) (by assumption) ?_
  rotate_left
  · (intro w0 hSw; (try dsimp only at hSw); go_split_ands; go_simp; with_reducible rfl)
  try simp only [Act.put, List.setIfInBounds_toArray, List.set_cons_zero, List.set_cons_succ]
  refine wpAnyH_take (i := 1) (oi := { dst := some 10, op := Go.Op.nilCheck (Go.Operand.tmp 9), type := 0, pos := "lab.go:67", after := #[{ on := 0, ground := Go.Ground.data }], guard := none }) (v := ?_) rfl (by kernel_rfl) (by kernel_rfl) (by kernel_rfl) (fun _ _ _ h => h) (Or.inl ⟨by rfl, ?_⟩) (by assumption) ?_
  rotate_left
  · (intro w0 hSw; (try dsimp only at hSw); go_split_ands; go_simp; with_reducible rfl)
  try simp only [Act.put, List.setIfInBounds_toArray, List.set_cons_zero, List.set_cons_succ]
  refine wpAnyH_take (i := 2) (oi := { dst := some 11, op := Go.Op.fieldAddr 149 (Go.Operand.tmp 10) 2, type := 0, pos := "lab.go:67", after := #[{ on := 1, ground := Go.Ground.data }], guard := none }) (v := ?_) rfl (by kernel_rfl) (by kernel_rfl) (by kernel_rfl) (fun _ _ _ h => h) (Or.inl ⟨by rfl, ?_⟩) (by assumption) ?_
  rotate_left
  · (intro w0 hSw; (try dsimp only at hSw); go_split_ands; go_simp; with_reducible rfl)
  try simp only [Act.put, List.setIfInBounds_toArray, List.set_cons_zero, List.set_cons_succ]
  refine wpAnyH_take (i := 3) (oi := { dst := some 12, op := Go.Op.load 146 (Go.Operand.tmp 11), type := 146, pos := "lab.go:67", after := #[{ on := 2, ground := Go.Ground.data }], guard := none }) (v := ?_) rfl (by kernel_rfl) (by kernel_rfl) (by kernel_rfl) (fun _ _ _ h => h) (Or.inl ⟨by rfl, ?_⟩) (by assumption) ?_
  rotate_left
  · (intro w0 hSw; (try dsimp only at hSw); go_split_ands; go_simp; with_reducible rfl)
  try simp only [Act.put, List.setIfInBounds_toArray, List.set_cons_zero, List.set_cons_succ]
  refine wpAnyH_take (i := 4) (oi := { dst := some 13, op := Go.Op.load 9 (Go.Operand.tmp 2), type := 9, pos := "lab.go:67", after := #[], guard := none }) (v := ?_) rfl (by kernel_rfl) (by kernel_rfl) (by kernel_rfl) (fun _ _ _ h => h) (Or.inl ⟨by rfl, ?_⟩) (by assumption) ?_
  rotate_left
  · (intro w0 hSw; (try dsimp only at hSw); go_split_ands; go_simp; with_reducible rfl)
  try simp only [Act.put, List.setIfInBounds_toArray, List.set_cons_zero, List.set_cons_succ]
  refine wpAnyH_take (i := 5) (oi := { dst := some 14, op := Go.Op.lookup 146 (Go.Operand.tmp 12) (Go.Operand.tmp 13) true, type := 38, pos := "lab.go:67", after := #[{ on := 3, ground := Go.Ground.data }, { on := 4, ground := Go.Ground.data }], guard := none }) (v := ?_) rfl (by kernel_rfl) (by kernel_rfl) (by kernel_rfl) (fun _ _ _ h => h) (Or.inl ⟨by rfl, ?_⟩) (by assumption) ?_
  rotate_left
  · (intro w0 hSw; have hrun := look_y hSw.2.2.2 hs hh ha; go_simp; with_reducible rfl)
  try simp only [Act.put, List.setIfInBounds_toArray, List.set_cons_zero, List.set_cons_succ]
  refine wpAnyH_take (i := 6) (oi := { dst := some 8, op := Go.Op.move (Go.Operand.tmp 14), type := 38, pos := "lab.go:67", after := #[{ on := 5, ground := Go.Ground.data }], guard := none }) (v := ?_) rfl (by kernel_rfl) (by kernel_rfl) (by kernel_rfl) (fun _ _ _ h => h) (Or.inl ⟨by rfl, ?_⟩) (by assumption) ?_
  rotate_left
  · (intro w0 hSw; (try dsimp only at hSw); go_split_ands; go_simp; with_reducible rfl)
  try simp only [Act.put, List.setIfInBounds_toArray, List.set_cons_zero, List.set_cons_succ]
  refine wpAnyH_take (i := 7) (oi := { dst := some 15, op := Go.Op.extract (Go.Operand.tmp 8) 0, type := 3, pos := "lab.go:67", after := #[{ on := 6, ground := Go.Ground.data }], guard := none }) (v := ?_) rfl (by kernel_rfl) (by kernel_rfl) (by kernel_rfl) (fun _ _ _ h => h) (Or.inl ⟨by rfl, ?_⟩) (by assumption) ?_
  rotate_left
  · (intro w0 hSw; (try dsimp only at hSw); go_split_ands; go_simp; with_reducible rfl)
  try simp only [Act.put, List.setIfInBounds_toArray, List.set_cons_zero, List.set_cons_succ]
  refine wpAnyH_take (i := 8) (oi := { dst := some 16, op := Go.Op.extract (Go.Operand.tmp 8) 1, type := 4, pos := "lab.go:67", after := #[{ on := 6, ground := Go.Ground.data }, { on := 9, ground := Go.Ground.gcOnly Go.Departure.lateStores }], guard := none }) (v := ?_) rfl (by kernel_rfl) (by kernel_rfl) (by kernel_rfl) (fun _ _ _ h => h) (Or.inl ⟨by rfl, ?_⟩) (by assumption) ?_
  rotate_left
  · (intro w0 hSw; (try dsimp only at hSw); go_split_ands; go_simp; with_reducible rfl)
  try simp only [Act.put, List.setIfInBounds_toArray, List.set_cons_zero, List.set_cons_succ]
  refine wpAnyH_take (i := 9) (oi := { dst := some 6, op := Go.Op.assign (Go.Operand.tmp 15), type := 3, pos := "lab.go:67", after := #[{ on := 7, ground := Go.Ground.data }, { on := 0, ground := Go.Ground.phase }, { on := 1, ground := Go.Ground.phase }, { on := 2, ground := Go.Ground.phase }, { on := 3, ground := Go.Ground.phase }, { on := 4, ground := Go.Ground.phase }, { on := 5, ground := Go.Ground.phase }, { on := 6, ground := Go.Ground.phase }, { on := 7, ground := Go.Ground.phase }, { on := 8, ground := Go.Ground.textOnly Go.Departure.lateStores }], guard := none }) (v := ?_) rfl (by kernel_rfl) (by kernel_rfl) (by kernel_rfl) (fun _ _ _ h => h) (Or.inl ⟨by rfl, ?_⟩) (by assumption) ?_
  rotate_left
  · (intro w0 hSw; (try dsimp only at hSw); go_split_ands; go_simp; with_reducible rfl)
  try simp only [Act.put, List.setIfInBounds_toArray, List.set_cons_zero, List.set_cons_succ]
  refine wpAnyH_take (i := 10) (oi := { dst := some 7, op := Go.Op.assign (Go.Operand.tmp 16), type := 4, pos := "lab.go:67", after := #[{ on := 8, ground := Go.Ground.data }, { on := 9, ground := Go.Ground.chain }, { on := 0, ground := Go.Ground.phase }, { on := 1, ground := Go.Ground.phase }, { on := 2, ground := Go.Ground.phase }, { on := 3, ground := Go.Ground.phase }, { on := 4, ground := Go.Ground.phase }, { on := 5, ground := Go.Ground.phase }, { on := 6, ground := Go.Ground.phase }, { on := 7, ground := Go.Ground.phase }, { on := 8, ground := Go.Ground.phase }, { on := 9, ground := Go.Ground.phase }], guard := none }) (v := ?_) rfl (by kernel_rfl) (by kernel_rfl) (by kernel_rfl) (fun _ _ _ h => h) (Or.inl ⟨by rfl, ?_⟩) (by assumption) ?_
  rotate_left
  · (intro w0 hSw; (try dsimp only at hSw); go_split_ands; go_simp; with_reducible rfl)
  try simp only [Act.put, List.setIfInBounds_toArray, List.set_cons_zero, List.set_cons_succ]
  refine wpAnyH_done (by kernel_rfl) ?_ _
  clear hHeld
  go_wp2
  go_ret
  exact ⟨rfl, rfl⟩
set_option maxRecDepth 100000 in
set_option maxHeartbeats 8000000 in
/-- A jump to nowhere. -/
theorem land_n (w : World) (bx bY bz p mb cnt : Nat) (l : Value) (t : Int) (s : ByteArray) (D : DataW Unit) (cX : w.drew.cell? ⟨bx, 0, none⟩ = some (.pointer (some ⟨p, 0, none⟩))) (c2 : w.drew.cell? ⟨p, 2, none⟩ = some (.map (some mb))) (cY : w.drew.cell? ⟨bY, 0, none⟩ = some (.string s))
    (hm : w.drew.ownsMap Try.prog 9 (plainElem (H := Unit) Try.prog 3) mb cnt D) (hs : s.size ≤ maxLen) (hh : Maps.has D (ky s) = false) (ha : D.atKey (ky s) (.lit (.int .i64 0)) = .lit (.int .i64 t)) :
    Calls Try.prog 107 #[l, .pointer (some ⟨bx, 0, none⟩), .pointer (some ⟨bY, 0, none⟩), .pointer (some ⟨bz, 0, none⟩)] w fun e w' => e = .returned (.int .i64 24) ∧ w' = w.drew := by
  go_enter Try.func107, Try.ntmps107
  go_upto_region 1 with (fail)
  refine wp_region_held_drew (S := fun w' => w'.cell? ⟨bx, 0, none⟩ = some (.pointer (some ⟨p, 0, none⟩)) ∧ w'.cell? ⟨p, 2, none⟩ = some (.map (some mb)) ∧ w'.cell? ⟨bY, 0, none⟩ = some (.string s) ∧ w'.ownsMap Try.prog 9 (plainElem (H := Unit) Try.prog 3) mb cnt D) (by kernel_rfl) ⟨cX, c2, cY, hm⟩ (fun hHeld => ?_)
  refine wpAnyH_take (i := 0) (oi := { dst := some 9, op := Go.Op.load 43 (Go.Operand.tmp 1), type := 43, pos := "lab.go:67", after := #[], guard := none }) (v := ?_) rfl (by kernel_rfl) (by kernel_rfl) (by kernel_rfl) (fun _ _ _ h => h) (Or.inl ⟨by rfl, ?_⟩) (by assumption) ?_
  rotate_left
  · (intro w0 hSw; (try dsimp only at hSw); go_split_ands; go_simp; with_reducible rfl)
  try simp only [Act.put, List.setIfInBounds_toArray, List.set_cons_zero, List.set_cons_succ]
  refine wpAnyH_take (i := 1) (oi := { dst := some 10, op := Go.Op.nilCheck (Go.Operand.tmp 9), type := 0, pos := "lab.go:67", after := #[{ on := 0, ground := Go.Ground.data }], guard := none }) (v := ?_) rfl (by kernel_rfl) (by kernel_rfl) (by kernel_rfl) (fun _ _ _ h => h) (Or.inl ⟨by rfl, ?_⟩) (by assumption) ?_
  rotate_left
  · (intro w0 hSw; (try dsimp only at hSw); go_split_ands; go_simp; with_reducible rfl)
  try simp only [Act.put, List.setIfInBounds_toArray, List.set_cons_zero, List.set_cons_succ]
  refine wpAnyH_take (i := 2) (oi := { dst := some 11, op := Go.Op.fieldAddr 149 (Go.Operand.tmp 10) 2, type := 0, pos := "lab.go:67", after := #[{ on := 1, ground := Go.Ground.data }], guard := none }) (v := ?_) rfl (by kernel_rfl) (by kernel_rfl) (by kernel_rfl) (fun _ _ _ h => h) (Or.inl ⟨by rfl, ?_⟩) (by assumption) ?_
  rotate_left
  · (intro w0 hSw; (try dsimp only at hSw); go_split_ands; go_simp; with_reducible rfl)
  try simp only [Act.put, List.setIfInBounds_toArray, List.set_cons_zero, List.set_cons_succ]
  refine wpAnyH_take (i := 3) (oi := { dst := some 12, op := Go.Op.load 146 (Go.Operand.tmp 11), type := 146, pos := "lab.go:67", after := #[{ on := 2, ground := Go.Ground.data }], guard := none }) (v := ?_) rfl (by kernel_rfl) (by kernel_rfl) (by kernel_rfl) (fun _ _ _ h => h) (Or.inl ⟨by rfl, ?_⟩) (by assumption) ?_
  rotate_left
  · (intro w0 hSw; (try dsimp only at hSw); go_split_ands; go_simp; with_reducible rfl)
  try simp only [Act.put, List.setIfInBounds_toArray, List.set_cons_zero, List.set_cons_succ]
  refine wpAnyH_take (i := 4) (oi := { dst := some 13, op := Go.Op.load 9 (Go.Operand.tmp 2), type := 9, pos := "lab.go:67", after := #[], guard := none }) (v := ?_) rfl (by kernel_rfl) (by kernel_rfl) (by kernel_rfl) (fun _ _ _ h => h) (Or.inl ⟨by rfl, ?_⟩) (by assumption) ?_
  rotate_left
  · (intro w0 hSw; (try dsimp only at hSw); go_split_ands; go_simp; with_reducible rfl)
  try simp only [Act.put, List.setIfInBounds_toArray, List.set_cons_zero, List.set_cons_succ]
  refine wpAnyH_take (i := 5) (oi := { dst := some 14, op := Go.Op.lookup 146 (Go.Operand.tmp 12) (Go.Operand.tmp 13) true, type := 38, pos := "lab.go:67", after := #[{ on := 3, ground := Go.Ground.data }, { on := 4, ground := Go.Ground.data }], guard := none }) (v := ?_) rfl (by kernel_rfl) (by kernel_rfl) (by kernel_rfl) (fun _ _ _ h => h) (Or.inl ⟨by rfl, ?_⟩) (by assumption) ?_
  rotate_left
  · (intro w0 hSw; have hrun := look_n hSw.2.2.2 hs hh ha; go_simp; with_reducible rfl)
  try simp only [Act.put, List.setIfInBounds_toArray, List.set_cons_zero, List.set_cons_succ]
  refine wpAnyH_take (i := 6) (oi := { dst := some 8, op := Go.Op.move (Go.Operand.tmp 14), type := 38, pos := "lab.go:67", after := #[{ on := 5, ground := Go.Ground.data }], guard := none }) (v := ?_) rfl (by kernel_rfl) (by kernel_rfl) (by kernel_rfl) (fun _ _ _ h => h) (Or.inl ⟨by rfl, ?_⟩) (by assumption) ?_
  rotate_left
  · (intro w0 hSw; (try dsimp only at hSw); go_split_ands; go_simp; with_reducible rfl)
  try simp only [Act.put, List.setIfInBounds_toArray, List.set_cons_zero, List.set_cons_succ]
  refine wpAnyH_take (i := 7) (oi := { dst := some 15, op := Go.Op.extract (Go.Operand.tmp 8) 0, type := 3, pos := "lab.go:67", after := #[{ on := 6, ground := Go.Ground.data }], guard := none }) (v := ?_) rfl (by kernel_rfl) (by kernel_rfl) (by kernel_rfl) (fun _ _ _ h => h) (Or.inl ⟨by rfl, ?_⟩) (by assumption) ?_
  rotate_left
  · (intro w0 hSw; (try dsimp only at hSw); go_split_ands; go_simp; with_reducible rfl)
  try simp only [Act.put, List.setIfInBounds_toArray, List.set_cons_zero, List.set_cons_succ]
  refine wpAnyH_take (i := 8) (oi := { dst := some 16, op := Go.Op.extract (Go.Operand.tmp 8) 1, type := 4, pos := "lab.go:67", after := #[{ on := 6, ground := Go.Ground.data }, { on := 9, ground := Go.Ground.gcOnly Go.Departure.lateStores }], guard := none }) (v := ?_) rfl (by kernel_rfl) (by kernel_rfl) (by kernel_rfl) (fun _ _ _ h => h) (Or.inl ⟨by rfl, ?_⟩) (by assumption) ?_
  rotate_left
  · (intro w0 hSw; (try dsimp only at hSw); go_split_ands; go_simp; with_reducible rfl)
  try simp only [Act.put, List.setIfInBounds_toArray, List.set_cons_zero, List.set_cons_succ]
  refine wpAnyH_take (i := 9) (oi := { dst := some 6, op := Go.Op.assign (Go.Operand.tmp 15), type := 3, pos := "lab.go:67", after := #[{ on := 7, ground := Go.Ground.data }, { on := 0, ground := Go.Ground.phase }, { on := 1, ground := Go.Ground.phase }, { on := 2, ground := Go.Ground.phase }, { on := 3, ground := Go.Ground.phase }, { on := 4, ground := Go.Ground.phase }, { on := 5, ground := Go.Ground.phase }, { on := 6, ground := Go.Ground.phase }, { on := 7, ground := Go.Ground.phase }, { on := 8, ground := Go.Ground.textOnly Go.Departure.lateStores }], guard := none }) (v := ?_) rfl (by kernel_rfl) (by kernel_rfl) (by kernel_rfl) (fun _ _ _ h => h) (Or.inl ⟨by rfl, ?_⟩) (by assumption) ?_
  rotate_left
  · (intro w0 hSw; (try dsimp only at hSw); go_split_ands; go_simp; with_reducible rfl)
  try simp only [Act.put, List.setIfInBounds_toArray, List.set_cons_zero, List.set_cons_succ]
  refine wpAnyH_take (i := 10) (oi := { dst := some 7, op := Go.Op.assign (Go.Operand.tmp 16), type := 4, pos := "lab.go:67", after := #[{ on := 8, ground := Go.Ground.data }, { on := 9, ground := Go.Ground.chain }, { on := 0, ground := Go.Ground.phase }, { on := 1, ground := Go.Ground.phase }, { on := 2, ground := Go.Ground.phase }, { on := 3, ground := Go.Ground.phase }, { on := 4, ground := Go.Ground.phase }, { on := 5, ground := Go.Ground.phase }, { on := 6, ground := Go.Ground.phase }, { on := 7, ground := Go.Ground.phase }, { on := 8, ground := Go.Ground.phase }, { on := 9, ground := Go.Ground.phase }], guard := none }) (v := ?_) rfl (by kernel_rfl) (by kernel_rfl) (by kernel_rfl) (fun _ _ _ h => h) (Or.inl ⟨by rfl, ?_⟩) (by assumption) ?_
  rotate_left
  · (intro w0 hSw; (try dsimp only at hSw); go_split_ands; go_simp; with_reducible rfl)
  try simp only [Act.put, List.setIfInBounds_toArray, List.set_cons_zero, List.set_cons_succ]
  refine wpAnyH_done (by kernel_rfl) ?_ _
  clear hHeld
  go_wp2
  go_ret
  exact ⟨rfl, rfl⟩
def setI (F : Nat → In) (a : Nat) (v : Int) : Nat → In := fun k => if k = a then { F k with i := v } else F k
theorem insL_get (F : Nat → In) (n q : Nat) (h : q < n * 7) : (insL F n)[q]? = (cl (F (q / 7)))[q % 7]? := by
  have he : q = q / 7 * 7 + q % 7 := by omega
  conv => lhs; rw [he]
  exact insL_at F _ _ (Nat.mod_lt _ (by decide)) n (by omega)
theorem own_setI {w : World} {B g n cap : Nat} {F : Nat → In} (h : w.ownsRow B 29 7 (.slice (some ⟨g, 0, none⟩) n cap) n (insL F n)) (a : Nat) (ha : a < n) (v : Int) :
    (w.setCell ⟨g, a * 7 + 6, none⟩ (.int .i64 v)).ownsRow B 29 7 (.slice (some ⟨g, 0, none⟩) n cap) n (insL (setI F a v) n) := by
  refine ⟨insL_len _ _, ?_⟩
  rcases h.2 with ⟨h1, _⟩ | ⟨g', cap', cur, hv, hb, hg, hc, hm, hs, ht⟩
  · cases h1
  · injection hv with e1 e2 e3
    injection e1 with e1
    injection e1 with e1
    subst e1 e3
    refine .inr ⟨g, cap, cur.setIfInBounds (a * 7 + 6) (.int .i64 v), rfl, hb, ?_, hc, hm, by simpa using hs, ?_⟩
    · rw [setCell_eq_setRow w g (a * 7 + 6) cur 29 (0, 0) _ hg]
      exact setRow_heap _ _ _ _ _ _ hg
    · apply List.ext_getElem?
      intro q
      by_cases hq : q < n * 7
      · have hF : (insL F n)[q]? = cur[q]? := by
          rw [← ht, List.getElem?_take, if_pos hq, Array.getElem?_toList]
        rw [List.getElem?_take, if_pos hq, Array.getElem?_toList, Array.getElem?_setIfInBounds, insL_get _ _ _ hq]
        by_cases e : a * 7 + 6 = q
        · subst e
          rw [if_pos rfl, if_pos (by rw [hs]; have := Nat.mul_le_mul_right 7 hc; omega), show (a * 7 + 6) / 7 = a by omega, show (a * 7 + 6) % 7 = 6 by omega]
          simp [setI, cl]
        · rw [if_neg e, ← hF, insL_get _ _ _ hq]
          unfold setI
          by_cases e2 : q / 7 = a
          · rw [if_pos e2]
            have : q % 7 = 0 ∨ q % 7 = 1 ∨ q % 7 = 2 ∨ q % 7 = 3 ∨ q % 7 = 4 ∨ q % 7 = 5 := by omega
            rcases this with h | h | h | h | h | h <;> rw [h] <;> rfl
          · rw [if_neg e2]
      · rw [List.getElem?_eq_none (by rw [List.length_take]; omega), List.getElem?_eq_none (by rw [insL_len]; omega)]
theorem src_of_own {w : World} {B n cap : Nat} {a : Option Addr} {F : Nat → In} (h : w.ownsRow B 29 7 (.slice a n cap) n (insL F n)) : SrcI w a n F := by
  rcases h.2 with ⟨_, h0⟩ | ⟨g, cap', cur, hv, hb, hg, hc, hm, hs, ht⟩
  · exact .inl h0
  · injection hv with e1 e2 e3
    subst e1
    refine .inr ⟨g, 0, rfl, (Array.getElem?_eq_some_iff.1 hg).1, fun k hk => ?_⟩
    have hr : rowAt w g = some cur := rowAt_of hg
    have key : ∀ q v, q < 7 → (cl (F k))[q]? = some v → w.cell? ⟨g, k * 7 + q, none⟩ = some v := fun q v hq hv => by
      rw [rowAt_cell hr, ← Array.getElem?_toList]
      have := insL_at F k q hq n hk
      rw [← ht, List.getElem?_take, if_pos (by omega)] at this
      rw [this]; exact hv
    simp only [Nat.zero_add]
    exact ⟨key 0 _ (by decide) rfl, key 1 _ (by decide) rfl, key 2 _ (by decide) rfl, key 3 _ (by decide) rfl, key 4 _ (by decide) rfl, key 5 _ (by decide) rfl, key 6 _ (by decide) rfl⟩
set_option maxRecDepth 100000 in
set_option maxHeartbeats 4000000 in
theorem clone_c (w : World) (a : Option Addr) (n cap : Nat) (F : Nat → In) (h : w.ownsRow 0 29 7 (.slice a n cap) n (insL F n)) (hn : n ≤ 1000000) :
    Calls Try.prog 81 #[.slice a n cap] w fun e w' => (∃ v', e = .returned v' ∧ w'.ownsRow w.heap.size 29 7 v' n (insL F n)) ∧ Below w.heap.size w w' := by
  rcases h.2 with ⟨h1, h0⟩ | ⟨g, cap', cur, hv, hb, hg, hc, hm, hs, ht⟩
  · injection h1 with e1 e2 e3
    subst e1 e2 e3
    have hnil := fun W => Lib.run_eql_slice_nil (P := Try.prog) W 63 29 none 0 0 0 0 Try.underlying63
    go_enter Try.func81, Try.ntmps81
    go_wp2
    go_ret
    exact ⟨⟨_, rfl, ⟨rfl, .inl ⟨rfl, rfl⟩⟩⟩, Below.refl _ _⟩
  · injection hv with e1 e2 e3
    subst e1 e3
    have HS := Lib.hid (src_of_own h)
    have HO : Hid ((w.alloc (.cells #[] 29)).ownsRow w.heap.size 29 7 (.slice (some ⟨w.heap.size, 0, none⟩) 0 0) 0 []) := Lib.hid ⟨rfl, .inr ⟨w.heap.size, 0, #[], rfl, Nat.le_refl _, heap_alloc_new w _, Nat.le_refl _, by unfold maxLen; omega, rfl, rfl⟩⟩
    clear h hg hs ht hm hb
    have hnil := fun W => Lib.run_eql_slice_nil (P := Try.prog) W 63 29 (some ⟨g, 0, none⟩) n cap 0 0 Try.underlying63
    go_enter Try.func81, Try.ntmps81
    go_wp2_with (at_builtin; refine wpl_append7 rfl _ _ rfl w.heap.size _ 0 [] rfl HO.out (some ⟨g, 0, none⟩) n cap F rfl (HS.out.past ((Below.refl _ _).alloc (Nat.le_refl _) _)) (by omega) (by simp) ?_; intro v' w2 ho hg hl; rw [Nat.zero_add, List.nil_append] at ho; have HO2 := Lib.hid ho; have HG2 := Lib.hid hg; clear ho hg hl)
    go_ret
    refine ⟨⟨_, rfl, HO2.out⟩, ?_⟩
    exact ((Below.refl _ _).alloc (Nat.le_refl _) _).trans (below_grown HG2.out (Nat.le_refl _) (by simp))
end Go.Proofs.Ytnbpgoacooddjaa.Lab
