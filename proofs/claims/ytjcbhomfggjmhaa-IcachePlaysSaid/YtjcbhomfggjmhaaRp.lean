import Derived.Test.YtjcbhomfggjmhaaRo
import Derived.Test.YtjcbhomfggjmhaaNc
import Derived.Test.YtjcbhomfggjmhaaMj
namespace Go.Proofs.Ytjcbhomfggjmhaa.Mm
open Go.ChangeShapes Go.WideShapes Go.ChangeAt Go.RowKit Go.Maps
set_option linter.unusedVariables false
theorem el5 : El 22 5 1 := by
  obtain ⟨i, h1, h2, h3, h4⟩ := info_parts info5z
  exact ⟨i, _, _, Try.underlying22, h1, h2, h3, h4, rfl, by omega, by omega⟩
theorem el72 : El 68 72 5 := by
  obtain ⟨i, h1, h2, h3, h4⟩ := info_parts info215z
  exact ⟨i, _, _, Try.underlying68, h1, h2, h3, h4, rfl, by omega, by omega⟩
theorem app_d {lt e : TypeId} {size : Nat} (he : El lt e size) (W : World) (base n m : Nat) (v u : Value) (xs news : List Value) (ho : W.ownsRow base e size v n xs) (hs : Src W size u m news) (hm : n + m ≤ 20000000) (hb : base ≤ W.heap.size) :
    ∃ v' W', (Builtin.append_ #[lt, lt] lt #[v, u]).run Try.prog W = .ok v' W' ∧ W'.ownsRow base e size v' (n + m) (xs ++ news) ∧ W.grownBy W' v.ownBlock := by
  obtain ⟨i0, z, bytes, h1, hi, hz0, hz1, hz2, hzs, hp, hby⟩ := he.ex
  obtain ⟨a, c, rfl, hl, hc, h1'⟩ := hs
  obtain ⟨v', W', h2, h3, h4, _, h5⟩ := run_append_own_at (P := Try.prog) W base lt lt e i0 z size bytes h1 hi hz0 hz1 hz2 hzs hp v n xs ho a m c news hl hc h1' (by unfold maxLen; omega) (Nat.le_trans (Nat.mul_le_mul hm hby) (by omega)) hb
  exact ⟨v', W', h2, h3, h4⟩
theorem byL_one (y : Nat → Nat) (s : Nat) : ∀ u ∈ byL y s, u.oneCell' = true := by
  intro u hu
  unfold byL at hu
  obtain ⟨o, _, rfl⟩ := List.mem_map.1 hu
  rfl
section
variable {w : World} {FP : Nat → Prop} {p : Nat} {M : Me} {v : Value} {B C : Nat → Nat}
set_option maxRecDepth 100000 in
set_option maxHeartbeats 8000000 in
theorem rtwin_c (h : MeC 70 72 w FP p M v B C) :
    Calls Try.prog 28 #[.pointer (some ⟨p, 0, none⟩)] w fun e w' => (∃ v' B' C', e = .returned (.pointer (some ⟨w.heap.size, 0, none⟩)) ∧ MeC 70 72 w' (fun k => w.heap.size ≤ k ∧ k < w'.heap.size) w.heap.size M v' B' C') ∧ Below w.heap.size w w' := by
  have hn16 := h.ok.n16
  have hOk := Lib.hid h.ok
  have HB1 : Hid (Below w.heap.size w (w.alloc (.cells #[.slice none 0 0] 70))) := Lib.hid ((Below.refl _ _).alloc (Nat.le_refl _) _)
  have HT1 : Hid (TwAt 70 72 (w.alloc (.cells #[.slice none 0 0] 70)) w.heap.size M 0 (.slice none 0 0) B C) := Lib.hid ⟨heap_alloc_new w _, ⟨rfl, .inl ⟨rfl, rfl⟩⟩, fun k hk => by omega, fun i k hi => by omega⟩
  have H0 := Lib.hid h
  obtain ⟨a, cap, rfl, ha⟩ := own_form h.ars
  clear h
  go_enter Try.func28, Try.ntmps28
  go_wp2
  go_loopw [4] (fun s4 wr => ∃ (j : Nat) (s3 : Value) (B' C' : Nat → Nat), j ≤ M.n ∧ s4 = .int .i64 j ∧ Hid (TwAt 70 72 wr w.heap.size M j s3 B' C') ∧ Hid (Below w.heap.size w wr)) (fun s4 _ => M.n - (intOf s4).toNat)
  case atStart => exact ⟨0, _, B, C, by omega, rfl, HT1, HB1⟩
  case round =>
    obtain ⟨j, s3, B', C', hj, rfl, HT0, HB⟩ := hrel
    have H := Lib.hid (H0.out.past HB.out)
    have cm := H.out.cv
    by_cases hlt : j < M.n
    · obtain ⟨ab, rfl⟩ : ∃ g, a = some ⟨g, 0, none⟩ := by
        rcases ha with ha | ha
        · omega
        · exact ha
      have gj : (j : Int) < M.n := by omega
      obtain ⟨f1, f2, f3, f4, f5⟩ := H.out.area rfl j hlt
      have hmb : w.heap.size < wr.heap.size := (Array.getElem?_eq_some_iff.1 HT0.out.row).1
      have HSZ : Hid (w.heap.size + 1 ≤ wr.heap.size) := Lib.hid hmb
      have c0 : wr.cell? ⟨w.heap.size, 0, none⟩ = some s3 := by rw [cell_of_row _ _ 0 #[s3] 70 _ HT0.out.row]; rfl
      have hpl : p < w.heap.size := H0.out.fl p H0.out.fp
      have hal : ab < w.heap.size := H0.out.fl ab (H0.out.fv ab rfl)
      have HKS : Hid (∀ W, Below (w.heap.size + 1) wr W → (W.cell? ⟨w.heap.size, 0, none⟩ = some s3 ∧ W.cell? ⟨p, 0, none⟩ = some (.slice (some ⟨ab, 0, none⟩) M.n cap) ∧ W.cell? ⟨ab, j * 5, none⟩ = some (.int .u64 (M.A j : Nat)) ∧ W.cell? ⟨ab, j * 5 + 1, none⟩ = some (.int .u64 (M.S j : Nat)) ∧ W.cell? ⟨ab, j * 5 + 2, none⟩ = some (.bool (M.W j)) ∧ W.cell? ⟨ab, j * 5 + 3, none⟩ = some (.bool (M.X j)) ∧ W.cell? ⟨ab, j * 5 + 4, none⟩ = some (.slice (some ⟨B j, 0, none⟩) (M.S j) (C j)))) := Lib.hid (fun W hb => ⟨(hb.cell (p := ⟨w.heap.size, 0, none⟩) (Nat.lt_succ_self _)).trans c0, (hb.cell (p := ⟨p, 0, none⟩) (show p < _ by omega)).trans cm, (hb.cell (p := ⟨ab, j * 5, none⟩) (show ab < _ by omega)).trans f1, (hb.cell (p := ⟨ab, j * 5 + 1, none⟩) (show ab < _ by omega)).trans f2, (hb.cell (p := ⟨ab, j * 5 + 2, none⟩) (show ab < _ by omega)).trans f3, (hb.cell (p := ⟨ab, j * 5 + 3, none⟩) (show ab < _ by omega)).trans f4, (hb.cell (p := ⟨ab, j * 5 + 4, none⟩) (show ab < _ by omega)).trans f5⟩)
      have HSB : Hid (∀ W, Below wr.heap.size wr W → Src W 1 (.slice (some ⟨B j, 0, none⟩) (M.S j) (C j)) (M.S j) (byL (M.y j) (M.S j))) := Lib.hid (fun W hb => ⟨_, _, rfl, by unfold byL; simp, fun q x hx => by
        rw [Go.WideShapes.add_plain, Nat.zero_add]
        exact (own_cells (own_past (H.out.byt j hlt) hb)).1 q x hx, byL_one _ _⟩)
      have HSJ : Hid (M.S j ≤ 16777216) := Lib.hid (hOk.out.sz j hlt).2.1
      have HPOS : Hid (0 < M.S j) := Lib.hid (hOk.out.sz j hlt).1
      have HB0 : Hid (Below (w.heap.size + 1) wr wr.drew) := Lib.hid (below_drewN (Below.refl _ _) 1)
      have HBw : Hid (Below wr.heap.size wr wr.drew) := Lib.hid (below_drewN (Below.refl _ _) 1)
      go_upto_region 5 with (fail)
      clear f1 f2 f3 f4 f5 c0 cm hmb hpl hal
      refine region_e 28 (fun w' => (w'.cell? ⟨w.heap.size, 0, none⟩ = some s3 ∧ w'.cell? ⟨p, 0, none⟩ = some (.slice (some ⟨ab, 0, none⟩) M.n cap) ∧ w'.cell? ⟨ab, j * 5, none⟩ = some (.int .u64 (M.A j : Nat)) ∧ w'.cell? ⟨ab, j * 5 + 1, none⟩ = some (.int .u64 (M.S j : Nat)) ∧ w'.cell? ⟨ab, j * 5 + 2, none⟩ = some (.bool (M.W j)) ∧ w'.cell? ⟨ab, j * 5 + 3, none⟩ = some (.bool (M.X j)) ∧ w'.cell? ⟨ab, j * 5 + 4, none⟩ = some (.slice (some ⟨B j, 0, none⟩) (M.S j) (C j)))) (by kernel_rfl) (HKS.out _ HB0.out) (fun hHeld => ?_)
      generalize wr.drew = V0 at HB0 HBw hHeld ⊢
      refine AnyE.take (i := 0) (oi := { dst := some 16, op := Go.Op.move (Go.Operand.tmp 3), type := 31, pos := "ref.go:148", after := #[], guard := none }) (v := ?_) rfl (by kernel_rfl) (by kernel_rfl) (by kernel_rfl) (by kernel_rfl) (fun _ _ _ h => h) (Or.inl ⟨by rfl, ?_⟩) (by assumption) ?_
      rotate_left
      · (intro w0 hSw; (try dsimp only at hSw); go_split_ands; go_simp; with_reducible rfl)
      try simp only [Act.put, List.setIfInBounds_toArray, List.set_cons_zero, List.set_cons_succ]
      refine AnyE.take (i := 1) (oi := { dst := some 17, op := Go.Op.move (Go.Operand.tmp 3), type := 31, pos := "ref.go:148", after := #[], guard := none }) (v := ?_) rfl (by kernel_rfl) (by kernel_rfl) (by kernel_rfl) (by kernel_rfl) (fun _ _ _ h => h) (Or.inl ⟨by rfl, ?_⟩) (by assumption) ?_
      rotate_left
      · (intro w0 hSw; (try dsimp only at hSw); go_split_ands; go_simp; with_reducible rfl)
      try simp only [Act.put, List.setIfInBounds_toArray, List.set_cons_zero, List.set_cons_succ]
      refine AnyE.take (i := 2) (oi := { dst := some 18, op := Go.Op.nilCheck (Go.Operand.tmp 17), type := 0, pos := "ref.go:148", after := #[{ on := 1, ground := Go.Ground.data }], guard := none }) (v := ?_) rfl (by kernel_rfl) (by kernel_rfl) (by kernel_rfl) (by kernel_rfl) (fun _ _ _ h => h) (Or.inl ⟨by rfl, ?_⟩) (by assumption) ?_
      rotate_left
      · (intro w0 hSw; (try dsimp only at hSw); go_split_ands; go_simp; with_reducible rfl)
      try simp only [Act.put, List.setIfInBounds_toArray, List.set_cons_zero, List.set_cons_succ]
      refine AnyE.take (i := 3) (oi := { dst := some 19, op := Go.Op.fieldAddr 70 (Go.Operand.tmp 18) 0, type := 0, pos := "ref.go:148", after := #[{ on := 2, ground := Go.Ground.data }], guard := none }) (v := ?_) rfl (by kernel_rfl) (by kernel_rfl) (by kernel_rfl) (by kernel_rfl) (fun _ _ _ h => h) (Or.inl ⟨by rfl, ?_⟩) (by assumption) ?_
      rotate_left
      · (intro w0 hSw; (try dsimp only at hSw); go_split_ands; go_simp; with_reducible rfl)
      try simp only [Act.put, List.setIfInBounds_toArray, List.set_cons_zero, List.set_cons_succ]
      refine AnyE.take (i := 4) (oi := { dst := some 20, op := Go.Op.load 68 (Go.Operand.tmp 19), type := 68, pos := "ref.go:148", after := #[{ on := 3, ground := Go.Ground.data }], guard := none }) (v := ?_) rfl (by kernel_rfl) (by kernel_rfl) (by kernel_rfl) (by kernel_rfl) (fun _ _ _ h => h) (Or.inl ⟨by rfl, ?_⟩) (by assumption) ?_
      rotate_left
      · (intro w0 hSw; (try dsimp only at hSw); go_split_ands; go_simp; with_reducible rfl)
      try simp only [Act.put, List.setIfInBounds_toArray, List.set_cons_zero, List.set_cons_succ]
      refine AnyE.take (i := 5) (oi := { dst := some 21, op := Go.Op.move (Go.Operand.tmp 0), type := 31, pos := "ref.go:148", after := #[], guard := none }) (v := ?_) rfl (by kernel_rfl) (by kernel_rfl) (by kernel_rfl) (by kernel_rfl) (fun _ _ _ h => h) (Or.inl ⟨by rfl, ?_⟩) (by assumption) ?_
      rotate_left
      · (intro w0 hSw; (try dsimp only at hSw); go_split_ands; go_simp; with_reducible rfl)
      try simp only [Act.put, List.setIfInBounds_toArray, List.set_cons_zero, List.set_cons_succ]
      refine AnyE.take (i := 6) (oi := { dst := some 22, op := Go.Op.nilCheck (Go.Operand.tmp 21), type := 0, pos := "ref.go:148", after := #[{ on := 5, ground := Go.Ground.data }], guard := none }) (v := ?_) rfl (by kernel_rfl) (by kernel_rfl) (by kernel_rfl) (by kernel_rfl) (fun _ _ _ h => h) (Or.inl ⟨by rfl, ?_⟩) (by assumption) ?_
      rotate_left
      · (intro w0 hSw; (try dsimp only at hSw); go_split_ands; go_simp; with_reducible rfl)
      try simp only [Act.put, List.setIfInBounds_toArray, List.set_cons_zero, List.set_cons_succ]
      refine AnyE.take (i := 7) (oi := { dst := some 23, op := Go.Op.fieldAddr 70 (Go.Operand.tmp 22) 0, type := 0, pos := "ref.go:148", after := #[{ on := 6, ground := Go.Ground.data }], guard := none }) (v := ?_) rfl (by kernel_rfl) (by kernel_rfl) (by kernel_rfl) (by kernel_rfl) (fun _ _ _ h => h) (Or.inl ⟨by rfl, ?_⟩) (by assumption) ?_
      rotate_left
      · (intro w0 hSw; (try dsimp only at hSw); go_split_ands; go_simp; with_reducible rfl)
      try simp only [Act.put, List.setIfInBounds_toArray, List.set_cons_zero, List.set_cons_succ]
      refine AnyE.take (i := 8) (oi := { dst := some 24, op := Go.Op.load 68 (Go.Operand.tmp 23), type := 68, pos := "ref.go:148", after := #[{ on := 7, ground := Go.Ground.data }], guard := none }) (v := ?_) rfl (by kernel_rfl) (by kernel_rfl) (by kernel_rfl) (by kernel_rfl) (fun _ _ _ h => h) (Or.inl ⟨by rfl, ?_⟩) (by assumption) ?_
      rotate_left
      · (intro w0 hSw; (try dsimp only at hSw); go_split_ands; go_simp; with_reducible rfl)
      try simp only [Act.put, List.setIfInBounds_toArray, List.set_cons_zero, List.set_cons_succ]
      refine AnyE.take (i := 9) (oi := { dst := some 25, op := Go.Op.move (Go.Operand.tmp 4), type := 3, pos := "ref.go:148", after := #[], guard := none }) (v := ?_) rfl (by kernel_rfl) (by kernel_rfl) (by kernel_rfl) (by kernel_rfl) (fun _ _ _ h => h) (Or.inl ⟨by rfl, ?_⟩) (by assumption) ?_
      rotate_left
      · (intro w0 hSw; (try dsimp only at hSw); go_split_ands; go_simp; with_reducible rfl)
      try simp only [Act.put, List.setIfInBounds_toArray, List.set_cons_zero, List.set_cons_succ]
      refine AnyE.take (i := 10) (oi := { dst := some 26, op := Go.Op.indexAddr 68 (Go.Operand.tmp 24) (Go.Operand.tmp 25), type := 0, pos := "ref.go:148", after := #[{ on := 8, ground := Go.Ground.data }, { on := 9, ground := Go.Ground.data }], guard := none }) (v := ?_) rfl (by kernel_rfl) (by kernel_rfl) (by kernel_rfl) (by kernel_rfl) (fun _ _ _ h => h) (Or.inl ⟨by rfl, ?_⟩) (by assumption) ?_
      rotate_left
      · (intro w0 hSw; (try dsimp only at hSw); go_split_ands; go_simp; with_reducible rfl)
      try simp only [Act.put, List.setIfInBounds_toArray, List.set_cons_zero, List.set_cons_succ]
      refine AnyE.take (i := 11) (oi := { dst := some 27, op := Go.Op.fieldAddr 72 (Go.Operand.tmp 26) 0, type := 0, pos := "ref.go:148", after := #[{ on := 10, ground := Go.Ground.data }], guard := none }) (v := ?_) rfl (by kernel_rfl) (by kernel_rfl) (by kernel_rfl) (by kernel_rfl) (fun _ _ _ h => h) (Or.inl ⟨by rfl, ?_⟩) (by assumption) ?_
      rotate_left
      · (intro w0 hSw; (try dsimp only at hSw); go_split_ands; go_simp; with_reducible rfl)
      try simp only [Act.put, List.setIfInBounds_toArray, List.set_cons_zero, List.set_cons_succ]
      refine AnyE.take (i := 12) (oi := { dst := some 28, op := Go.Op.load 58 (Go.Operand.tmp 27), type := 58, pos := "ref.go:148", after := #[{ on := 11, ground := Go.Ground.data }], guard := none }) (v := ?_) rfl (by kernel_rfl) (by kernel_rfl) (by kernel_rfl) (by kernel_rfl) (fun _ _ _ h => h) (Or.inl ⟨by rfl, ?_⟩) (by assumption) ?_
      rotate_left
      · (intro w0 hSw; (try dsimp only at hSw); go_split_ands; go_simp; with_reducible rfl)
      try simp only [Act.put, List.setIfInBounds_toArray, List.set_cons_zero, List.set_cons_succ]
      refine AnyE.take (i := 14) (oi := { dst := some 30, op := Go.Op.move (Go.Operand.tmp 0), type := 31, pos := "ref.go:148", after := #[], guard := none }) (v := ?_) rfl (by kernel_rfl) (by kernel_rfl) (by kernel_rfl) (by kernel_rfl) (fun _ _ _ h => h) (Or.inl ⟨by rfl, ?_⟩) (by assumption) ?_
      rotate_left
      · (intro w0 hSw; (try dsimp only at hSw); go_split_ands; go_simp; with_reducible rfl)
      try simp only [Act.put, List.setIfInBounds_toArray, List.set_cons_zero, List.set_cons_succ]
      refine AnyE.take (i := 15) (oi := { dst := some 31, op := Go.Op.nilCheck (Go.Operand.tmp 30), type := 0, pos := "ref.go:148", after := #[{ on := 14, ground := Go.Ground.data }], guard := none }) (v := ?_) rfl (by kernel_rfl) (by kernel_rfl) (by kernel_rfl) (by kernel_rfl) (fun _ _ _ h => h) (Or.inl ⟨by rfl, ?_⟩) (by assumption) ?_
      rotate_left
      · (intro w0 hSw; (try dsimp only at hSw); go_split_ands; go_simp; with_reducible rfl)
      try simp only [Act.put, List.setIfInBounds_toArray, List.set_cons_zero, List.set_cons_succ]
      refine AnyE.take (i := 16) (oi := { dst := some 32, op := Go.Op.fieldAddr 70 (Go.Operand.tmp 31) 0, type := 0, pos := "ref.go:148", after := #[{ on := 15, ground := Go.Ground.data }], guard := none }) (v := ?_) rfl (by kernel_rfl) (by kernel_rfl) (by kernel_rfl) (by kernel_rfl) (fun _ _ _ h => h) (Or.inl ⟨by rfl, ?_⟩) (by assumption) ?_
      rotate_left
      · (intro w0 hSw; (try dsimp only at hSw); go_split_ands; go_simp; with_reducible rfl)
      try simp only [Act.put, List.setIfInBounds_toArray, List.set_cons_zero, List.set_cons_succ]
      refine AnyE.take (i := 17) (oi := { dst := some 33, op := Go.Op.load 68 (Go.Operand.tmp 32), type := 68, pos := "ref.go:148", after := #[{ on := 16, ground := Go.Ground.data }], guard := none }) (v := ?_) rfl (by kernel_rfl) (by kernel_rfl) (by kernel_rfl) (by kernel_rfl) (fun _ _ _ h => h) (Or.inl ⟨by rfl, ?_⟩) (by assumption) ?_
      rotate_left
      · (intro w0 hSw; (try dsimp only at hSw); go_split_ands; go_simp; with_reducible rfl)
      try simp only [Act.put, List.setIfInBounds_toArray, List.set_cons_zero, List.set_cons_succ]
      refine AnyE.take (i := 18) (oi := { dst := some 34, op := Go.Op.move (Go.Operand.tmp 4), type := 3, pos := "ref.go:148", after := #[], guard := none }) (v := ?_) rfl (by kernel_rfl) (by kernel_rfl) (by kernel_rfl) (by kernel_rfl) (fun _ _ _ h => h) (Or.inl ⟨by rfl, ?_⟩) (by assumption) ?_
      rotate_left
      · (intro w0 hSw; (try dsimp only at hSw); go_split_ands; go_simp; with_reducible rfl)
      try simp only [Act.put, List.setIfInBounds_toArray, List.set_cons_zero, List.set_cons_succ]
      refine AnyE.take (i := 19) (oi := { dst := some 35, op := Go.Op.indexAddr 68 (Go.Operand.tmp 33) (Go.Operand.tmp 34), type := 0, pos := "ref.go:148", after := #[{ on := 17, ground := Go.Ground.data }, { on := 18, ground := Go.Ground.data }], guard := none }) (v := ?_) rfl (by kernel_rfl) (by kernel_rfl) (by kernel_rfl) (by kernel_rfl) (fun _ _ _ h => h) (Or.inl ⟨by rfl, ?_⟩) (by assumption) ?_
      rotate_left
      · (intro w0 hSw; (try dsimp only at hSw); go_split_ands; go_simp; with_reducible rfl)
      try simp only [Act.put, List.setIfInBounds_toArray, List.set_cons_zero, List.set_cons_succ]
      refine AnyE.take (i := 20) (oi := { dst := some 36, op := Go.Op.fieldAddr 72 (Go.Operand.tmp 35) 1, type := 0, pos := "ref.go:148", after := #[{ on := 19, ground := Go.Ground.data }], guard := none }) (v := ?_) rfl (by kernel_rfl) (by kernel_rfl) (by kernel_rfl) (by kernel_rfl) (fun _ _ _ h => h) (Or.inl ⟨by rfl, ?_⟩) (by assumption) ?_
      rotate_left
      · (intro w0 hSw; (try dsimp only at hSw); go_split_ands; go_simp; with_reducible rfl)
      try simp only [Act.put, List.setIfInBounds_toArray, List.set_cons_zero, List.set_cons_succ]
      refine AnyE.take (i := 21) (oi := { dst := some 37, op := Go.Op.load 22 (Go.Operand.tmp 36), type := 22, pos := "ref.go:148", after := #[{ on := 20, ground := Go.Ground.data }], guard := none }) (v := ?_) rfl (by kernel_rfl) (by kernel_rfl) (by kernel_rfl) (by kernel_rfl) (fun _ _ _ h => h) (Or.inl ⟨by rfl, ?_⟩) (by assumption) ?_
      rotate_left
      · (intro w0 hSw; (try dsimp only at hSw); go_split_ands; go_simp; with_reducible rfl)
      try simp only [Act.put, List.setIfInBounds_toArray, List.set_cons_zero, List.set_cons_succ]
      refine AnyE.ready (rs := [13]) (by kernel_rfl) (by simp) ?_
      refine AllE.cons (o := { dst := some 29, op := Go.Op.buildSlice 22 0 #[], type := 22, pos := "ref.go:148", after := #[], guard := none }) rfl (fun K hK => ?_) AllE.nil
      go_simp
      have HB1 : Hid (Below wr.heap.size wr (V0.alloc (.cells #[] 5))) := Lib.hid (HBw.out.alloc HBw.out.size _)
      have HO0 : Hid ((V0.alloc (.cells #[] 5)).ownsRow wr.heap.size 5 1 (.slice (some ⟨V0.heap.size, 0, none⟩) 0 0) 0 []) := Lib.hid (World.ownsRow_made V0 #[] 0 HBw.out.size (by unfold maxLen; omega) rfl)
      refine hK.out _ _ (HKS.out _ (HB1.out.mono HSZ.out)) (fun hHeld => ?_)
      clear hK K
      try simp only [Act.put, List.setIfInBounds_toArray, List.set_cons_zero, List.set_cons_succ]
      obtain ⟨v22, W22, hr22, ho22, hg22⟩ := app_d el5 _ wr.heap.size 0 (M.S j) _ _ [] _ HO0.out (HSB.out _ HB1.out) (by have := HSJ.out; omega) HB1.out.size
      have HB22 := Lib.hid (HB1.out.grown hg22 HB1.out.size (fun q hq => (HO0.out.lt q hq).1))
      rw [Nat.zero_add] at ho22
      have ho22 : W22.ownsRow wr.heap.size 5 1 v22 (M.S j) (byL (M.y j) (M.S j)) := ho22
      obtain ⟨g, cp, rfl, hg1, hg2⟩ := own_pos ho22 HPOS.out
      have HO22 := Lib.hid ho22
      have HR22 := Lib.hid hr22
      clear ho22 hr22 hg22 hg1 hg2
      refine AnyE.ready (rs := [22]) (by kernel_rfl) (by simp) ?_
      refine AllE.cons (o := { dst := some 38, op := Go.Op.call { callee := Go.Callee.builtin Go.Builtin.append, args := #[Go.Operand.tmp 29, Go.Operand.tmp 37], argTypes := #[22, 22] }, type := 22, pos := "ref.go:148", after := #[{ on := 13, ground := Go.Ground.data }, { on := 21, ground := Go.Ground.data }], guard := none }) rfl (fun K hK => ?_) AllE.nil
      refine step_append_run rfl _ _ _ rfl _ _ _ _ rfl (by rfl) HR22.out ?_
      refine hK.out _ _ (HKS.out _ (HB22.out.mono HSZ.out)) (fun hHeld => ?_)
      clear hK K
      try simp only [Act.put, List.setIfInBounds_toArray, List.set_cons_zero, List.set_cons_succ]
      refine AnyE.take (i := 23) (oi := { dst := some 39, op := Go.Op.build 72 #[(0, Go.Operand.tmp 28), (1, Go.Operand.tmp 38)], type := 72, pos := "ref.go:148", after := #[{ on := 12, ground := Go.Ground.data }, { on := 22, ground := Go.Ground.data }], guard := none }) (v := ?_) rfl (by kernel_rfl) (by kernel_rfl) (by kernel_rfl) (by kernel_rfl) (fun _ _ _ h => h) (Or.inl ⟨by rfl, ?_⟩) (by assumption) ?_
      rotate_left
      · (intro w0 hSw; (try dsimp only at hSw); go_split_ands; go_simp; with_reducible rfl)
      try simp only [Act.put, List.setIfInBounds_toArray, List.set_cons_zero, List.set_cons_succ]
      have HB24 : Hid (Below wr.heap.size wr (W22.alloc (.cells #[.int .u64 (M.A j : Nat), .int .u64 (M.S j : Nat), .bool (M.W j), .bool (M.X j), .slice (some ⟨g, 0, none⟩) (M.S j) cp] 72))) := Lib.hid (HB22.out.alloc HB22.out.size _)
      refine AnyE.ready (rs := [24]) (by kernel_rfl) (by simp) ?_
      refine AllE.cons (o := { dst := some 40, op := Go.Op.buildSlice 68 1 #[(0, Go.Operand.tmp 39)], type := 68, pos := "ref.go:148", after := #[{ on := 23, ground := Go.Ground.data }], guard := none }) rfl (fun K hK => ?_) AllE.nil
      go_simp
      refine hK.out _ _ (HKS.out _ (HB24.out.mono HSZ.out)) (fun hHeld => ?_)
      clear hK K
      try simp only [Act.put, List.setIfInBounds_toArray, List.set_cons_zero, List.set_cons_succ]
      have hnews : ∀ q u, (arC M (fun k => if k = j then g else B' k) (fun k => if k = j then cp else C' k) j)[q]? = some u → (W22.alloc (.cells #[.int .u64 (M.A j : Nat), .int .u64 (M.S j : Nat), .bool (M.W j), .bool (M.X j), .slice (some ⟨g, 0, none⟩) (M.S j) cp] 72)).cell? ((⟨W22.heap.size, 0, none⟩ : Addr).add q) = some u := fun q u hu => by
        rw [Go.WideShapes.add_plain, Nat.zero_add, World.cell?_alloc_at _ _ _ _ rfl]
        simp only [arC, if_true] at hu
        rw [← Array.getElem?_toList]
        exact hu
      obtain ⟨v25, W25, hr25, ho25, hg25⟩ := app_d el72 _ (w.heap.size + 1) j 1 s3 (.slice (some ⟨W22.heap.size, 0, none⟩) 1 1) (arL M B' C' j) _ (own_past HT0.out.ars HB24.out) ⟨_, _, rfl, rfl, hnews, arC_one _ _ _ _⟩ (by omega) (Nat.le_trans HSZ.out HB24.out.size)
      have HST := Lib.hid (HT0.out.step (by decide) HB22.out HO22.out ho25 hg25)
      have HB25 := Lib.hid ((HB24.out.mono HSZ.out).grown hg25 (Nat.le_trans HSZ.out HB24.out.size) (fun q hq => (HT0.out.ars.lt q hq).1))
      have HF25 := Lib.hid ((HKS.out _ HB25.out).1)
      have f25 : W25.frozen? ⟨w.heap.size, 0, none⟩ = false := frozen_of_row W25 w.heap.size 0 #[s3] 70 ((HB25.out.block w.heap.size (Nat.lt_succ_self _)).trans HT0.out.row)
      have HR25 := Lib.hid hr25
      obtain ⟨a9, cp9, rfl, _⟩ := own_form ho25
      have HB9 : Hid (Below w.heap.size w (W25.setCell ⟨w.heap.size, 0, none⟩ (.slice a9 (j + 1) cp9))) := Lib.hid ((HB.out.trans (HB25.out.mono (Nat.le_succ _))).setCell (Nat.le_refl _) _)
      clear hr25 ho25 hg25 hnews
      refine AnyE.ready (rs := [25]) (by kernel_rfl) (by simp) ?_
      refine AllE.cons (o := { dst := some 41, op := Go.Op.call { callee := Go.Callee.builtin Go.Builtin.append, args := #[Go.Operand.tmp 20, Go.Operand.tmp 40], argTypes := #[68, 68] }, type := 68, pos := "ref.go:148", after := #[{ on := 4, ground := Go.Ground.data }, { on := 24, ground := Go.Ground.data }, { on := 22, ground := Go.Ground.chain }], guard := none }) rfl (fun K hK => ?_) AllE.nil
      refine step_append_run rfl _ _ _ rfl _ _ _ _ rfl (by rfl) HR25.out ?_
      refine hK.out _ _ (HKS.out _ HB25.out) (fun hHeld => ?_)
      clear hK K
      try simp only [Act.put, List.setIfInBounds_toArray, List.set_cons_zero, List.set_cons_succ]
      refine AnyE.ready (rs := [26]) (by kernel_rfl) (by simp) ?_
      refine AllE.cons (o := { dst := some 42, op := Go.Op.nilCheck (Go.Operand.tmp 16), type := 0, pos := "ref.go:148", after := #[{ on := 0, ground := Go.Ground.data }, { on := 0, ground := Go.Ground.phase }, { on := 1, ground := Go.Ground.phase }, { on := 2, ground := Go.Ground.phase }, { on := 3, ground := Go.Ground.phase }, { on := 4, ground := Go.Ground.phase }, { on := 5, ground := Go.Ground.phase }, { on := 6, ground := Go.Ground.phase }, { on := 7, ground := Go.Ground.phase }, { on := 8, ground := Go.Ground.phase }, { on := 9, ground := Go.Ground.phase }, { on := 10, ground := Go.Ground.phase }, { on := 11, ground := Go.Ground.phase }, { on := 12, ground := Go.Ground.phase }, { on := 13, ground := Go.Ground.phase }, { on := 14, ground := Go.Ground.phase }, { on := 15, ground := Go.Ground.phase }, { on := 16, ground := Go.Ground.phase }, { on := 17, ground := Go.Ground.phase }, { on := 18, ground := Go.Ground.phase }, { on := 19, ground := Go.Ground.phase }, { on := 20, ground := Go.Ground.phase }, { on := 21, ground := Go.Ground.phase }, { on := 22, ground := Go.Ground.phase }, { on := 23, ground := Go.Ground.phase }, { on := 24, ground := Go.Ground.phase }, { on := 25, ground := Go.Ground.phase }], guard := none }) rfl (fun K hK => ?_) AllE.nil
      go_simp
      refine hK.out _ _ (HKS.out _ HB25.out) (fun hHeld => ?_)
      clear hK K
      try simp only [Act.put, List.setIfInBounds_toArray, List.set_cons_zero, List.set_cons_succ]
      refine AnyE.take (i := 27) (oi := { dst := some 43, op := Go.Op.fieldAddr 70 (Go.Operand.tmp 42) 0, type := 0, pos := "ref.go:148", after := #[{ on := 26, ground := Go.Ground.data }, { on := 0, ground := Go.Ground.phase }, { on := 1, ground := Go.Ground.phase }, { on := 2, ground := Go.Ground.phase }, { on := 3, ground := Go.Ground.phase }, { on := 4, ground := Go.Ground.phase }, { on := 5, ground := Go.Ground.phase }, { on := 6, ground := Go.Ground.phase }, { on := 7, ground := Go.Ground.phase }, { on := 8, ground := Go.Ground.phase }, { on := 9, ground := Go.Ground.phase }, { on := 10, ground := Go.Ground.phase }, { on := 11, ground := Go.Ground.phase }, { on := 12, ground := Go.Ground.phase }, { on := 13, ground := Go.Ground.phase }, { on := 14, ground := Go.Ground.phase }, { on := 15, ground := Go.Ground.phase }, { on := 16, ground := Go.Ground.phase }, { on := 17, ground := Go.Ground.phase }, { on := 18, ground := Go.Ground.phase }, { on := 19, ground := Go.Ground.phase }, { on := 20, ground := Go.Ground.phase }, { on := 21, ground := Go.Ground.phase }, { on := 22, ground := Go.Ground.phase }, { on := 23, ground := Go.Ground.phase }, { on := 24, ground := Go.Ground.phase }, { on := 25, ground := Go.Ground.phase }], guard := none }) (v := ?_) rfl (by kernel_rfl) (by kernel_rfl) (by kernel_rfl) (by kernel_rfl) (fun _ _ _ h => h) (Or.inl ⟨by rfl, ?_⟩) (by assumption) ?_
      rotate_left
      · (intro w0 hSw; (try dsimp only at hSw); go_split_ands; go_simp; with_reducible rfl)
      try simp only [Act.put, List.setIfInBounds_toArray, List.set_cons_zero, List.set_cons_succ]
      have f24 := HF25.out
      obtain ⟨a8, cp8, hv8, _⟩ := own_form HT0.out.ars
      rw [hv8] at f24
      refine AnyE.ready (rs := [28]) (by kernel_rfl) (by simp) ?_
      refine AllE.last (o := { dst := none, op := Go.Op.store 68 (Go.Operand.tmp 43) (Go.Operand.tmp 41), type := 0, pos := "ref.go:148", after := #[{ on := 27, ground := Go.Ground.data }, { on := 25, ground := Go.Ground.data }, { on := 25, ground := Go.Ground.chain }, { on := 0, ground := Go.Ground.phase }, { on := 1, ground := Go.Ground.phase }, { on := 2, ground := Go.Ground.phase }, { on := 3, ground := Go.Ground.phase }, { on := 4, ground := Go.Ground.phase }, { on := 5, ground := Go.Ground.phase }, { on := 6, ground := Go.Ground.phase }, { on := 7, ground := Go.Ground.phase }, { on := 8, ground := Go.Ground.phase }, { on := 9, ground := Go.Ground.phase }, { on := 10, ground := Go.Ground.phase }, { on := 11, ground := Go.Ground.phase }, { on := 12, ground := Go.Ground.phase }, { on := 13, ground := Go.Ground.phase }, { on := 14, ground := Go.Ground.phase }, { on := 15, ground := Go.Ground.phase }, { on := 16, ground := Go.Ground.phase }, { on := 17, ground := Go.Ground.phase }, { on := 18, ground := Go.Ground.phase }, { on := 19, ground := Go.Ground.phase }, { on := 20, ground := Go.Ground.phase }, { on := 21, ground := Go.Ground.phase }, { on := 22, ground := Go.Ground.phase }, { on := 23, ground := Go.Ground.phase }, { on := 24, ground := Go.Ground.phase }, { on := 25, ground := Go.Ground.phase }], guard := none }) rfl (by kernel_rfl) (fun K hK => ?_)
      go_simp
      refine hK.out _ _ ?_
      clear hK K
      try simp only [Act.put, List.setIfInBounds_toArray, List.set_cons_zero, List.set_cons_succ]
      go_wp2
      exact ⟨⟨j + 1, _, _, _, by omega, by go_num, HST, HB9⟩, by simp [intOf]; omega⟩
    · obtain rfl : j = M.n := by omega
      go_wp2
      go_ret
      exact ⟨⟨_, _, _, rfl, HT0.out.done hOk.out⟩, HB.out⟩
end
end Go.Proofs.Ytjcbhomfggjmhaa.Mm
