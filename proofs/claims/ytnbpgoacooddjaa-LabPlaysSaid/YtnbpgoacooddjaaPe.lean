import Derived.Test.YtnbpgoacooddjaaPd
namespace Go.Proofs.Ytnbpgoacooddjaa.Lab
open Go.ChangeShapes Go.WideShapes Go.ChangeAt Go.RowKit Go.Maps Go.Deep
open Go.Proofs.Ytnbpgoacooddjaa.En
set_option linter.unusedVariables false
attribute [local go_sem] rowAt_drew rowAt_drewN
theorem z7 {w W : World} {x : In} (h : rowAt W w.heap.size = some (arI (zIn x))) : W.cell? ⟨w.heap.size, 0, none⟩ = some (.int .i64 x.op) ∧ W.cell? ⟨w.heap.size, 1, none⟩ = some (.int .i64 x.d) ∧ W.cell? ⟨w.heap.size, 2, none⟩ = some (.int .i64 x.n) ∧ W.cell? ⟨w.heap.size, 3, none⟩ = some (.int .i64 x.m) ∧ W.cell? ⟨w.heap.size, 4, none⟩ = some (.int .i64 x.a) ∧ W.cell? ⟨w.heap.size, 5, none⟩ = some (.int .i64 x.c) ∧ W.cell? ⟨w.heap.size, 6, none⟩ = some (.int .i64 0) :=
  ⟨rowAt_cell h 0, rowAt_cell h 1, rowAt_cell h 2, rowAt_cell h 3, rowAt_cell h 4, rowAt_cell h 5, rowAt_cell h 6⟩
theorem fin8 {w U w' : World} {FP : Nat → Prop} {q : Nat} {S : Lb} {v : Value} (h : RfP U (fun k => FP k ∨ v.ownBlock = some k) q S w') (hv : ∀ k, v.ownBlock = some k → FP k ∨ w.heap.size ≤ k) (hk : Kp FP w U) : RfP w FP q S w' := by
  obtain ⟨FP', v1', v2', v3', lm', lt', h1, h2, h3, h4⟩ := h
  refine ⟨FP', v1', v2', v3', lm', lt', h1, fun k hf => ?_, fun k hf => h3 k (.inl hf), hk.trans h4 fun k hf => ?_⟩
  · rcases h2 k hf with (h | h) | h
    · exact .inl h
    · exact hv k h
    · exact .inr (Nat.le_trans hk.size h)
  · rcases hf with h | h
    · exact .inl h
    · exact hv k h
set_option maxRecDepth 100000 in
set_option maxHeartbeats 20000000 in
theorem rjump_f (w : World) (FP : Nat → Prop) (q : Nat) (S : Lb) (v1 v2 v3 : Value) (lm : Nat → ByteArray) (lt : Nat → Nat) (x : In) (s : ByteArray) (h : RfC w FP q S v1 v2 v3 lm lt) (hj : jumpB x.op = true) (hx : (zIn x).e = 0) (hn : S.n = 65536) (hjn : S.jn < 1000000) :
    Calls Try.prog 36 #[.pointer (some ⟨q, 0, none⟩), x.v, .string s] w fun e w' => e = .returned (.tuple #[]) ∧ RfP w FP q (S.fail 2) w' := by
  have H := Lib.hid h
  have hnl := h.nl
  have hfl := h.fl
  obtain ⟨a1, cp1, rfl, _⟩ := own_form h.ins
  obtain ⟨a3, cp3, rfl, _⟩ := own_form h.jmp
  have HO := Lib.hid (jumpB_ops hj)
  have hck := fun V => (zIn x).rcheck V
  rw [hx] at hck
  have HCK : Hid (∀ V, Calls Try.prog 83 #[.agg #[.int .i64 x.op, .int .i64 x.d, .int .i64 x.n, .int .i64 x.m, .int .i64 x.a, .int .i64 x.c, .int .i64 0]] V fun e w' => e = .returned (.int .i64 0) ∧ Below V.heap.size V w') := Lib.hid hck
  clear h hck hj hx
  show Calls Try.prog 36 #[.pointer (some ⟨q, 0, none⟩), .agg #[.int .i64 x.op, .int .i64 x.d, .int .i64 x.n, .int .i64 x.m, .int .i64 x.a, .int .i64 x.c, .int .i64 x.i], .string s] w _
  obtain ⟨W0, hW0⟩ : ∃ W0, w.alloc (.cells #[.int .i64 x.op, .int .i64 x.d, .int .i64 x.n, .int .i64 x.m, .int .i64 x.a, .int .i64 x.c, .int .i64 0] 29) = W0 := ⟨_, rfl⟩
  have HB0 : Hid (rowAt W0 w.heap.size = some (arI (zIn x))) := Lib.hid (by rw [← hW0]; exact rowAt_new _ _ _)
  have HL0 : Hid (Below w.heap.size w W0) := Lib.hid (by rw [← hW0]; exact (Below.refl _ _).alloc (Nat.le_refl _) _)
  go_enter Try.func36, Try.ntmps36
  go_upto_region 2 with (fail)
  try rw [hW0]
  clear hW0
  go_cut [6] from 9 to 31 (fun s6 wx => s6 = .bool true ∧ wx = W0)
  case first =>
    have x0 := rowAt_cell HB0.out 0
    simp only [arI, zIn] at x0
    rcases HO.out with h | h | h | h | h
    all_goals
      rw [show (#[Value.int IntKind.i64 x.op, Value.int IntKind.i64 x.d, Value.int IntKind.i64 x.n, Value.int IntKind.i64 x.m, Value.int IntKind.i64 x.a, Value.int IntKind.i64 x.c, Value.int IntKind.i64 0] : Array Value)[0]? = some (.int .i64 x.op) from rfl, h] at x0
      clear h
      go_wp2_with fail
      go_meet
      case rel => exact ⟨rfl, rfl⟩
  case rest =>
    obtain ⟨hs6, hwc⟩ := hcut
    subst hs6
    subst hwc
    have x0 := rowAt_cell HB0.out 0
    have x1 := rowAt_cell HB0.out 1
    have x2 := rowAt_cell HB0.out 2
    have x3 := rowAt_cell HB0.out 3
    have x4 := rowAt_cell HB0.out 4
    have x5 := rowAt_cell HB0.out 5
    have x6 := rowAt_cell HB0.out 6
    simp only [arI, zIn] at x0 x1 x2 x3 x4 x5 x6
    go_upto_region 5 with (go_at_call 83; refine (HCK.out _).mono ?_; rintro e w3 ⟨rfl, hb3⟩; have HB3 := Lib.hid hb3; clear hb3)
    clear x0 x1 x2 x3 x4 x5 x6
    have hrow3 : rowAt w3 w.heap.size = some (arI (zIn x)) := rowAt_below HB0.out HB3.out rfl
    have HL3 := Lib.hid (HL0.out.trans (HB3.out.mono HL0.out.size))
    have HR3 := Lib.hid hrow3
    have x0 := rowAt_cell hrow3 0
    have x1 := rowAt_cell hrow3 1
    have x2 := rowAt_cell hrow3 2
    have x3 := rowAt_cell hrow3 3
    have x4 := rowAt_cell hrow3 4
    have x5 := rowAt_cell hrow3 5
    have x6 := rowAt_cell hrow3 6
    simp only [arI, zIn] at x0 x1 x2 x3 x4 x5 x6
    clear hrow3 HB0 HL0 HB3
    have hS4 := one_src (zIn x) w3
    have HL4 : Hid (Below w.heap.size w (w3.alloc (.cells #[.int .i64 x.op, .int .i64 x.d, .int .i64 x.n, .int .i64 x.m, .int .i64 x.a, .int .i64 x.c, .int .i64 0] 29))) := Lib.hid (HL3.out.alloc HL3.out.size _)
    have HR4 : Hid (rowAt (w3.alloc (.cells #[.int .i64 x.op, .int .i64 x.d, .int .i64 x.n, .int .i64 x.m, .int .i64 x.a, .int .i64 x.c, .int .i64 0] 29)) w.heap.size = some (arI (zIn x))) := Lib.hid (rowAt_past HR3.out _)
    have H4 := Lib.hid (H.out.past HL4.out)
    have HRM := Lib.hid (room_c _ FP q S _ v2 _ lm lt (some ⟨w3.heap.size, 0, none⟩) 1 1 (fun _ => zIn x) H4.out (by decide) (by decide) (fun _ b off hb hf => by injection hb with hb; injection hb with hb; have := hfl _ hf; have := HL3.out.size; omega) (Lib.hid hS4))
    go_wp2_with (go_at_call 117; refine HRM.out.mono ?_; rintro e w5 ⟨S1, k, rfl, hc5, hk5, hs5, hle, hrow, hn5, hF5, hcase⟩; obtain ⟨rfl, rfl⟩ : S1 = S.fail 2 ∧ k = 0 := (by rcases hcase with ⟨h1, _⟩ | ⟨_, h2, h3⟩; omega; exact ⟨h2, by omega⟩); have HC5 := Lib.hid hc5; have HK5 := Lib.hid hk5; clear hc5 hk5 hs5 hrow hF5 hcase)
    go_end0
    exact ⟨rfl, RfP.of HC5.out ((Kp.of_below HL4.out).trans HK5.out fun k hf => .inl hf)⟩
set_option maxRecDepth 100000 in
set_option maxHeartbeats 20000000 in
theorem rjump_y (w : World) (FP : Nat → Prop) (q : Nat) (S : Lb) (v1 v2 v3 : Value) (lm : Nat → ByteArray) (lt : Nat → Nat) (x : In) (s : ByteArray) (h : RfC w FP q S v1 v2 v3 lm lt) (hj : jumpB x.op = true) (hx : (zIn x).e = 0) (hn : S.n < 65536) (hjn : S.jn < 1000000) :
    Calls Try.prog 36 #[.pointer (some ⟨q, 0, none⟩), x.v, .string s] w fun e w' => e = .returned (.tuple #[]) ∧ RfP w FP q (S.jump x s) w' := by
  have H := Lib.hid h
  have hnl := h.nl
  have hfl := h.fl
  obtain ⟨a1, cp1, rfl, _⟩ := own_form h.ins
  obtain ⟨a3, cp3, rfl, _⟩ := own_form h.jmp
  have HO := Lib.hid (jumpB_ops hj)
  have hck := fun V => (zIn x).rcheck V
  rw [hx] at hck
  have HCK : Hid (∀ V, Calls Try.prog 83 #[.agg #[.int .i64 x.op, .int .i64 x.d, .int .i64 x.n, .int .i64 x.m, .int .i64 x.a, .int .i64 x.c, .int .i64 0]] V fun e w' => e = .returned (.int .i64 0) ∧ Below V.heap.size V w') := Lib.hid hck
  clear h hck hj hx
  show Calls Try.prog 36 #[.pointer (some ⟨q, 0, none⟩), .agg #[.int .i64 x.op, .int .i64 x.d, .int .i64 x.n, .int .i64 x.m, .int .i64 x.a, .int .i64 x.c, .int .i64 x.i], .string s] w _
  obtain ⟨W0, hW0⟩ : ∃ W0, w.alloc (.cells #[.int .i64 x.op, .int .i64 x.d, .int .i64 x.n, .int .i64 x.m, .int .i64 x.a, .int .i64 x.c, .int .i64 0] 29) = W0 := ⟨_, rfl⟩
  have HB0 : Hid (rowAt W0 w.heap.size = some (arI (zIn x))) := Lib.hid (by rw [← hW0]; exact rowAt_new _ _ _)
  have HL0 : Hid (Below w.heap.size w W0) := Lib.hid (by rw [← hW0]; exact (Below.refl _ _).alloc (Nat.le_refl _) _)
  go_enter Try.func36, Try.ntmps36
  go_upto_region 2 with (fail)
  try rw [hW0]
  clear hW0
  go_cut [6] from 9 to 31 (fun s6 wx => s6 = .bool true ∧ wx = W0)
  case first =>
    have x0 := rowAt_cell HB0.out 0
    simp only [arI, zIn] at x0
    rcases HO.out with h | h | h | h | h
    all_goals
      rw [show (#[Value.int IntKind.i64 x.op, Value.int IntKind.i64 x.d, Value.int IntKind.i64 x.n, Value.int IntKind.i64 x.m, Value.int IntKind.i64 x.a, Value.int IntKind.i64 x.c, Value.int IntKind.i64 0] : Array Value)[0]? = some (.int .i64 x.op) from rfl, h] at x0
      clear h
      go_wp2_with fail
      go_meet
      case rel => exact ⟨rfl, rfl⟩
  case rest =>
    obtain ⟨hs6, hwc⟩ := hcut
    subst hs6
    subst hwc
    have x0 := rowAt_cell HB0.out 0
    have x1 := rowAt_cell HB0.out 1
    have x2 := rowAt_cell HB0.out 2
    have x3 := rowAt_cell HB0.out 3
    have x4 := rowAt_cell HB0.out 4
    have x5 := rowAt_cell HB0.out 5
    have x6 := rowAt_cell HB0.out 6
    simp only [arI, zIn] at x0 x1 x2 x3 x4 x5 x6
    go_upto_region 5 with (go_at_call 83; refine (HCK.out _).mono ?_; rintro e w3 ⟨rfl, hb3⟩; have HB3 := Lib.hid hb3; clear hb3)
    clear x0 x1 x2 x3 x4 x5 x6
    have hrow3 : rowAt w3 w.heap.size = some (arI (zIn x)) := rowAt_below HB0.out HB3.out rfl
    have HL3 := Lib.hid (HL0.out.trans (HB3.out.mono HL0.out.size))
    have HR3 := Lib.hid hrow3
    have x0 := rowAt_cell hrow3 0
    have x1 := rowAt_cell hrow3 1
    have x2 := rowAt_cell hrow3 2
    have x3 := rowAt_cell hrow3 3
    have x4 := rowAt_cell hrow3 4
    have x5 := rowAt_cell hrow3 5
    have x6 := rowAt_cell hrow3 6
    simp only [arI, zIn] at x0 x1 x2 x3 x4 x5 x6
    clear hrow3 HB0 HL0 HB3
    have hS4 := one_src (zIn x) w3
    have HL4 : Hid (Below w.heap.size w (w3.alloc (.cells #[.int .i64 x.op, .int .i64 x.d, .int .i64 x.n, .int .i64 x.m, .int .i64 x.a, .int .i64 x.c, .int .i64 0] 29))) := Lib.hid (HL3.out.alloc HL3.out.size _)
    have HR4 : Hid (rowAt (w3.alloc (.cells #[.int .i64 x.op, .int .i64 x.d, .int .i64 x.n, .int .i64 x.m, .int .i64 x.a, .int .i64 x.c, .int .i64 0] 29)) w.heap.size = some (arI (zIn x))) := Lib.hid (rowAt_past HR3.out _)
    have H4 := Lib.hid (H.out.past HL4.out)
    have HRM := Lib.hid (room_c _ FP q S _ v2 _ lm lt (some ⟨w3.heap.size, 0, none⟩) 1 1 (fun _ => zIn x) H4.out (by decide) (by decide) (fun _ b off hb hf => by injection hb with hb; injection hb with hb; have := hfl _ hf; have := HL3.out.size; omega) (Lib.hid hS4))
    go_upto_region 7 with (go_at_call 117; refine HRM.out.mono ?_; rintro e w5 ⟨S1, k, rfl, hc5, hk5, hs5, hle, hrow, hn5, hF5, hcase⟩; obtain ⟨rfl, rfl⟩ : S = S1 ∧ k = 1 := (by rcases hcase with ⟨_, h2, h3⟩ | ⟨h1, _⟩; exact ⟨h2.symm, h3⟩; omega); have HC5 := Lib.hid hc5; have HK5 := Lib.hid hk5; clear hc5 hk5 hs5 hrow hF5 hcase)
    have hbd : Below w5.heap.size w5 w5.drew := (Below.refl _ _).drew
    have hR5 : rowAt w5 w.heap.size = some (arI (zIn x)) := by
      obtain ⟨t, ht⟩ := rowAt_heap HR4.out
      exact rowAt_of ((HK5.out.block _ (rowAt_lt HR4.out) (fun hf => by have := hfl _ hf; omega)).trans ht)
    have HK5d : Hid (Kp FP w w5.drew) := Lib.hid (((Kp.of_below HL4.out).trans HK5.out fun k hf => .inl hf).trans (FP' := FP) (Kp.of_below hbd) fun k hf => .inl hf)
    have hV := HC5.out.past hbd
    have HR5d := Lib.hid (rowAt_below hR5 hbd rfl)
    clear hbd hR5 HR4 HL4 HK5 HC5 HRM HR3 HL3 H4 x0 x1 x2 x3 x4 x5 x6 hS4
    have k1 := rowAt_cell hV.rw 1
    have k2 := rowAt_cell hV.rw 3
    simp only [cellsR] at k1 k2
    refine wp_region_held_drew (S := fun w' => w'.cell? ⟨q, 1, none⟩ = some (.slice a1 S.n cp1)) (by kernel_rfl) k1 (fun hHeld => ?_)
    generalize w5.drew = V at HK5d HR5d hV k1 k2 hHeld ⊢
    have hA := hV.past ((Below.refl V.heap.size V).alloc (Nat.le_refl _) (.cells #[.string s, .int .i64 (S.n : Int)] 175))
    have hRA : rowAt (V.alloc (.cells #[.string s, .int .i64 (S.n : Int)] 175)) w.heap.size = some (arI (zIn x)) := rowAt_past HR5d.out _
    have kA1 := rowAt_cell hA.rw 1
    have kA2 := rowAt_cell hA.rw 3
    obtain ⟨v', W3, hr, ho3, hg3, hl3⟩ := run_append2 (V.alloc (.cells #[.string s, .int .i64 (S.n : Int)] 175)) 72 (.slice a3 S.jn cp3) S.jn _ hA.jmp V.heap.size s (S.n : Int) (rowAt_new _ _ _) (by omega)
    obtain ⟨a4, cp4, rfl, _⟩ := own_form ho3
    obtain ⟨hJ, hJ2, hJ3⟩ := hA.jumped ho3 hg3 hl3
    have hb3 : ∀ g, (Value.slice a3 S.jn cp3).ownBlock = some g → g ≠ w.heap.size := fun g hg e => by have := hfl g (H.out.f3 g hg); omega
    have hne : w.heap.size ≠ q := fun e => by have := hfl q H.out.fp; omega
    have hR3 : rowAt W3 w.heap.size = some (arI (zIn x)) := by
      obtain ⟨t, ht⟩ := rowAt_heap hRA
      exact rowAt_of ((hg3.block _ (rowAt_lt hRA) (fun e => hb3 _ e.symm rfl)).trans ht)
    have hR7 : rowAt (W3.setCell ⟨q, 3, none⟩ (.slice a4 (S.jn + 1) cp4)) w.heap.size = some (arI (zIn x)) := rowAt_set_far hR3 hne _ _
    have hrow3 : rowAt W3 q = some (cellsR S.at0 (.slice a1 S.n cp1) v2 (.slice a3 S.jn cp3) S.err) := rowAt_of ((hg3.block q (hA.fl q hA.fp) (fun e => hA.p3 e.symm rfl)).trans hA.row)
    have k31 := rowAt_cell hrow3 1
    have k32 := rowAt_cell hrow3 3
    have f32 := rowAt_frz hrow3 3
    have k41 : (W3.setCell ⟨q, 3, none⟩ (.slice a4 (S.jn + 1) cp4)).cell? ⟨q, 1, none⟩ = some (.slice a1 S.n cp1) := by rw [rowAt_cell (rowAt_set hrow3 3 _)]; rfl
    simp only [cellsR] at kA1 kA2 k31 k32
    obtain ⟨W4, hW4⟩ : ∃ W4, W3.setCell ⟨q, 3, none⟩ (.slice a4 (S.jn + 1) cp4) = W4 := ⟨_, rfl⟩
    have hdd : Below W4.heap.size W4 W4.drew := (Below.refl _ _).drew
    have hKA : Kp FP V (V.alloc (.cells #[.string s, .int .i64 (S.n : Int)] 175)) := Kp.of_below ((Below.refl V.heap.size V).alloc (Nat.le_refl _) _)
    rw [hW4] at hJ hJ3 hR7 k41
    have HC7 := Lib.hid (hJ.past hdd)
    have HR7d := Lib.hid (rowAt_below hR7 hdd rfl)
    have HK7 : Hid (Kp FP w W4.drew) := Lib.hid ((HK5d.out.trans (hKA.trans hJ3 fun k hf => .inl hf) fun k hf => .inl hf).trans (FP' := FP) (Kp.of_below hdd) fun k hf => .inl hf)
    have hVs := HK5d.out.size
    have hAs := hKA.size
    have HF7 : Hid (∀ k, (Value.slice a4 (S.jn + 1) cp4).ownBlock = some k → FP k ∨ w.heap.size ≤ k) := Lib.hid (fun k hk => (hJ2 k hk).imp id fun h => by omega)
    clear hA hV hRA ho3 hg3 hl3 hrow3 hJ hJ2 hJ3 hb3 hne hR3 hR7 hdd hKA hVs hAs HK5d HR5d
    refine wpAnyH_take (i := 0) (oi := { dst := some 48, op := Op.move (Operand.tmp 0), type := 71, pos := "ref.go:92", after := #[], guard := none }) (v := ?_) rfl (by kernel_rfl) (by kernel_rfl) (by kernel_rfl) (fun _ _ _ h => h) (Or.inl ⟨by rfl, ?_⟩) (by assumption) ?_
    rotate_left
    · (intro w0 hSw; (try dsimp only at hSw); go_split_ands; go_simp; with_reducible rfl)
    try simp only [Act.put, List.setIfInBounds_toArray, List.set_cons_zero, List.set_cons_succ]
    refine wpAnyH_take (i := 1) (oi := { dst := some 49, op := Op.move (Operand.tmp 0), type := 71, pos := "ref.go:92", after := #[], guard := none }) (v := ?_) rfl (by kernel_rfl) (by kernel_rfl) (by kernel_rfl) (fun _ _ _ h => h) (Or.inl ⟨by rfl, ?_⟩) (by assumption) ?_
    rotate_left
    · (intro w0 hSw; (try dsimp only at hSw); go_split_ands; go_simp; with_reducible rfl)
    try simp only [Act.put, List.setIfInBounds_toArray, List.set_cons_zero, List.set_cons_succ]
    refine wpAnyH_take (i := 2) (oi := { dst := some 50, op := Op.nilCheck (Operand.tmp 49), type := 0, pos := "ref.go:92", after := #[{ on := 1, ground := Ground.data }], guard := none }) (v := ?_) rfl (by kernel_rfl) (by kernel_rfl) (by kernel_rfl) (fun _ _ _ h => h) (Or.inl ⟨by rfl, ?_⟩) (by assumption) ?_
    rotate_left
    · (intro w0 hSw; (try dsimp only at hSw); go_split_ands; go_simp; with_reducible rfl)
    try simp only [Act.put, List.setIfInBounds_toArray, List.set_cons_zero, List.set_cons_succ]
    refine wpAnyH_take (i := 3) (oi := { dst := some 51, op := Op.fieldAddr 74 (Operand.tmp 50) 3, type := 0, pos := "ref.go:92", after := #[{ on := 2, ground := Ground.data }], guard := none }) (v := ?_) rfl (by kernel_rfl) (by kernel_rfl) (by kernel_rfl) (fun _ _ _ h => h) (Or.inl ⟨by rfl, ?_⟩) (by assumption) ?_
    rotate_left
    · (intro w0 hSw; (try dsimp only at hSw); go_split_ands; go_simp; with_reducible rfl)
    try simp only [Act.put, List.setIfInBounds_toArray, List.set_cons_zero, List.set_cons_succ]
    refine wpAnyH_take (i := 5) (oi := { dst := some 53, op := Op.move (Operand.tmp 2), type := 9, pos := "ref.go:92", after := #[], guard := none }) (v := ?_) rfl (by kernel_rfl) (by kernel_rfl) (by kernel_rfl) (fun _ _ _ h => h) (Or.inl ⟨by rfl, ?_⟩) (by assumption) ?_
    rotate_left
    · (intro w0 hSw; (try dsimp only at hSw); go_split_ands; go_simp; with_reducible rfl)
    try simp only [Act.put, List.setIfInBounds_toArray, List.set_cons_zero, List.set_cons_succ]
    refine wpAnyH_take (i := 6) (oi := { dst := some 54, op := Op.move (Operand.tmp 0), type := 71, pos := "ref.go:92", after := #[], guard := none }) (v := ?_) rfl (by kernel_rfl) (by kernel_rfl) (by kernel_rfl) (fun _ _ _ h => h) (Or.inl ⟨by rfl, ?_⟩) (by assumption) ?_
    rotate_left
    · (intro w0 hSw; (try dsimp only at hSw); go_split_ands; go_simp; with_reducible rfl)
    try simp only [Act.put, List.setIfInBounds_toArray, List.set_cons_zero, List.set_cons_succ]
    refine wpAnyH_take (i := 7) (oi := { dst := some 55, op := Op.nilCheck (Operand.tmp 54), type := 0, pos := "ref.go:92", after := #[{ on := 6, ground := Ground.data }], guard := none }) (v := ?_) rfl (by kernel_rfl) (by kernel_rfl) (by kernel_rfl) (fun _ _ _ h => h) (Or.inl ⟨by rfl, ?_⟩) (by assumption) ?_
    rotate_left
    · (intro w0 hSw; (try dsimp only at hSw); go_split_ands; go_simp; with_reducible rfl)
    try simp only [Act.put, List.setIfInBounds_toArray, List.set_cons_zero, List.set_cons_succ]
    refine wpAnyH_take (i := 8) (oi := { dst := some 56, op := Op.fieldAddr 74 (Operand.tmp 55) 1, type := 0, pos := "ref.go:92", after := #[{ on := 7, ground := Ground.data }], guard := none }) (v := ?_) rfl (by kernel_rfl) (by kernel_rfl) (by kernel_rfl) (fun _ _ _ h => h) (Or.inl ⟨by rfl, ?_⟩) (by assumption) ?_
    rotate_left
    · (intro w0 hSw; (try dsimp only at hSw); go_split_ands; go_simp; with_reducible rfl)
    try simp only [Act.put, List.setIfInBounds_toArray, List.set_cons_zero, List.set_cons_succ]
    refine wpAnyH_take (i := 9) (oi := { dst := some 57, op := Op.load 63 (Operand.tmp 56), type := 63, pos := "ref.go:92", after := #[{ on := 8, ground := Ground.data }], guard := none }) (v := ?_) rfl (by kernel_rfl) (by kernel_rfl) (by kernel_rfl) (fun _ _ _ h => h) (Or.inl ⟨by rfl, ?_⟩) (by assumption) ?_
    rotate_left
    · (intro w0 hSw; (try dsimp only at hSw); go_split_ands; go_simp; with_reducible rfl)
    try simp only [Act.put, List.setIfInBounds_toArray, List.set_cons_zero, List.set_cons_succ]
    refine wpAnyH_take (i := 10) (oi := { dst := some 58, op := Op.call { callee := Callee.builtin Builtin.len, args := #[Operand.tmp 57], argTypes := #[63] }, type := 3, pos := "ref.go:92", after := #[{ on := 9, ground := Ground.data }], guard := none }) (v := ?_) rfl (by kernel_rfl) (by kernel_rfl) (by kernel_rfl) (fun _ _ _ h => h) (Or.inl ⟨by rfl, ?_⟩) (by assumption) ?_
    rotate_left
    · (intro w0 hSw; (try dsimp only at hSw); go_split_ands; go_simp; with_reducible rfl)
    try simp only [Act.put, List.setIfInBounds_toArray, List.set_cons_zero, List.set_cons_succ]
    refine wpAnyH_take (i := 11) (oi := { dst := some 59, op := Op.build 175 #[(0, Operand.tmp 53), (1, Operand.tmp 58)], type := 175, pos := "ref.go:92", after := #[{ on := 5, ground := Ground.data }, { on := 10, ground := Ground.data }], guard := none }) (v := ?_) rfl (by kernel_rfl) (by kernel_rfl) (by kernel_rfl) (fun _ _ _ h => h) (Or.inl ⟨by rfl, ?_⟩) (by assumption) ?_
    rotate_left
    · (intro w0 hSw; (try dsimp only at hSw); go_split_ands; go_simp; with_reducible rfl)
    try simp only [Act.put, List.setIfInBounds_toArray, List.set_cons_zero, List.set_cons_succ]
    refine wpAnyH_ready (rs := [4, 12]) (by kernel_rfl) (by simp) ?_
    refine AllReadyH.cons (o := { dst := some 52, op := Op.load 72 (Operand.tmp 51), type := 72, pos := "ref.go:92", after := #[{ on := 3, ground := Ground.data }], guard := none }) rfl (fun K hK => ?_) (AllReadyH.cons (o := { dst := some 60, op := Op.buildSlice 72 1 #[(0, Operand.tmp 59)], type := 72, pos := "ref.go:92", after := #[{ on := 11, ground := Ground.data }], guard := none }) rfl (fun K hK => ?_) AllReadyH.nil)
    · go_simp
      refine hK.out _ _ k1 (fun hHeld => ?_)
      clear hK K
      try simp only [Act.put, List.setIfInBounds_toArray, List.set_cons_zero, List.set_cons_succ]
      refine wpAnyH_ready (rs := [12]) (by kernel_rfl) (by simp) ?_
      refine AllReadyH.cons (o := { dst := some 60, op := Op.buildSlice 72 1 #[(0, Operand.tmp 59)], type := 72, pos := "ref.go:92", after := #[{ on := 11, ground := Ground.data }], guard := none }) rfl (fun K hK => ?_) AllReadyH.nil
      go_simp
      refine hK.out _ _ kA1 (fun hHeld => ?_)
      clear hK K
      try simp only [Act.put, List.setIfInBounds_toArray, List.set_cons_zero, List.set_cons_succ]
      refine wpAnyH_ready (rs := [13]) (by kernel_rfl) (by simp) ?_
      refine AllReadyH.cons (o := { dst := some 61, op := Op.call { callee := Callee.builtin Builtin.append, args := #[Operand.tmp 52, Operand.tmp 60], argTypes := #[72, 72] }, type := 72, pos := "ref.go:92", after := #[{ on := 4, ground := Ground.data }, { on := 12, ground := Ground.data }], guard := none }) rfl (fun K hK => ?_) AllReadyH.nil
      refine step_append_run rfl _ _ _ rfl _ _ _ _ rfl rfl hr ?_
      refine hK.out _ _ k31 (fun hHeld => ?_)
      clear hK K
      try simp only [Act.put, List.setIfInBounds_toArray, List.set_cons_zero, List.set_cons_succ]
      refine wpAnyH_take (i := 14) (oi := { dst := some 62, op := Op.nilCheck (Operand.tmp 48), type := 0, pos := "ref.go:92", after := #[{ on := 0, ground := Ground.data }, { on := 0, ground := Ground.phase }, { on := 1, ground := Ground.phase }, { on := 2, ground := Ground.phase }, { on := 3, ground := Ground.phase }, { on := 4, ground := Ground.phase }, { on := 5, ground := Ground.phase }, { on := 6, ground := Ground.phase }, { on := 7, ground := Ground.phase }, { on := 8, ground := Ground.phase }, { on := 9, ground := Ground.phase }, { on := 10, ground := Ground.phase }, { on := 11, ground := Ground.phase }, { on := 12, ground := Ground.phase }, { on := 13, ground := Ground.phase }], guard := none }) (v := ?_) rfl (by kernel_rfl) (by kernel_rfl) (by kernel_rfl) (fun _ _ _ h => h) (Or.inl ⟨by rfl, ?_⟩) (by assumption) ?_
      rotate_left
      · (intro w0 hSw; (try dsimp only at hSw); go_split_ands; go_simp; with_reducible rfl)
      try simp only [Act.put, List.setIfInBounds_toArray, List.set_cons_zero, List.set_cons_succ]
      refine wpAnyH_take (i := 15) (oi := { dst := some 63, op := Op.fieldAddr 74 (Operand.tmp 62) 3, type := 0, pos := "ref.go:92", after := #[{ on := 14, ground := Ground.data }, { on := 0, ground := Ground.phase }, { on := 1, ground := Ground.phase }, { on := 2, ground := Ground.phase }, { on := 3, ground := Ground.phase }, { on := 4, ground := Ground.phase }, { on := 5, ground := Ground.phase }, { on := 6, ground := Ground.phase }, { on := 7, ground := Ground.phase }, { on := 8, ground := Ground.phase }, { on := 9, ground := Ground.phase }, { on := 10, ground := Ground.phase }, { on := 11, ground := Ground.phase }, { on := 12, ground := Ground.phase }, { on := 13, ground := Ground.phase }], guard := none }) (v := ?_) rfl (by kernel_rfl) (by kernel_rfl) (by kernel_rfl) (fun _ _ _ h => h) (Or.inl ⟨by rfl, ?_⟩) (by assumption) ?_
      rotate_left
      · (intro w0 hSw; (try dsimp only at hSw); go_split_ands; go_simp; with_reducible rfl)
      try simp only [Act.put, List.setIfInBounds_toArray, List.set_cons_zero, List.set_cons_succ]
      refine wpAnyH_ready (rs := [16]) (by kernel_rfl) (by simp) ?_
      refine AllReadyH.cons (o := { dst := none, op := Op.store 72 (Operand.tmp 63) (Operand.tmp 61), type := 0, pos := "ref.go:92", after := #[{ on := 15, ground := Ground.data }, { on := 13, ground := Ground.data }, { on := 13, ground := Ground.chain }, { on := 0, ground := Ground.phase }, { on := 1, ground := Ground.phase }, { on := 2, ground := Ground.phase }, { on := 3, ground := Ground.phase }, { on := 4, ground := Ground.phase }, { on := 5, ground := Ground.phase }, { on := 6, ground := Ground.phase }, { on := 7, ground := Ground.phase }, { on := 8, ground := Ground.phase }, { on := 9, ground := Ground.phase }, { on := 10, ground := Ground.phase }, { on := 11, ground := Ground.phase }, { on := 12, ground := Ground.phase }, { on := 13, ground := Ground.phase }], guard := none }) rfl (fun K hK => ?_) AllReadyH.nil
      go_simp
      refine hK.out _ _ k41 (fun hHeld => ?_)
      clear hK K
      try simp only [Act.put, List.setIfInBounds_toArray, List.set_cons_zero, List.set_cons_succ]
      refine wpAnyH_done (by kernel_rfl) ?_ _
      clear hHeld
      go_upto_region 8 with (fail)
      try rw [hW4]
      have m1 := rowAt_cell HC7.out.rw 1
      simp only [cellsR] at m1
      have z5 : W4.drew.cell? ⟨w.heap.size, 0, none⟩ = some (.int .i64 x.op) ∧ W4.drew.cell? ⟨w.heap.size, 1, none⟩ = some (.int .i64 x.d) ∧ W4.drew.cell? ⟨w.heap.size, 2, none⟩ = some (.int .i64 x.n) ∧ W4.drew.cell? ⟨w.heap.size, 3, none⟩ = some (.int .i64 x.m) ∧ W4.drew.cell? ⟨w.heap.size, 4, none⟩ = some (.int .i64 x.a) ∧ W4.drew.cell? ⟨w.heap.size, 5, none⟩ = some (.int .i64 x.c) ∧ W4.drew.cell? ⟨w.heap.size, 6, none⟩ = some (.int .i64 0) := z7 HR7d.out
      refine wp_region_held_drew (S := fun w' => w'.cell? ⟨w.heap.size, 0, none⟩ = some (.int .i64 x.op) ∧ w'.cell? ⟨w.heap.size, 1, none⟩ = some (.int .i64 x.d) ∧ w'.cell? ⟨w.heap.size, 2, none⟩ = some (.int .i64 x.n) ∧ w'.cell? ⟨w.heap.size, 3, none⟩ = some (.int .i64 x.m) ∧ w'.cell? ⟨w.heap.size, 4, none⟩ = some (.int .i64 x.a) ∧ w'.cell? ⟨w.heap.size, 5, none⟩ = some (.int .i64 x.c) ∧ w'.cell? ⟨w.heap.size, 6, none⟩ = some (.int .i64 0)) (by kernel_rfl) z5 (fun hHeld => ?_)
      generalize W4.drew = U at HC7 HR7d HK7 m1 z5 hHeld ⊢
      have hU6 := HC7.out.past ((Below.refl U.heap.size U).alloc (Nat.le_refl _) (.cells #[.int .i64 x.op, .int .i64 x.d, .int .i64 x.n, .int .i64 x.m, .int .i64 x.a, .int .i64 x.c, .int .i64 0] 29))
      have hR6 : rowAt (U.alloc (.cells #[.int .i64 x.op, .int .i64 x.d, .int .i64 x.n, .int .i64 x.m, .int .i64 x.a, .int .i64 x.c, .int .i64 0] 29)) w.heap.size = some (arI (zIn x)) := rowAt_past HR7d.out _
      have m6 := rowAt_cell hU6.rw 1
      simp only [cellsR] at m6
      obtain ⟨v8, W8, hr8, ho8, hg8, hl8⟩ := run_append7 _ 63 0 (.slice a1 S.n cp1) S.n _ hU6.ins (some ⟨U.heap.size, 0, none⟩) 1 1 (fun _ => zIn x) (one_src (zIn x) U) (by omega) (Nat.zero_le _)
      obtain ⟨a8, cp8, rfl, _⟩ := own_form ho8
      have hb1 : ∀ g, (Value.slice a1 S.n cp1).ownBlock = some g → g ≠ w.heap.size := fun g hg e => by have := hfl g (H.out.f1 g hg); omega
      have hR8 : rowAt W8 w.heap.size = some (arI (zIn x)) := by
        obtain ⟨t, ht⟩ := rowAt_heap hR6
        exact rowAt_of ((hg8.block _ (rowAt_lt hR6) (fun e => hb1 _ e.symm rfl)).trans ht)
      have hq8 : rowAt W8 q = some _ := rowAt_of ((hg8.block q (hU6.fl q hU6.fp) (fun e => hU6.p1 e.symm rfl)).trans hU6.row)
      have m8 := rowAt_cell hq8 1
      have f8 := rowAt_frz hq8 1
      simp only [cellsR] at m8
      have hne : w.heap.size ≠ q := fun e => by have := hfl q H.out.fp; omega
      have hR9 : rowAt (W8.setCell ⟨q, 1, none⟩ (.slice a8 (S.n + 1) cp8)) w.heap.size = some (arI (zIn x)) := rowAt_set_far hR8 hne _ _
      have z6 := z7 hR6
      have z8 := z7 hR8
      have z9 := z7 hR9
      have HP8 := Lib.hid (((hU6.apped ho8 hg8 hl8 (show S.n + 1 ≤ 65536 by omega)).after (Kp.of_below ((Below.refl U.heap.size U).alloc (Nat.le_refl _) _))))
      clear hU6 hR6 ho8 hg8 hl8 hb1 hR8 hq8 hR9 HC7 HR7d
      refine wpAnyH_take (i := 0) (oi := { dst := some 64, op := Op.move (Operand.tmp 0), type := 71, pos := "ref.go:93", after := #[], guard := none }) (v := ?_) rfl (by kernel_rfl) (by kernel_rfl) (by kernel_rfl) (fun _ _ _ h => h) (Or.inl ⟨by rfl, ?_⟩) (by assumption) ?_
      rotate_left
      · (intro w0 hSw; (try dsimp only at hSw); go_split_ands; go_simp; with_reducible rfl)
      try simp only [Act.put, List.setIfInBounds_toArray, List.set_cons_zero, List.set_cons_succ]
      refine wpAnyH_take (i := 1) (oi := { dst := some 65, op := Op.move (Operand.tmp 0), type := 71, pos := "ref.go:93", after := #[], guard := none }) (v := ?_) rfl (by kernel_rfl) (by kernel_rfl) (by kernel_rfl) (fun _ _ _ h => h) (Or.inl ⟨by rfl, ?_⟩) (by assumption) ?_
      rotate_left
      · (intro w0 hSw; (try dsimp only at hSw); go_split_ands; go_simp; with_reducible rfl)
      try simp only [Act.put, List.setIfInBounds_toArray, List.set_cons_zero, List.set_cons_succ]
      refine wpAnyH_take (i := 2) (oi := { dst := some 66, op := Op.nilCheck (Operand.tmp 65), type := 0, pos := "ref.go:93", after := #[{ on := 1, ground := Ground.data }], guard := none }) (v := ?_) rfl (by kernel_rfl) (by kernel_rfl) (by kernel_rfl) (fun _ _ _ h => h) (Or.inl ⟨by rfl, ?_⟩) (by assumption) ?_
      rotate_left
      · (intro w0 hSw; (try dsimp only at hSw); go_split_ands; go_simp; with_reducible rfl)
      try simp only [Act.put, List.setIfInBounds_toArray, List.set_cons_zero, List.set_cons_succ]
      refine wpAnyH_take (i := 3) (oi := { dst := some 67, op := Op.fieldAddr 74 (Operand.tmp 66) 1, type := 0, pos := "ref.go:93", after := #[{ on := 2, ground := Ground.data }], guard := none }) (v := ?_) rfl (by kernel_rfl) (by kernel_rfl) (by kernel_rfl) (fun _ _ _ h => h) (Or.inl ⟨by rfl, ?_⟩) (by assumption) ?_
      rotate_left
      · (intro w0 hSw; (try dsimp only at hSw); go_split_ands; go_simp; with_reducible rfl)
      try simp only [Act.put, List.setIfInBounds_toArray, List.set_cons_zero, List.set_cons_succ]
      refine wpAnyH_take (i := 5) (oi := { dst := some 69, op := Op.load 29 (Operand.tmp 4), type := 29, pos := "ref.go:93", after := #[], guard := none }) (v := ?_) rfl (by kernel_rfl) (by kernel_rfl) (by kernel_rfl) (fun _ _ _ h => h) (Or.inl ⟨by rfl, ?_⟩) (by assumption) ?_
      rotate_left
      · (intro w0 hSw; (try dsimp only at hSw); go_split_ands; go_simp; with_reducible rfl)
      try simp only [Act.put, List.setIfInBounds_toArray, List.set_cons_zero, List.set_cons_succ]
      refine wpAnyH_ready (rs := [4, 6]) (by kernel_rfl) (by simp) ?_
      refine AllReadyH.cons (o := { dst := some 68, op := Op.load 63 (Operand.tmp 67), type := 63, pos := "ref.go:93", after := #[{ on := 3, ground := Ground.data }], guard := none }) rfl (fun K hK => ?_) (AllReadyH.cons (o := { dst := some 70, op := Op.buildSlice 63 1 #[(0, Operand.tmp 69)], type := 63, pos := "ref.go:93", after := #[{ on := 5, ground := Ground.data }], guard := none }) rfl (fun K hK => ?_) AllReadyH.nil)
      · go_simp
        refine hK.out _ _ z5 (fun hHeld => ?_)
        clear hK K
        try simp only [Act.put, List.setIfInBounds_toArray, List.set_cons_zero, List.set_cons_succ]
        refine wpAnyH_ready (rs := [6]) (by kernel_rfl) (by simp) ?_
        refine AllReadyH.cons (o := { dst := some 70, op := Op.buildSlice 63 1 #[(0, Operand.tmp 69)], type := 63, pos := "ref.go:93", after := #[{ on := 5, ground := Ground.data }], guard := none }) rfl (fun K hK => ?_) AllReadyH.nil
        go_simp
        refine hK.out _ _ z6 (fun hHeld => ?_)
        clear hK K
        try simp only [Act.put, List.setIfInBounds_toArray, List.set_cons_zero, List.set_cons_succ]
        refine wpAnyH_ready (rs := [7]) (by kernel_rfl) (by simp) ?_
        refine AllReadyH.cons (o := { dst := some 71, op := Op.call { callee := Callee.builtin Builtin.append, args := #[Operand.tmp 68, Operand.tmp 70], argTypes := #[63, 63] }, type := 63, pos := "ref.go:93", after := #[{ on := 4, ground := Ground.data }, { on := 6, ground := Ground.data }], guard := none }) rfl (fun K hK => ?_) AllReadyH.nil
        refine step_append_run rfl _ _ _ rfl _ _ _ _ rfl rfl hr8 ?_
        refine hK.out _ _ z8 (fun hHeld => ?_)
        clear hK K
        try simp only [Act.put, List.setIfInBounds_toArray, List.set_cons_zero, List.set_cons_succ]
        refine wpAnyH_take (i := 8) (oi := { dst := some 72, op := Op.nilCheck (Operand.tmp 64), type := 0, pos := "ref.go:93", after := #[{ on := 0, ground := Ground.data }, { on := 0, ground := Ground.phase }, { on := 1, ground := Ground.phase }, { on := 2, ground := Ground.phase }, { on := 3, ground := Ground.phase }, { on := 4, ground := Ground.phase }, { on := 5, ground := Ground.phase }, { on := 6, ground := Ground.phase }, { on := 7, ground := Ground.phase }], guard := none }) (v := ?_) rfl (by kernel_rfl) (by kernel_rfl) (by kernel_rfl) (fun _ _ _ h => h) (Or.inl ⟨by rfl, ?_⟩) (by assumption) ?_
        rotate_left
        · (intro w0 hSw; (try dsimp only at hSw); go_split_ands; go_simp; with_reducible rfl)
        try simp only [Act.put, List.setIfInBounds_toArray, List.set_cons_zero, List.set_cons_succ]
        refine wpAnyH_take (i := 9) (oi := { dst := some 73, op := Op.fieldAddr 74 (Operand.tmp 72) 1, type := 0, pos := "ref.go:93", after := #[{ on := 8, ground := Ground.data }, { on := 0, ground := Ground.phase }, { on := 1, ground := Ground.phase }, { on := 2, ground := Ground.phase }, { on := 3, ground := Ground.phase }, { on := 4, ground := Ground.phase }, { on := 5, ground := Ground.phase }, { on := 6, ground := Ground.phase }, { on := 7, ground := Ground.phase }], guard := none }) (v := ?_) rfl (by kernel_rfl) (by kernel_rfl) (by kernel_rfl) (fun _ _ _ h => h) (Or.inl ⟨by rfl, ?_⟩) (by assumption) ?_
        rotate_left
        · (intro w0 hSw; (try dsimp only at hSw); go_split_ands; go_simp; with_reducible rfl)
        try simp only [Act.put, List.setIfInBounds_toArray, List.set_cons_zero, List.set_cons_succ]
        refine wpAnyH_ready (rs := [10]) (by kernel_rfl) (by simp) ?_
        refine AllReadyH.cons (o := { dst := none, op := Op.store 63 (Operand.tmp 73) (Operand.tmp 71), type := 0, pos := "ref.go:93", after := #[{ on := 9, ground := Ground.data }, { on := 7, ground := Ground.data }, { on := 7, ground := Ground.chain }, { on := 0, ground := Ground.phase }, { on := 1, ground := Ground.phase }, { on := 2, ground := Ground.phase }, { on := 3, ground := Ground.phase }, { on := 4, ground := Ground.phase }, { on := 5, ground := Ground.phase }, { on := 6, ground := Ground.phase }, { on := 7, ground := Ground.phase }], guard := none }) rfl (fun K hK => ?_) AllReadyH.nil
        go_simp
        refine hK.out _ _ z9 (fun hHeld => ?_)
        clear hK K
        try simp only [Act.put, List.setIfInBounds_toArray, List.set_cons_zero, List.set_cons_succ]
        refine wpAnyH_done (by kernel_rfl) ?_ _
        clear hHeld
        go_end0
        exact ⟨rfl, fin8 HP8.out HF7.out HK7.out⟩
      · go_simp
        refine hK.out _ _ z6 (fun hHeld => ?_)
        clear hK K
        try simp only [Act.put, List.setIfInBounds_toArray, List.set_cons_zero, List.set_cons_succ]
        refine wpAnyH_ready (rs := [4]) (by kernel_rfl) (by simp) ?_
        refine AllReadyH.cons (o := { dst := some 68, op := Op.load 63 (Operand.tmp 67), type := 63, pos := "ref.go:93", after := #[{ on := 3, ground := Ground.data }], guard := none }) rfl (fun K hK => ?_) AllReadyH.nil
        go_simp
        refine hK.out _ _ z6 (fun hHeld => ?_)
        clear hK K
        try simp only [Act.put, List.setIfInBounds_toArray, List.set_cons_zero, List.set_cons_succ]
        refine wpAnyH_ready (rs := [7]) (by kernel_rfl) (by simp) ?_
        refine AllReadyH.cons (o := { dst := some 71, op := Op.call { callee := Callee.builtin Builtin.append, args := #[Operand.tmp 68, Operand.tmp 70], argTypes := #[63, 63] }, type := 63, pos := "ref.go:93", after := #[{ on := 4, ground := Ground.data }, { on := 6, ground := Ground.data }], guard := none }) rfl (fun K hK => ?_) AllReadyH.nil
        refine step_append_run rfl _ _ _ rfl _ _ _ _ rfl rfl hr8 ?_
        refine hK.out _ _ z8 (fun hHeld => ?_)
        clear hK K
        try simp only [Act.put, List.setIfInBounds_toArray, List.set_cons_zero, List.set_cons_succ]
        refine wpAnyH_take (i := 8) (oi := { dst := some 72, op := Op.nilCheck (Operand.tmp 64), type := 0, pos := "ref.go:93", after := #[{ on := 0, ground := Ground.data }, { on := 0, ground := Ground.phase }, { on := 1, ground := Ground.phase }, { on := 2, ground := Ground.phase }, { on := 3, ground := Ground.phase }, { on := 4, ground := Ground.phase }, { on := 5, ground := Ground.phase }, { on := 6, ground := Ground.phase }, { on := 7, ground := Ground.phase }], guard := none }) (v := ?_) rfl (by kernel_rfl) (by kernel_rfl) (by kernel_rfl) (fun _ _ _ h => h) (Or.inl ⟨by rfl, ?_⟩) (by assumption) ?_
        rotate_left
        · (intro w0 hSw; (try dsimp only at hSw); go_split_ands; go_simp; with_reducible rfl)
        try simp only [Act.put, List.setIfInBounds_toArray, List.set_cons_zero, List.set_cons_succ]
        refine wpAnyH_take (i := 9) (oi := { dst := some 73, op := Op.fieldAddr 74 (Operand.tmp 72) 1, type := 0, pos := "ref.go:93", after := #[{ on := 8, ground := Ground.data }, { on := 0, ground := Ground.phase }, { on := 1, ground := Ground.phase }, { on := 2, ground := Ground.phase }, { on := 3, ground := Ground.phase }, { on := 4, ground := Ground.phase }, { on := 5, ground := Ground.phase }, { on := 6, ground := Ground.phase }, { on := 7, ground := Ground.phase }], guard := none }) (v := ?_) rfl (by kernel_rfl) (by kernel_rfl) (by kernel_rfl) (fun _ _ _ h => h) (Or.inl ⟨by rfl, ?_⟩) (by assumption) ?_
        rotate_left
        · (intro w0 hSw; (try dsimp only at hSw); go_split_ands; go_simp; with_reducible rfl)
        try simp only [Act.put, List.setIfInBounds_toArray, List.set_cons_zero, List.set_cons_succ]
        refine wpAnyH_ready (rs := [10]) (by kernel_rfl) (by simp) ?_
        refine AllReadyH.cons (o := { dst := none, op := Op.store 63 (Operand.tmp 73) (Operand.tmp 71), type := 0, pos := "ref.go:93", after := #[{ on := 9, ground := Ground.data }, { on := 7, ground := Ground.data }, { on := 7, ground := Ground.chain }, { on := 0, ground := Ground.phase }, { on := 1, ground := Ground.phase }, { on := 2, ground := Ground.phase }, { on := 3, ground := Ground.phase }, { on := 4, ground := Ground.phase }, { on := 5, ground := Ground.phase }, { on := 6, ground := Ground.phase }, { on := 7, ground := Ground.phase }], guard := none }) rfl (fun K hK => ?_) AllReadyH.nil
        go_simp
        refine hK.out _ _ z9 (fun hHeld => ?_)
        clear hK K
        try simp only [Act.put, List.setIfInBounds_toArray, List.set_cons_zero, List.set_cons_succ]
        refine wpAnyH_done (by kernel_rfl) ?_ _
        clear hHeld
        go_end0
        exact ⟨rfl, fin8 HP8.out HF7.out HK7.out⟩
    · go_simp
      refine hK.out _ _ kA1 (fun hHeld => ?_)
      clear hK K
      try simp only [Act.put, List.setIfInBounds_toArray, List.set_cons_zero, List.set_cons_succ]
      refine wpAnyH_ready (rs := [4]) (by kernel_rfl) (by simp) ?_
      refine AllReadyH.cons (o := { dst := some 52, op := Op.load 72 (Operand.tmp 51), type := 72, pos := "ref.go:92", after := #[{ on := 3, ground := Ground.data }], guard := none }) rfl (fun K hK => ?_) AllReadyH.nil
      go_simp
      refine hK.out _ _ kA1 (fun hHeld => ?_)
      clear hK K
      try simp only [Act.put, List.setIfInBounds_toArray, List.set_cons_zero, List.set_cons_succ]
      refine wpAnyH_ready (rs := [13]) (by kernel_rfl) (by simp) ?_
      refine AllReadyH.cons (o := { dst := some 61, op := Op.call { callee := Callee.builtin Builtin.append, args := #[Operand.tmp 52, Operand.tmp 60], argTypes := #[72, 72] }, type := 72, pos := "ref.go:92", after := #[{ on := 4, ground := Ground.data }, { on := 12, ground := Ground.data }], guard := none }) rfl (fun K hK => ?_) AllReadyH.nil
      refine step_append_run rfl _ _ _ rfl _ _ _ _ rfl rfl hr ?_
      refine hK.out _ _ k31 (fun hHeld => ?_)
      clear hK K
      try simp only [Act.put, List.setIfInBounds_toArray, List.set_cons_zero, List.set_cons_succ]
      refine wpAnyH_take (i := 14) (oi := { dst := some 62, op := Op.nilCheck (Operand.tmp 48), type := 0, pos := "ref.go:92", after := #[{ on := 0, ground := Ground.data }, { on := 0, ground := Ground.phase }, { on := 1, ground := Ground.phase }, { on := 2, ground := Ground.phase }, { on := 3, ground := Ground.phase }, { on := 4, ground := Ground.phase }, { on := 5, ground := Ground.phase }, { on := 6, ground := Ground.phase }, { on := 7, ground := Ground.phase }, { on := 8, ground := Ground.phase }, { on := 9, ground := Ground.phase }, { on := 10, ground := Ground.phase }, { on := 11, ground := Ground.phase }, { on := 12, ground := Ground.phase }, { on := 13, ground := Ground.phase }], guard := none }) (v := ?_) rfl (by kernel_rfl) (by kernel_rfl) (by kernel_rfl) (fun _ _ _ h => h) (Or.inl ⟨by rfl, ?_⟩) (by assumption) ?_
      rotate_left
      · (intro w0 hSw; (try dsimp only at hSw); go_split_ands; go_simp; with_reducible rfl)
      try simp only [Act.put, List.setIfInBounds_toArray, List.set_cons_zero, List.set_cons_succ]
      refine wpAnyH_take (i := 15) (oi := { dst := some 63, op := Op.fieldAddr 74 (Operand.tmp 62) 3, type := 0, pos := "ref.go:92", after := #[{ on := 14, ground := Ground.data }, { on := 0, ground := Ground.phase }, { on := 1, ground := Ground.phase }, { on := 2, ground := Ground.phase }, { on := 3, ground := Ground.phase }, { on := 4, ground := Ground.phase }, { on := 5, ground := Ground.phase }, { on := 6, ground := Ground.phase }, { on := 7, ground := Ground.phase }, { on := 8, ground := Ground.phase }, { on := 9, ground := Ground.phase }, { on := 10, ground := Ground.phase }, { on := 11, ground := Ground.phase }, { on := 12, ground := Ground.phase }, { on := 13, ground := Ground.phase }], guard := none }) (v := ?_) rfl (by kernel_rfl) (by kernel_rfl) (by kernel_rfl) (fun _ _ _ h => h) (Or.inl ⟨by rfl, ?_⟩) (by assumption) ?_
      rotate_left
      · (intro w0 hSw; (try dsimp only at hSw); go_split_ands; go_simp; with_reducible rfl)
      try simp only [Act.put, List.setIfInBounds_toArray, List.set_cons_zero, List.set_cons_succ]
      refine wpAnyH_ready (rs := [16]) (by kernel_rfl) (by simp) ?_
      refine AllReadyH.cons (o := { dst := none, op := Op.store 72 (Operand.tmp 63) (Operand.tmp 61), type := 0, pos := "ref.go:92", after := #[{ on := 15, ground := Ground.data }, { on := 13, ground := Ground.data }, { on := 13, ground := Ground.chain }, { on := 0, ground := Ground.phase }, { on := 1, ground := Ground.phase }, { on := 2, ground := Ground.phase }, { on := 3, ground := Ground.phase }, { on := 4, ground := Ground.phase }, { on := 5, ground := Ground.phase }, { on := 6, ground := Ground.phase }, { on := 7, ground := Ground.phase }, { on := 8, ground := Ground.phase }, { on := 9, ground := Ground.phase }, { on := 10, ground := Ground.phase }, { on := 11, ground := Ground.phase }, { on := 12, ground := Ground.phase }, { on := 13, ground := Ground.phase }], guard := none }) rfl (fun K hK => ?_) AllReadyH.nil
      go_simp
      refine hK.out _ _ k41 (fun hHeld => ?_)
      clear hK K
      try simp only [Act.put, List.setIfInBounds_toArray, List.set_cons_zero, List.set_cons_succ]
      refine wpAnyH_done (by kernel_rfl) ?_ _
      clear hHeld
      go_upto_region 8 with (fail)
      try rw [hW4]
      have m1 := rowAt_cell HC7.out.rw 1
      simp only [cellsR] at m1
      have z5 : W4.drew.cell? ⟨w.heap.size, 0, none⟩ = some (.int .i64 x.op) ∧ W4.drew.cell? ⟨w.heap.size, 1, none⟩ = some (.int .i64 x.d) ∧ W4.drew.cell? ⟨w.heap.size, 2, none⟩ = some (.int .i64 x.n) ∧ W4.drew.cell? ⟨w.heap.size, 3, none⟩ = some (.int .i64 x.m) ∧ W4.drew.cell? ⟨w.heap.size, 4, none⟩ = some (.int .i64 x.a) ∧ W4.drew.cell? ⟨w.heap.size, 5, none⟩ = some (.int .i64 x.c) ∧ W4.drew.cell? ⟨w.heap.size, 6, none⟩ = some (.int .i64 0) := z7 HR7d.out
      refine wp_region_held_drew (S := fun w' => w'.cell? ⟨w.heap.size, 0, none⟩ = some (.int .i64 x.op) ∧ w'.cell? ⟨w.heap.size, 1, none⟩ = some (.int .i64 x.d) ∧ w'.cell? ⟨w.heap.size, 2, none⟩ = some (.int .i64 x.n) ∧ w'.cell? ⟨w.heap.size, 3, none⟩ = some (.int .i64 x.m) ∧ w'.cell? ⟨w.heap.size, 4, none⟩ = some (.int .i64 x.a) ∧ w'.cell? ⟨w.heap.size, 5, none⟩ = some (.int .i64 x.c) ∧ w'.cell? ⟨w.heap.size, 6, none⟩ = some (.int .i64 0)) (by kernel_rfl) z5 (fun hHeld => ?_)
      generalize W4.drew = U at HC7 HR7d HK7 m1 z5 hHeld ⊢
      have hU6 := HC7.out.past ((Below.refl U.heap.size U).alloc (Nat.le_refl _) (.cells #[.int .i64 x.op, .int .i64 x.d, .int .i64 x.n, .int .i64 x.m, .int .i64 x.a, .int .i64 x.c, .int .i64 0] 29))
      have hR6 : rowAt (U.alloc (.cells #[.int .i64 x.op, .int .i64 x.d, .int .i64 x.n, .int .i64 x.m, .int .i64 x.a, .int .i64 x.c, .int .i64 0] 29)) w.heap.size = some (arI (zIn x)) := rowAt_past HR7d.out _
      have m6 := rowAt_cell hU6.rw 1
      simp only [cellsR] at m6
      obtain ⟨v8, W8, hr8, ho8, hg8, hl8⟩ := run_append7 _ 63 0 (.slice a1 S.n cp1) S.n _ hU6.ins (some ⟨U.heap.size, 0, none⟩) 1 1 (fun _ => zIn x) (one_src (zIn x) U) (by omega) (Nat.zero_le _)
      obtain ⟨a8, cp8, rfl, _⟩ := own_form ho8
      have hb1 : ∀ g, (Value.slice a1 S.n cp1).ownBlock = some g → g ≠ w.heap.size := fun g hg e => by have := hfl g (H.out.f1 g hg); omega
      have hR8 : rowAt W8 w.heap.size = some (arI (zIn x)) := by
        obtain ⟨t, ht⟩ := rowAt_heap hR6
        exact rowAt_of ((hg8.block _ (rowAt_lt hR6) (fun e => hb1 _ e.symm rfl)).trans ht)
      have hq8 : rowAt W8 q = some _ := rowAt_of ((hg8.block q (hU6.fl q hU6.fp) (fun e => hU6.p1 e.symm rfl)).trans hU6.row)
      have m8 := rowAt_cell hq8 1
      have f8 := rowAt_frz hq8 1
      simp only [cellsR] at m8
      have hne : w.heap.size ≠ q := fun e => by have := hfl q H.out.fp; omega
      have hR9 : rowAt (W8.setCell ⟨q, 1, none⟩ (.slice a8 (S.n + 1) cp8)) w.heap.size = some (arI (zIn x)) := rowAt_set_far hR8 hne _ _
      have z6 := z7 hR6
      have z8 := z7 hR8
      have z9 := z7 hR9
      have HP8 := Lib.hid (((hU6.apped ho8 hg8 hl8 (show S.n + 1 ≤ 65536 by omega)).after (Kp.of_below ((Below.refl U.heap.size U).alloc (Nat.le_refl _) _))))
      clear hU6 hR6 ho8 hg8 hl8 hb1 hR8 hq8 hR9 HC7 HR7d
      refine wpAnyH_take (i := 0) (oi := { dst := some 64, op := Op.move (Operand.tmp 0), type := 71, pos := "ref.go:93", after := #[], guard := none }) (v := ?_) rfl (by kernel_rfl) (by kernel_rfl) (by kernel_rfl) (fun _ _ _ h => h) (Or.inl ⟨by rfl, ?_⟩) (by assumption) ?_
      rotate_left
      · (intro w0 hSw; (try dsimp only at hSw); go_split_ands; go_simp; with_reducible rfl)
      try simp only [Act.put, List.setIfInBounds_toArray, List.set_cons_zero, List.set_cons_succ]
      refine wpAnyH_take (i := 1) (oi := { dst := some 65, op := Op.move (Operand.tmp 0), type := 71, pos := "ref.go:93", after := #[], guard := none }) (v := ?_) rfl (by kernel_rfl) (by kernel_rfl) (by kernel_rfl) (fun _ _ _ h => h) (Or.inl ⟨by rfl, ?_⟩) (by assumption) ?_
      rotate_left
      · (intro w0 hSw; (try dsimp only at hSw); go_split_ands; go_simp; with_reducible rfl)
      try simp only [Act.put, List.setIfInBounds_toArray, List.set_cons_zero, List.set_cons_succ]
      refine wpAnyH_take (i := 2) (oi := { dst := some 66, op := Op.nilCheck (Operand.tmp 65), type := 0, pos := "ref.go:93", after := #[{ on := 1, ground := Ground.data }], guard := none }) (v := ?_) rfl (by kernel_rfl) (by kernel_rfl) (by kernel_rfl) (fun _ _ _ h => h) (Or.inl ⟨by rfl, ?_⟩) (by assumption) ?_
      rotate_left
      · (intro w0 hSw; (try dsimp only at hSw); go_split_ands; go_simp; with_reducible rfl)
      try simp only [Act.put, List.setIfInBounds_toArray, List.set_cons_zero, List.set_cons_succ]
      refine wpAnyH_take (i := 3) (oi := { dst := some 67, op := Op.fieldAddr 74 (Operand.tmp 66) 1, type := 0, pos := "ref.go:93", after := #[{ on := 2, ground := Ground.data }], guard := none }) (v := ?_) rfl (by kernel_rfl) (by kernel_rfl) (by kernel_rfl) (fun _ _ _ h => h) (Or.inl ⟨by rfl, ?_⟩) (by assumption) ?_
      rotate_left
      · (intro w0 hSw; (try dsimp only at hSw); go_split_ands; go_simp; with_reducible rfl)
      try simp only [Act.put, List.setIfInBounds_toArray, List.set_cons_zero, List.set_cons_succ]
      refine wpAnyH_take (i := 5) (oi := { dst := some 69, op := Op.load 29 (Operand.tmp 4), type := 29, pos := "ref.go:93", after := #[], guard := none }) (v := ?_) rfl (by kernel_rfl) (by kernel_rfl) (by kernel_rfl) (fun _ _ _ h => h) (Or.inl ⟨by rfl, ?_⟩) (by assumption) ?_
      rotate_left
      · (intro w0 hSw; (try dsimp only at hSw); go_split_ands; go_simp; with_reducible rfl)
      try simp only [Act.put, List.setIfInBounds_toArray, List.set_cons_zero, List.set_cons_succ]
      refine wpAnyH_ready (rs := [4, 6]) (by kernel_rfl) (by simp) ?_
      refine AllReadyH.cons (o := { dst := some 68, op := Op.load 63 (Operand.tmp 67), type := 63, pos := "ref.go:93", after := #[{ on := 3, ground := Ground.data }], guard := none }) rfl (fun K hK => ?_) (AllReadyH.cons (o := { dst := some 70, op := Op.buildSlice 63 1 #[(0, Operand.tmp 69)], type := 63, pos := "ref.go:93", after := #[{ on := 5, ground := Ground.data }], guard := none }) rfl (fun K hK => ?_) AllReadyH.nil)
      · go_simp
        refine hK.out _ _ z5 (fun hHeld => ?_)
        clear hK K
        try simp only [Act.put, List.setIfInBounds_toArray, List.set_cons_zero, List.set_cons_succ]
        refine wpAnyH_ready (rs := [6]) (by kernel_rfl) (by simp) ?_
        refine AllReadyH.cons (o := { dst := some 70, op := Op.buildSlice 63 1 #[(0, Operand.tmp 69)], type := 63, pos := "ref.go:93", after := #[{ on := 5, ground := Ground.data }], guard := none }) rfl (fun K hK => ?_) AllReadyH.nil
        go_simp
        refine hK.out _ _ z6 (fun hHeld => ?_)
        clear hK K
        try simp only [Act.put, List.setIfInBounds_toArray, List.set_cons_zero, List.set_cons_succ]
        refine wpAnyH_ready (rs := [7]) (by kernel_rfl) (by simp) ?_
        refine AllReadyH.cons (o := { dst := some 71, op := Op.call { callee := Callee.builtin Builtin.append, args := #[Operand.tmp 68, Operand.tmp 70], argTypes := #[63, 63] }, type := 63, pos := "ref.go:93", after := #[{ on := 4, ground := Ground.data }, { on := 6, ground := Ground.data }], guard := none }) rfl (fun K hK => ?_) AllReadyH.nil
        refine step_append_run rfl _ _ _ rfl _ _ _ _ rfl rfl hr8 ?_
        refine hK.out _ _ z8 (fun hHeld => ?_)
        clear hK K
        try simp only [Act.put, List.setIfInBounds_toArray, List.set_cons_zero, List.set_cons_succ]
        refine wpAnyH_take (i := 8) (oi := { dst := some 72, op := Op.nilCheck (Operand.tmp 64), type := 0, pos := "ref.go:93", after := #[{ on := 0, ground := Ground.data }, { on := 0, ground := Ground.phase }, { on := 1, ground := Ground.phase }, { on := 2, ground := Ground.phase }, { on := 3, ground := Ground.phase }, { on := 4, ground := Ground.phase }, { on := 5, ground := Ground.phase }, { on := 6, ground := Ground.phase }, { on := 7, ground := Ground.phase }], guard := none }) (v := ?_) rfl (by kernel_rfl) (by kernel_rfl) (by kernel_rfl) (fun _ _ _ h => h) (Or.inl ⟨by rfl, ?_⟩) (by assumption) ?_
        rotate_left
        · (intro w0 hSw; (try dsimp only at hSw); go_split_ands; go_simp; with_reducible rfl)
        try simp only [Act.put, List.setIfInBounds_toArray, List.set_cons_zero, List.set_cons_succ]
        refine wpAnyH_take (i := 9) (oi := { dst := some 73, op := Op.fieldAddr 74 (Operand.tmp 72) 1, type := 0, pos := "ref.go:93", after := #[{ on := 8, ground := Ground.data }, { on := 0, ground := Ground.phase }, { on := 1, ground := Ground.phase }, { on := 2, ground := Ground.phase }, { on := 3, ground := Ground.phase }, { on := 4, ground := Ground.phase }, { on := 5, ground := Ground.phase }, { on := 6, ground := Ground.phase }, { on := 7, ground := Ground.phase }], guard := none }) (v := ?_) rfl (by kernel_rfl) (by kernel_rfl) (by kernel_rfl) (fun _ _ _ h => h) (Or.inl ⟨by rfl, ?_⟩) (by assumption) ?_
        rotate_left
        · (intro w0 hSw; (try dsimp only at hSw); go_split_ands; go_simp; with_reducible rfl)
        try simp only [Act.put, List.setIfInBounds_toArray, List.set_cons_zero, List.set_cons_succ]
        refine wpAnyH_ready (rs := [10]) (by kernel_rfl) (by simp) ?_
        refine AllReadyH.cons (o := { dst := none, op := Op.store 63 (Operand.tmp 73) (Operand.tmp 71), type := 0, pos := "ref.go:93", after := #[{ on := 9, ground := Ground.data }, { on := 7, ground := Ground.data }, { on := 7, ground := Ground.chain }, { on := 0, ground := Ground.phase }, { on := 1, ground := Ground.phase }, { on := 2, ground := Ground.phase }, { on := 3, ground := Ground.phase }, { on := 4, ground := Ground.phase }, { on := 5, ground := Ground.phase }, { on := 6, ground := Ground.phase }, { on := 7, ground := Ground.phase }], guard := none }) rfl (fun K hK => ?_) AllReadyH.nil
        go_simp
        refine hK.out _ _ z9 (fun hHeld => ?_)
        clear hK K
        try simp only [Act.put, List.setIfInBounds_toArray, List.set_cons_zero, List.set_cons_succ]
        refine wpAnyH_done (by kernel_rfl) ?_ _
        clear hHeld
        go_end0
        exact ⟨rfl, fin8 HP8.out HF7.out HK7.out⟩
      · go_simp
        refine hK.out _ _ z6 (fun hHeld => ?_)
        clear hK K
        try simp only [Act.put, List.setIfInBounds_toArray, List.set_cons_zero, List.set_cons_succ]
        refine wpAnyH_ready (rs := [4]) (by kernel_rfl) (by simp) ?_
        refine AllReadyH.cons (o := { dst := some 68, op := Op.load 63 (Operand.tmp 67), type := 63, pos := "ref.go:93", after := #[{ on := 3, ground := Ground.data }], guard := none }) rfl (fun K hK => ?_) AllReadyH.nil
        go_simp
        refine hK.out _ _ z6 (fun hHeld => ?_)
        clear hK K
        try simp only [Act.put, List.setIfInBounds_toArray, List.set_cons_zero, List.set_cons_succ]
        refine wpAnyH_ready (rs := [7]) (by kernel_rfl) (by simp) ?_
        refine AllReadyH.cons (o := { dst := some 71, op := Op.call { callee := Callee.builtin Builtin.append, args := #[Operand.tmp 68, Operand.tmp 70], argTypes := #[63, 63] }, type := 63, pos := "ref.go:93", after := #[{ on := 4, ground := Ground.data }, { on := 6, ground := Ground.data }], guard := none }) rfl (fun K hK => ?_) AllReadyH.nil
        refine step_append_run rfl _ _ _ rfl _ _ _ _ rfl rfl hr8 ?_
        refine hK.out _ _ z8 (fun hHeld => ?_)
        clear hK K
        try simp only [Act.put, List.setIfInBounds_toArray, List.set_cons_zero, List.set_cons_succ]
        refine wpAnyH_take (i := 8) (oi := { dst := some 72, op := Op.nilCheck (Operand.tmp 64), type := 0, pos := "ref.go:93", after := #[{ on := 0, ground := Ground.data }, { on := 0, ground := Ground.phase }, { on := 1, ground := Ground.phase }, { on := 2, ground := Ground.phase }, { on := 3, ground := Ground.phase }, { on := 4, ground := Ground.phase }, { on := 5, ground := Ground.phase }, { on := 6, ground := Ground.phase }, { on := 7, ground := Ground.phase }], guard := none }) (v := ?_) rfl (by kernel_rfl) (by kernel_rfl) (by kernel_rfl) (fun _ _ _ h => h) (Or.inl ⟨by rfl, ?_⟩) (by assumption) ?_
        rotate_left
        · (intro w0 hSw; (try dsimp only at hSw); go_split_ands; go_simp; with_reducible rfl)
        try simp only [Act.put, List.setIfInBounds_toArray, List.set_cons_zero, List.set_cons_succ]
        refine wpAnyH_take (i := 9) (oi := { dst := some 73, op := Op.fieldAddr 74 (Operand.tmp 72) 1, type := 0, pos := "ref.go:93", after := #[{ on := 8, ground := Ground.data }, { on := 0, ground := Ground.phase }, { on := 1, ground := Ground.phase }, { on := 2, ground := Ground.phase }, { on := 3, ground := Ground.phase }, { on := 4, ground := Ground.phase }, { on := 5, ground := Ground.phase }, { on := 6, ground := Ground.phase }, { on := 7, ground := Ground.phase }], guard := none }) (v := ?_) rfl (by kernel_rfl) (by kernel_rfl) (by kernel_rfl) (fun _ _ _ h => h) (Or.inl ⟨by rfl, ?_⟩) (by assumption) ?_
        rotate_left
        · (intro w0 hSw; (try dsimp only at hSw); go_split_ands; go_simp; with_reducible rfl)
        try simp only [Act.put, List.setIfInBounds_toArray, List.set_cons_zero, List.set_cons_succ]
        refine wpAnyH_ready (rs := [10]) (by kernel_rfl) (by simp) ?_
        refine AllReadyH.cons (o := { dst := none, op := Op.store 63 (Operand.tmp 73) (Operand.tmp 71), type := 0, pos := "ref.go:93", after := #[{ on := 9, ground := Ground.data }, { on := 7, ground := Ground.data }, { on := 7, ground := Ground.chain }, { on := 0, ground := Ground.phase }, { on := 1, ground := Ground.phase }, { on := 2, ground := Ground.phase }, { on := 3, ground := Ground.phase }, { on := 4, ground := Ground.phase }, { on := 5, ground := Ground.phase }, { on := 6, ground := Ground.phase }, { on := 7, ground := Ground.phase }], guard := none }) rfl (fun K hK => ?_) AllReadyH.nil
        go_simp
        refine hK.out _ _ z9 (fun hHeld => ?_)
        clear hK K
        try simp only [Act.put, List.setIfInBounds_toArray, List.set_cons_zero, List.set_cons_succ]
        refine wpAnyH_done (by kernel_rfl) ?_ _
        clear hHeld
        go_end0
        exact ⟨rfl, fin8 HP8.out HF7.out HK7.out⟩
end Go.Proofs.Ytnbpgoacooddjaa.Lab
